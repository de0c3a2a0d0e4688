import PyProof.Rows.All
import Wide.All
import OpenK.AllK
import Wide.FinOn
import Lean
import PyProof.EqAt
import PyProof.EqKinds
import PyProof.TupleCall
import KE.KSortKey
import PyProof.ListMulRoad
import PyProof.Draws
import PyProof.EnumMake
import PyProof.ListNew
import KE.KRevIter
import KE.KMinKey
import PyProof.TupleKey
import PySem.Challenge.RW_benchdays_k45_left_plans_told
set_option Elab.async false
set_option linter.all false
set_option maxRecDepth 100000
noncomputable section
set_option hygiene false in
local macro_rules | `(tactic| and_intros) => `(tactic| intro ρ σ H hd ls Q d hd' hR hL hm hQ)
open List(mem_cons mem_filter filterMap_cons mem_cons_self mem_cons_of_mem mem_append mem_append_left mem_append_right size_toArray append_nil nodup_cons length_take mem_of_getElem? length_append length_map length_drop replicate_succ flatten_cons append_assoc map_nil map_cons find?_cons any_cons length_cons length_nil lookup_cons lookup_append mem_map all_eq_true mem_singleton mem_iff_getElem? cons_append nodup_append map_map drop_eq_getElem_cons drop_length not_mem_nil ext_getElem? filter_cons sum_cons map_append all_map)
open Option(bind_some isSome_iff_exists none_or getD_some map_eq_some_iff map_some)
open Nat(lt_of_lt_of_le lt_irrefl ne_of_lt le_trans le_of_lt ne_of_gt le_refl lt_trans zero_le lt_succ_of_lt le_add_right le_succ)
open Int(toNat_natCast)
def Yd{α β:Type _}{o:Option α}{f:α->Option β}{b:β}(h:o.bind f=some b):∃a,o=some a/\f a=some b:=Option.bind_eq_some_iff.mp h
def Ye{α β:Type _}{o:Option α}{f:α->β}{b:β}(h:o.map f=some b):∃a,o=some a/\f a=b:=Option.map_eq_some_iff.mp h
set_option compiler.extract_closed false
local macro_rules | `(tactic| omega) => `(tactic| first | lia | omega (config := {}))
namespace Ea
open PySem PySem.W
def dA(s:Stmt):Arguments:=match s with
 |.FunctionDef _ a _ _ _ _ _ _ _ _=>a
 |_=>{ posonlyargs:=[],args:=[],vararg:=none,kwonlyargs:=[],kw_defaults:=[],kwarg:=none,defaults:=[] }
def dB(s:Stmt):List Stmt:=match s with
 |.FunctionDef _ _ b _ _ _ _ _ _ _=>b
 |_=>[]
def dS(s:Stmt):Scope:=match s with
 |.FunctionDef _ _ _ _ _ _ sc _ _ _=>sc
 |_=>{ kind:=.function,names:=[],isGenerator:=false,isCoroutine:=false }
def tO(o:Obj):Option Addr:=match o.data with
 | .fields vs=>(match (vs[11]?:Option Value)with
  |some (Value.ref P)=>some P
  | _=>none)
 |_=>none
def At(K:Frag)(n:Str)(s:Stmt)(f:Addr)(cd:Value):Prop:=∃oc kV dc pm ct od an sl,nsIn K mainGlobals n=some (some (.ref f))/\K.lookup f=some ⟨oc,od,.func (fnOf n n (dA s) (dB s) (dS s) .none kV dc pm an cd ct),sl⟩/\codeIn K cd n=true/\keepIn K (.ref f)=true
def Fe(K:Frag)(n:Str)(s:Stmt):Prop:=∃f cd,At K n s f cd
def Fl(K:Frag)(n:Str)(s:Stmt)(p:Addr):Prop:=∃f ca ob,At K n s f (.ref ca)/\K.lookup ca=some ob/\tO ob=some p
section
variable{K:Frag}{n:Str}{s:Stmt}{f ca p:Addr}{oc kV dc pm cd ct:Value}{od an:Option Addr}{sl:Array (Option Value)}{ob:Obj}
def feI(a:nsIn K mainGlobals n=some (some (.ref f)))(l:K.lookup f=some ⟨oc,od,.func (fnOf n n (dA s) (dB s) (dS s) .none kV dc pm an cd ct),sl⟩)(c:codeIn K cd n=true)(k:keepIn K (.ref f)=true):Fe K n s:=⟨f,cd,_,_,_,_,_,_,_,_,a,l,c,k⟩
def flI(a:nsIn K mainGlobals n=some (some (.ref f)))(l:K.lookup f=some ⟨oc,od,.func (fnOf n n (dA s) (dB s) (dS s) .none kV dc pm an cd ct),sl⟩)(c:codeIn K cd n=true)(k:keepIn K (.ref f)=true)(u:cd=.ref ca)(t:K.lookup ca=some ob)(v:tO ob=some p):Fl K n s p:=by
 subst u;exact⟨f,ca,ob,⟨_,_,_,_,_,_,_,_,a,l,c,k⟩,t,v⟩
end
abbrev VO:List Str:=["list","tuple","len","range","repr","sum","min","max","abs","all","any","sorted","zip","isinstance","int","bool","str","set","enumerate","reversed","dict"]
def Zs(K:Frag):Prop:=∀n∈VO,nsIn K mainGlobals n=some none
def Zg(K:Frag)(l:List Str):Prop:=∀n∈l,nsIn K mainGlobals n=some none
def zs0{K:Frag}:Zg K []:=λ_ h=>nomatch h
def zs1{K:Frag}{n:Str}{l:List Str}(h:nsIn K mainGlobals n=some none)(r:Zg K l):Zg K (n::l):=λm hm=>by
 rcases mem_cons.mp hm with rfl|hm
 .exact h
 .exact r m hm
end Ea
namespace L2
open PySem
def WK(nm:Str)(p:Addr×Obj):Bool:=match p.2.data with
 |.cls cd=>cd.name==nm
 |_=>false
def WM(K:PySem.W.Frag)(nm:Str):Option Addr:=(K.find? (WK nm)).map (·.1)
end L2
namespace Hl
open PySem PySem.W PyProof.Rows
def L3(p:Program)(w:World)(m:Nat)(ann:Option Value):Nat->SharedT->Thread->Option SharedT
 |0,_,_=>none
 |n+1,s,t=>match through t with
  |true=>some s
  |false=>match stepOk m ann t with
   |false=>none
   |true=>match stepT (denote treeTable) p w s t with
    |some (s',t')=>L3 p w m ann n s' t'
    |none=>none
theorem KQ{p:Program}{w:World}{m:Nat}{ann:Option Value}:∀{n:Nat} {s s':SharedT} {t:Thread},L3 p w m ann n s t=some s'->topRun treeTable p w m ann n s.abs t=some s'.abs
 |0,_,_,_,h=>by cases h
 |n+1,s,s',t,h=>by
  rw[L3]at h;rw[topRun];cases h1:through t with
  |true=>rw[h1]at h;cases h;rfl
  |false=>
   rw[h1]at h;cases h2:stepOk m ann t with
   |false=>rw[h2]at h;cases h
   |true=>
    rw[h2]at h;cases h3:stepT (denote treeTable) p w s t with
    |none=>rw[h3]at h;cases h
    |some r=>obtain⟨s2,t2⟩:=r;rw[h3]at h;rw[stepT_spec h3];exact KQ h
def PH:Nat->List Obj->BT->BT
 |_,[],t=>t
 |n,o::r,t=>PH (n+1) r (t.ins n o)
def bT(P:Params):BT:=PH 0 (boot_heap P).objs.toList .nil
def VN(P:Params):absHeap (bT P) 11 (boot_heap P).life=boot_heap P:=by kernel_rfl
def X3(P:Params):((boot_heap P).isNs mainGlobals,(boot_heap P).nsMap mainGlobals "__annotations__")=(true,some (.ref 6)):=by kernel_rfl
variable{p q:Program}{loose:List Str}{Xt:Shared->Bool}{α:Type}{Yf:Shared->α}{Ya:World->α}{N M:Nat}
def Ut(p q:Program)(loose:List Str)(Xt:Shared->Bool)(Yf:Shared->α)(M:Nat)(w:World)(os:OsState):=
 match L3 p w 11 (some (.ref 6)) M ⟨bT w.params,11,(boot_heap w.params).life,Array.mk [],boot_drawn,boot_toks,os⟩ (topStub p)with
 | some s=>(match staticsOk (importedModules p.main.body) (boot_heap w.params) s.abs.heap&&namesBound p s.abs.heap&&gensDone s.abs&&laidKept (boot_heap w.params) s.abs.heap with
  |true=>some (openSeen q loose (importedModules p.main.body) Xt true s.abs,Yf s.abs)
  | false=>none)
 |none=>none
def left(e:opening p=plainProg p.main.scope.names)(f:∀s,fenceModules? p s=some s)(hN:Nat.ble 600 N=true)(hM:Nat.ble M N=true)(h:∀w os,Ut p q loose Xt Yf M w os=some (openGood q loose,Ya w)):LeftO p q loose Xt Yf Ya N:=λw=>by
 obtain⟨⟨hp,gs,d,k,os⟩,e1,e2⟩:=Ye (boot_open e hN f w);simp only[Prod.mk.injEq]at e2;obtain⟨rfl,rfl,rfl,rfl⟩:=e2;have hl:=h w os;unfold Ut at hl;split at hl
 .next s hs=>
  have r:=topRun_mono (N-M) _ _ _ _ (KQ hs);rw[show M+(N-M)=N by have:=Nat.le_of_ble_eq_true hM;omega]at r;have ea:(SharedT.mk (bT w.params) 11 (boot_heap w.params).life (Array.mk []) boot_drawn boot_toks os).abs=⟨boot_heap w.params,Array.mk [],boot_drawn,boot_toks,os⟩:=by
   show Shared.mk (absHeap (bT w.params) 11 (boot_heap w.params).life) _ _ _ _=_;rw[VN]
  rw[ea]at r;obtain⟨z1,z2⟩:=Prod.mk.inj (X3 w.params);have z3:(boot_heap w.params).objs.size=11:=rfl;split at hl
  .next c=>
   show((fencedOpening treeTable p w N).bind (topFrom treeTable p w N)).map _=_;rw[e1,bind_some];have t:topFrom treeTable p w N ⟨boot_heap w.params,Array.mk [],boot_drawn,boot_toks,os⟩=some s.abs:=by
    unfold topFrom;dsimp only;rw[z1,z2,z3,r];show(match staticsOk (importedModules p.main.body) (boot_heap w.params) s.abs.heap&&namesBound p s.abs.heap&&gensDone s.abs&&laidKept (boot_heap w.params) s.abs.heap with|true=>some s.abs|false=>none)=_;rw[c]
   rw[t];exact hl
  .cases hl
 .cases hl
end Hl
namespace T45
open PySem PySem.W PyProof.Rows Ea
def top(i:Nat):Stmt:=PySem.Challenge.pw_benchdays_k45_left_plans_told.main.body.getD i (.Pass ⟨0,0,0,0⟩)
def vw:PySem.Program:={ PySem.Challenge.pw_benchdays_k45_left_plans_told with main:={ PySem.Challenge.pw_benchdays_k45_left_plans_told.main with body:=[1,2,4,5,6,7,9,10,11,13,14,16,17,18,19,20,21,23,24,26,27,28,29,30,31,32].map top } }
def MH(K:Frag):Prop:=Zs K/\Fe K "law" (top 32)/\Fe K "is_number" (top 4)/\Fe K "is_number_from" (top 5)/\Fe K "is_number_of_work" (top 6)/\Fe K "is_tuple_of" (top 7)/\Fe K "is_piece" (top 16)/\Fe K "one_at_a_time" (top 17)/\Fe K "lengths_done" (top 18)/\Fe K "keeps_wishes" (top 19)/\Fe K "ends_of" (top 21)/\Fe K "is_plan" (top 20)/\Fe K "add_piece" (top 13)/\Fe K "refuse_other_costs" (top 9)/\Fe K "weight_of" (top 10)/\Fe K "one_weight" (top 11)/\Fe K "end_weight" (top 23)/\Fe K "_law_source" (top 26)/\Fe K "_law_pick" (top 27)/\Fe K "_law_end_works" (top 28)/\Fe K "_law_done" (top 29)/\Fe K "_law_is_plan" (top 30)/\Fe K "_law_plan_ends" (top 31)/\∃p12 p17,Fl K "ranked_plan" (top 14) p12/\Fl K "left_plan" (top 24) p17/\([p12,p17]:List Addr).Nodup
def Wu{K:Frag}{p12 p17:Addr}(z:Zs K)(h0:Fe K "law" (top 32))(h1:Fe K "is_number" (top 4))(h2:Fe K "is_number_from" (top 5))(h3:Fe K "is_number_of_work" (top 6))(h4:Fe K "is_tuple_of" (top 7))(h5:Fe K "is_piece" (top 16))(h6:Fe K "one_at_a_time" (top 17))(h7:Fe K "lengths_done" (top 18))(h8:Fe K "keeps_wishes" (top 19))(h9:Fe K "ends_of" (top 21))(h10:Fe K "is_plan" (top 20))(h11:Fe K "add_piece" (top 13))(h13:Fe K "refuse_other_costs" (top 9))(h14:Fe K "weight_of" (top 10))(h15:Fe K "one_weight" (top 11))(h16:Fe K "end_weight" (top 23))(h18:Fe K "_law_source" (top 26))(h19:Fe K "_law_pick" (top 27))(h20:Fe K "_law_end_works" (top 28))(h21:Fe K "_law_done" (top 29))(h22:Fe K "_law_is_plan" (top 30))(h23:Fe K "_law_plan_ends" (top 31))(h12:Fl K "ranked_plan" (top 14) p12)(h17:Fl K "left_plan" (top 24) p17)(tn:([p12,p17]:List Addr).Nodup):MH K:=⟨z,h0,h1,h2,h3,h4,h5,h6,h7,h8,h9,h10,h11,h13,h14,h15,h16,h18,h19,h20,h21,h22,h23,_,_,h12,h17,tn⟩
local macro_rules | `(tactic| o_head $H) => `(tactic| (refine holds_open (r := PySem.Challenge.rw_benchdays_k45_left_plans_told.row) (q := T45.vw) (loose := []) (Xt := λ s => xlAt T45.vw [] s && recOk (RowW.records (OpenRow.toRowW PySem.Challenge.rw_benchdays_k45_left_plans_told.row)) s) (XP := XL T45.vw []) (Yf := Hook.obs $H) (Ya := Hook.val $H) (YP := Hook.says $H) (N := 100000) ?hl (Hook.of $H) (Hook.keeps $H) (λ s e => xl_of s (Bool.and_eq_true_iff.mp e).1) XL.keeps (by rfl) (by rfl) (by rfl) (λ s e => recFacts_of (Bool.and_eq_true_iff.mp e).2) (by rfl) (by first | assumption | decide +kernel) (by decide +kernel) ⟨rfl, rfl, rfl, rfl, rfl, by decide +kernel⟩ ?hw ?hc; (case hl => exact Hl.left (M := 10000) (by rfl) (λ s => by rfl) (by decide) (by decide) λ w os => by kernel_rfl)))
set_option maxRecDepth 100000 in
set_option maxHeartbeats 0 in
def early(hG:∀(K:Params->Frag),(∀w:World,MH (K w.params))->∀d:DefRec,d.name="law"->d.params.defaults=[]->WalkO T45.vw [] (XL T45.vw []) (λw h=>(K w.params).In h) PySem.Challenge.rw_benchdays_k45_left_plans_told.row.toRowW d [] (λf vs=>PySem.call f vs)):PySem.Challenge.rw_benchdays_k45_left_plans_told.Holds:=by
 w_on;o_law;k_head;(case hw=>w_witness2)
 k_fill
 refine λw s₀ s₁ mg mb G Y=>hG _ ?F _ rfl rfl w s₀ s₁ mg mb G (km_in_of Y)
 case F=>
  intro w;refine' Wu ?z ?h0 ?h1 ?h2 ?h3 ?h4 ?h5 ?h6 ?h7 ?h8 ?h9 ?h10 ?h11 ?h13 ?h14 ?h15 ?h16 ?h18 ?h19 ?h20 ?h21 ?h22 ?h23 ?h12 ?h17 ?tn
  case z=>(refine' zs1 _ (zs1 _ (zs1 _ (zs1 _ (zs1 _ (zs1 _ (zs1 _ (zs1 _ (zs1 _ (zs1 _ (zs1 _ (zs1 _ (zs1 _ (zs1 _ (zs1 _ (zs1 _ (zs1 _ (zs1 _ (zs1 _ (zs1 _ (zs1 _ (zs0)))))))))))))))))))))<;>k_is)
  case h0|h1|h2|h3|h4|h5|h6|h7|h8|h9|h10|h11|h13|h14|h15|h16|h18|h19|h20|h21|h22|h23=>(refine' feI ?a ?l ?c ?k;case a|l|c|k=>k_is)
  case h12|h17=>(refine' flI ?a ?l ?c ?k ?u ?t ?v;(case a|l|c|k=>k_is);(case u=>rfl);(case t=>k_is);(case v=>rfl))
  case tn=>decide
end T45
namespace L2
open PySem PySem.Spec PyProof.Rows
abbrev Key:=Sum Int Str
def Ff:Key->Value->Bool
 |.inl k,v=>Value.isInt k v
 |.inr x,v=>Value.isStrOf x v
def Ws(w:World):Key->Int
 |.inl k=>hashInt k
 |.inr x=>hashStr w x
def Aw:∀{k:Key} {v:Value},Ff k v=true->(∃i t,k=Sum.inl i/\v=Value.int i t)∨(∃x t,k=Sum.inr x/\v=Value.str x t)
 |.inl i,v,h=>by
  obtain⟨t,e⟩:=Value.isInt_shape (k:=i) (v:=v) h;exact .inl ⟨i,t,rfl,e⟩
 |.inr x,v,h=>by
  obtain⟨t,e⟩:=Value.isStrOf_shape (x:=x) (v:=v) h;exact .inr ⟨x,t,rfl,e⟩
def N4(i:Int)(t:Tok):Ff (.inl i) (.int i t)=true:=by simp[Ff,Value.isInt]
def N3(x:Str)(t:Tok):Ff (.inr x) (.str x t)=true:=by simp[Ff,Value.isStrOf]
def Uy(a b:Int):decide ((Sum.inl a:Key)=Sum.inl b)=(a==b):=by
 by_cases e:a=b
 .subst e;simp
 .have h:¬ (Sum.inl a:Key)=Sum.inl b:=λq=>e (Sum.inl.inj q);rw[decide_eq_false h];exact(beq_eq_false_iff_ne.mpr e).symm
def Uv(a b:Str):decide ((Sum.inr a:Key)=Sum.inr b)=decide (a=b):=by
 by_cases e:a=b
 .subst e;simp
 .have h:¬ (Sum.inr a:Key)=Sum.inr b:=λq=>e (Sum.inr.inj q);rw[decide_eq_false h,decide_eq_false e]
def Ux(a:Int)(b:Str):decide ((Sum.inl a:Key)=Sum.inr b)=false:=decide_eq_false (λq=>nomatch q)
def Uw(a:Str)(b:Int):decide ((Sum.inr a:Key)=Sum.inl b)=false:=decide_eq_false (λq=>nomatch q)
def An(prog:Program)(w:World):PySem.KeyKind prog w Key where
 is:=Ff
 hash:=Ws w
 inj:=λv a b ha hb=>by
  rcases Aw ha with⟨i,t,rfl,rfl⟩|⟨x,t,rfl,rfl⟩
  .rcases Aw hb with⟨j,u,rfl,e⟩|⟨y,u,rfl,e⟩
   .injection e with e1 _;rw[e1]
   .exact nomatch e
  .rcases Aw hb with⟨j,u,rfl,e⟩|⟨y,u,rfl,e⟩
   .exact nomatch e
   .injection e with e1 _;rw[e1]
 byValue:=λk v h=>by
  rcases Aw h with⟨i,t,rfl,rfl⟩|⟨x,t,rfl,rfl⟩<;>rfl
 pyHash:=λhv h=>by
  rcases Aw hv with⟨i,t,rfl,rfl⟩|⟨x,t,rfl,rfl⟩
  .exact wpAny_pyHash_int h
  .exact wpAny_pyHash_str h
 eqBool:=λhu hv h=>by
  rcases Aw hu with⟨i,t,rfl,rfl⟩|⟨x,t,rfl,rfl⟩
  .rcases Aw hv with⟨j,u,rfl,rfl⟩|⟨y,u,rfl,rfl⟩
   .rw[Uy]at h;exact wpAny_eqBool_int h
   .rw[Ux]at h;exact SeqAt.EqAt.int_str i t y u _ _ _ _ h
  .rcases Aw hv with⟨j,u,rfl,rfl⟩|⟨y,u,rfl,rfl⟩
   .rw[Uw]at h;exact SeqAt.EqAt.str_int x t j u _ _ _ _ h
   .rw[Uv]at h;exact wpAny_eqBool_str h
 «strs»:=λk x t v h=>by
  rcases Aw h with⟨i,u,rfl,e⟩|⟨y,u,rfl,e⟩
  .exact nomatch e
  .injection e with e1 _
   subst e1;cases v<;>rfl
def KB(prog:Program)(w:World)(i:Int)(t:Tok):(An prog w).is (.inl i) (.int i t)=true:=N4 i t
def KA(prog:Program)(w:World)(x:Str)(t:Tok):(An prog w).is (.inr x) (.str x t)=true:=N3 x t
inductive V where
 |non|bl (b:Bool)|int (i:Int)|str (x:Str)|byt (b:Array UInt8)|flt (b:UInt64)|ref (a:Addr)|ty (n:String)
 deriving DecidableEq
def RelV:V->Value->Prop
 |.non,u=>u=Value.none
 |.bl b,u=>u=Value.bool b
 |.int i,u=>∃t,u=Value.int i t
 |.str x,u=>∃t,u=Value.str x t
 |.byt b,u=>∃t,u=Value.bytes b t
 |.flt b,u=>∃t,u=Value.float b t
 |.ref a,u=>u=Value.ref a
 |.ty n,u=>u=Value.type n
abbrev Vals:List V->List Value->Prop:=Paired RelV
theorem Vals.length{xs:List V}{us:List Value}(r:Vals xs us):xs.length=us.length:=Paired.length r
theorem Vals.get:∀{xs:List V} {us:List Value} {i:Nat} {x:V},Vals xs us->xs[i]?=some x->∃u,us[i]?=some u/\RelV x u
 |_,_,_,_,.nil,e=>by simp at e
 |_,_,0,_,.cons r _,e=>by simp at e;subst e;exact⟨_,rfl,r⟩
 |_,_,i+1,x,.cons _ t,e=>by
  obtain⟨u,h1,h2⟩:=Vals.get (i:=i) (x:=x) t (by simpa using e);exact⟨u,by simpa using h1,h2⟩
theorem Vals.set{x:V}{u:Value}(r:RelV x u):∀{xs:List V} {us:List Value} (i:Nat),Vals xs us->Vals (xs.set i x) (us.set i u)
 |_,_,_,.nil=>.nil
 |_,_,0,.cons _ t=>.cons r t
 |_,_,i+1,.cons q t=>.cons q (Vals.set r i t)
theorem Vals.append:∀{xs ys:List V} {us ws:List Value},Vals xs us->Vals ys ws->Vals (xs++ys) (us++ws)
 |_,_,_,_,.nil,s=>s
 |_,_,_,_,.cons r t,s=>.cons r (Vals.append t s)
theorem Vals.take:∀{xs:List V} {us:List Value} (n:Nat),Vals xs us->Vals (xs.take n) (us.take n)
 |_,_,0,_=>.nil
 |_,_,_+1,.nil=>.nil
 |_,_,n+1,.cons r t=>.cons r (Vals.take n t)
theorem Vals.drop:∀{xs:List V} {us:List Value} (n:Nat),Vals xs us->Vals (xs.drop n) (us.drop n)
 |_,_,0,r=>r
 |_,_,_+1,.nil=>.nil
 |_,_,n+1,.cons _ t=>Vals.drop n t
def RelO:Option V->Option Value->Prop
 |some v,some u=>RelV v u
 |none,none=>True
 |_,_=>False
def KV{κ:Type}:List (κ×V)->List (κ×Value)->Prop:=Paired λ(p:κ×V) (q:κ×Value)=>p.1=q.1/\RelV p.2 q.2
def kV:Key->V
 |.inl i=>.int i
 |.inr x=>.str x
inductive HO where
 /-- a list -/
 |lst (xs:List V)
 /-- a tuple (never changes) -/
 |tup (xs:List V)
 /-- a dict whose keys are ints and texts;one whose keys are tuples of ints and texts (the empty one is both) -/
 |dK (kvs:List (Key×V))|dT (kvs:List (List Key×V))
 /-- a set of ints: its members,its size -/
 |set (S:Int->Bool) (n:Nat)
 /-- an instance of the class at C,its dict at dx,its attributes -/
 |ins (C dx:Addr) (fs:List (Str×V))
 /-- the dict of the instance at x -/
 |own (x:Addr)
 /-- the dict of an exception -/
 |xd (fs:List (Str×V))
 /-- a bound method,f of x -/
 |met (f x:Addr)
 /-- a range object lo,lo+1,.. below hi -/
 |rng (lo hi:Int)
 /-- a thing that is known to the object (the script;a dict while a loop walks it): read,never written while it is so -/
 |frz (o:Obj) (u:HO)
 /-- a code object's table -/
 |tbl (ps:Array Value)
 /-- any other thing,by what is true of its one object (a def of one's own: SetO a S n:=HO.ext λh=>..) -/
 |ext (φ:Heap->Prop)
abbrev Hp:=Addr->Option HO
def upd(H:Hp)(a:Addr)(o:HO):Hp:=λb=>if b=a then some o else H b
def AE{H:Hp}{a:Addr}{o:HO}:upd H a o a=some o:=by unfold upd;rw[if_pos rfl]
def A4{H:Hp}{a b:Addr}{o:HO}(h:b≠a):upd H a o b=H b:=by unfold upd;rw[if_neg h]
def Vx{H:Hp}{a b:Addr}{o u:HO}(h:H a=some o)(h':H b=some u)(d:o≠u):a≠b:=by
 intro e;subst e;rw[h]at h';exact d (Option.some.inj h')
def AG{H:Hp}{a b:Addr}{o:HO}(h:H a=some o)(h':H b=none):a≠b:=by
 intro e;subst e;rw[h]at h';cases h'
def IsTupD(h:Heap)(a:Addr)(items:Array Value):Prop:=∃o,h.get? a=some o/\o.cls=.type "tuple"/\(∃n,o.data=.seq items n)/\o.dict=none
def IsTupD.t{h:Heap}{a:Addr}{items:Array Value}(x:IsTupD h a items):IsTup h a items:=let ⟨o,e,c,d,_⟩:=x;⟨o,e,c,d⟩
def IsTupD.new(h:Heap)(items:Array Value):IsTupD (h.push { cls:=.type "tuple",data:=.seq items }) h.objs.size items:=⟨_,Heap.get?_push_size _ rfl,rfl,⟨_,rfl⟩,rfl⟩
section
variable(P:Program)(w:World)
def ObjOk(H:Hp)(h:Heap)(a:Addr):HO->Prop
 |.lst xs=>xs.length<=sizeLine/\∃(its:List Value) (n:Nat),Vals xs its/\h.get? a=some { cls:=.type "list",data:=.seq its.toArray n }
 |.tup xs=>xs.length<=sizeLine/\∃its:List Value,Vals xs its/\IsTupD h a its.toArray
 |.dK kvs=>kvs.length<=sizeLine/\(a==sysModules)=false/\∃vs,KV kvs vs/\h.DictOf (An P w) a vs
 |.dT kvs=>kvs.length<=sizeLine/\(a==sysModules)=false/\∃xs:List (List Key×Addr×Value),
  Paired (λ(p:List Key×V) (q:List Key×Addr×Value)=>p.1=q.1/\H q.2.1=some (.tup (p.1.map kV))/\RelV p.2 q.2.2) kvs xs /\
  ∃o es ep,h.get? a=some o/\o.ExactDict/\o.data=.dict es ep/\es.toList=xs.map (entryOfKey (tupleKind (An P w)))/\(xs.map (·.1)).Nodup
 |.set S n=>h.SetOf (intKind P w) a S n
 |.ins C dx fs=>H dx=some (.own a)/\fs.length<=1000/\dx≠a/\h.get? a=some (PySem.W.instObj C dx)/\
  ∃mA,h.Ns1 dx mA/\(∀f,RelO (fs.lookup f) (mA f))/\PySem.Within mA (fs.map (·.1))
 |.own _=>∃o,h.get? a=some o
 |.xd fs=>∃mA,h.Ns1 a mA/\∀f,RelO (fs.lookup f) (mA f)
 |.rng lo hi=>∃t u v,h.get? a=some { cls:=.type "range",data:=.fields #[.int lo t,.int hi u,.int 1 v] }
 |.frz o u=>h.get? a=some o/\ObjOk H h a u
 |.tbl ps=>h.get? a=some { cls:=.none,data:=.fields ps }
 |.met f x=>h.get? a=some (PySem.W.methodObj (.ref f) (.ref x))
 |.ext φ=>φ h/\(∃o,h.get? a=some o)/\∀h1 h2:Heap,φ h1->(∀o,h1.get? a=some o->h2.get? a=some o)->φ h2
def HOk(H:Hp)(h:Heap):Prop:=∀a o,H a=some o->ObjOk P w H h a o
end
section
variable{P:Program}{w:World}{H H':Hp}{h h':Heap}{a:Addr}{o:HO}
def ObjOk.lt(x:ObjOk P w H h a o):a<h.objs.size:=by
 cases o with
 |lst xs=>obtain⟨_,_,_,_,e⟩:=x;exact Heap.lt_size e
 |tup xs=>obtain⟨_,_,_,o,e,_⟩:=x;exact Heap.lt_size e
 |dK kvs=>obtain⟨_,_,_,_,o,_,_,e,_⟩:=x;exact Heap.lt_size e
 |dT kvs=>obtain⟨_,_,_,_,o,_,_,e,_⟩:=x;exact Heap.lt_size e
 |set S n=>obtain⟨o,_,_,_,e,_⟩:=x;exact Heap.lt_size e
 |ins C dx fs=>obtain⟨_,_,_,e,_⟩:=x;exact Heap.lt_size e
 |own y=>obtain⟨_,e⟩:=x;exact Heap.lt_size e
 |xd fs=>obtain⟨_,⟨_,_,_,e,_⟩,_⟩:=x;exact Heap.lt_size e
 |rng lo hi=>obtain⟨_,_,_,e⟩:=x;exact Heap.lt_size e
 |frz ob u=>obtain⟨e,_⟩:=x;exact Heap.lt_size e
 |tbl ps=>exact Heap.lt_size (show h.get? a=some _ from x)
 |met f y=>exact Heap.lt_size (show h.get? a=some _ from x)
 |ext φ=>obtain⟨_,⟨_,e⟩,_⟩:=x;exact Heap.lt_size e
theorem Paired.mapP{α β:Type}{F G:α->β->Prop}:∀{l₁:List α} {l₂:List β},Paired F l₁ l₂->(∀a b,F a b->G a b)->Paired G l₁ l₂
 |_,_,.nil,_=>.nil
 |_,_,.cons r t,f=>.cons (f _ _ r) (Paired.mapP t f)
def ObjOk.stay(x:ObjOk P w H h a o)(k:∀b u,(b=a∨H b=some (.own a))->h.get? b=some u->h'.get? b=some u)
 (ho:∀b,H b=some (.own a)->H' b=some (.own a)) (ht:∀b xs,H b=some (.tup xs)->H' b=some (.tup xs)):ObjOk P w H' h' a o:=by
 induction o with
 |lst xs=>obtain⟨z,its,n,r,e⟩:=x;exact⟨z,its,n,r,k _ _ (.inl rfl) e⟩
 |tup xs=>obtain⟨z,its,r,ob,e,c⟩:=x;exact⟨z,its,r,ob,k _ _ (.inl rfl) e,c⟩
 |dK kvs=>obtain⟨z,y,vs,r,ob,es,ep,e,c⟩:=x;exact⟨z,y,vs,r,ob,es,ep,k _ _ (.inl rfl) e,c⟩
 |dT kvs=>
  obtain⟨z,y,xs,r,ob,es,ep,e,c⟩:=x;exact⟨z,y,xs,Paired.mapP r λp q z=>⟨z.1,ht _ _ z.2.1,z.2.2⟩,ob,es,ep,k _ _ (.inl rfl) e,c⟩
 |set S n=>obtain⟨ob,es,ep,t,e,c⟩:=x;exact⟨ob,es,ep,t,k _ _ (.inl rfl) e,c⟩
 |ins C dx fs=>
  obtain⟨d,z,ne,e,mA,⟨od,es,ep,e2,c⟩,r⟩:=x;exact⟨ho _ d,z,ne,k _ _ (.inl rfl) e,mA,⟨od,es,ep,k _ _ (.inr d) e2,c⟩,r⟩
 |own y=>obtain⟨ob,e⟩:=x;exact⟨ob,k _ _ (.inl rfl) e⟩
 |xd fs=>obtain⟨mA,⟨od,es,ep,e,c⟩,r⟩:=x;exact⟨mA,⟨od,es,ep,k _ _ (.inl rfl) e,c⟩,r⟩
 |rng lo hi=>obtain⟨t,u,v,e⟩:=x;exact⟨t,u,v,k _ _ (.inl rfl) e⟩
 |frz ob u ih=>obtain⟨e,q⟩:=x;exact⟨k _ _ (.inl rfl) e,ih q⟩
 |tbl ps=>
  have e:h.get? a=some { cls:=.none,data:=.fields ps }:=x;show h'.get? a=some { cls:=.none,data:=.fields ps };exact k a _ (.inl rfl) e
 |met f y=>
  have e:h.get? a=some (PySem.W.methodObj (.ref f) (.ref y)):=x;show h'.get? a=some (PySem.W.methodObj (.ref f) (.ref y));exact k a _ (.inl rfl) e
 |ext φ=>obtain⟨p,⟨o,e⟩,st⟩:=x;exact⟨st _ _ p λo q=>k _ _ (.inl rfl) q,⟨o,k _ _ (.inl rfl) e⟩,st⟩
theorem HOk.lt(x:HOk P w H h)(e:H a=some o):a<h.objs.size:=(x a o e).lt
def HOk.fresh(x:HOk P w H h)(e:h.objs.size<=a):H a=none:=by
 cases q:H a with
 |none=>rfl
 |some u=>exact absurd (lt_of_lt_of_le (x.lt q) e) (lt_irrefl _)
def HOk.kept(x:HOk P w H h)(k:∀b u,h.get? b=some u->h'.get? b=some u):HOk P w H h':=λa o e=>
 (x a o e).stay (λb u _ q=>k b u q) (λ_ q=>q) λ_ _ q=>q
def HOk.laid(x:HOk P w H h)(k:∀b u,h.get? b=some u->h'.get? b=some u)(hp:h.objs.size<=a)(new:ObjOk P w (upd H a o) h' a o):HOk P w (upd H a o) h':=λb u e=>by
 have hn:=x.fresh hp;by_cases hb:b=a
 .subst hb;rw[AE]at e;cases e;exact new
 .rw[A4 hb]at e;exact(x b u e).stay (λc v _ q=>k c v q) (λc q=>by rw[A4 (AG q hn)];exact q) λc xs q=>by rw[A4 (AG q hn)];exact q
end
def Rd(H:Hp)(a:Addr)(u:HO):Prop:=H a=some u∨∃o,H a=some (.frz o u)
def Rd.ok{P:Program}{w:World}{H:Hp}{h:Heap}{a:Addr}{u:HO}(r:Rd H a u)(x:HOk P w H h):ObjOk P w H h a u:=by
 rcases r with r|⟨o,r⟩
 .exact x a u r
 .obtain⟨_,q⟩:=x a _ r;exact q
def Mut:Option HO->Prop
 |some (.lst _)=>True
 |some (.dK _)=>True
 |some (.dT _)=>True
 |some (.set _ _)=>True
 |some (.ins _ _ _)=>True
 |some (.ext _)=>True
 |_=>False
section
variable{P:Program}{w:World}{H:Hp}{h h':Heap}{x e:Addr}{o':HO}
def HOk.write(ok:HOk P w H h)(mu:Mut (H x))(he:e=x∨H e=some (.own x))(k:∀b u,b≠e->h.get? b=some u->h'.get? b=some u)(heo:∃u,h'.get? e=some u)
 (new:ObjOk P w (upd H x o') h' x o'):HOk P w (upd H x o') h':=λb u q=>by
 have nown:∀c y,H c=some (.own y)->c≠x:=λc y r z=>by subst z;rw[r]at mu;exact mu
 have ntup:∀c xs,H c=some (.tup xs)->c≠x:=λc xs r z=>by subst z;rw[r]at mu;exact mu
 by_cases hb:b=x
 .subst hb;rw[AE]at q;cases q;exact new
 .rw[A4 hb]at q;by_cases hbe:b=e
  .have q':H b=some (.own x):=by
    rcases he with z|z
    .exact absurd (hbe.trans z) hb
    .rw[hbe];exact z
   rw[q]at q';cases q';obtain⟨v,hv⟩:=heo;exact⟨v,by rw[hbe];exact hv⟩
  .refine(ok b u q).stay (λc v hc r=>k c v ?_ r) (λc r=>by rw[A4 (nown c b r)];exact r) λc xs r=>by rw[A4 (ntup c xs r)];exact r
   rcases hc with rfl|hc
   .exact hbe
   .rintro rfl;rcases he with z|z
    .exact nown c b hc z
    .rw[hc]at z;cases z;exact hb rfl
end
structure Un(fs ex:List Addr)(H H':Hp)(h h':Heap):Prop where
 keep:∀b o,h.get? b=some o->H b=none->b∉fs->b∉ex->h'.get? b=some o
 slot:∀b o,h.get? b=some o->H b=none->b∈fs->b∉ex->∃sl,h'.get? b=some { o with slots:=sl }
 free:∀b o,h.get? b=some o->H b=none->b∉ex->H' b=none
 there:∀b o,h.get? b=some o->b∉ex->∃o',h'.get? b=some o'
 tups:∀b xs,H b=some (.tup xs)->H' b=some (.tup xs)
 frzs:∀b o u,H b=some (.frz o u)->H' b=some (.frz o u)
 tbls:∀b ps,H b=some (.tbl ps)->∃more,H' b=some (.tbl (ps++more))
section
variable{fs fs' ex ex':List Addr}{H H1 H2:Hp}{h h1 h2 h':Heap}{a x e:Addr}{o:HO}
def Un.any(u:Un fs ex H H1 h h1){b:Addr}{ob:Obj}(q:h.get? b=some ob)(n:H b=none)(hx:b∉ex):∃sl,h1.get? b=some { ob with slots:=sl }:=by
 by_cases hb:b∈fs
 .exact u.slot b ob q n hb hx
 .exact⟨ob.slots,u.keep b ob q n hb hx⟩
def Un.kept(k:∀b u,h.get? b=some u->h'.get? b=some u):Un fs ex H H h h':=
 ⟨λb ob q _ _ _=>k b ob q,λb ob q _ _ _=>⟨ob.slots,k b ob q⟩,λ_ _ _ n _=>n,λb ob q _=>⟨ob,k b ob q⟩,λ_ _ q=>q,λ_ _ _ q=>q,λ_ ps q=>⟨#[],by rw[q];simp⟩⟩
def Un.refl:Un fs ex H H h h:=Un.kept λ_ _ q=>q
def Un.laid(k:∀b u,h.get? b=some u->h'.get? b=some u)(hp:h.objs.size<=a)(hn:H a=none):Un fs ex H (upd H a o) h h' where
 keep:=λb u q _ _ _=>k b u q
 slot:=λb u q _ _ _=>⟨u.slots,k b u q⟩
 free:=λb u q n _=>by rw[A4 (ne_of_lt (lt_of_lt_of_le (Heap.lt_size q) hp))];exact n
 there:=λb u q _=>⟨u,k b u q⟩
 tups:=λb xs q=>by rw[A4 (AG q hn)];exact q
 frzs:=λb u xs q=>by rw[A4 (AG q hn)];exact q
 tbls:=λb ps q=>⟨#[],by rw[A4 (AG q hn),q];simp⟩
def Un.write(mu:Mut (H x))(he:e=x∨H e=some (.own x))(k:∀b u,b≠e->h.get? b=some u->h'.get? b=some u)(heo:∃u,h'.get? e=some u):Un fs ex H (upd H x o) h h':=by
 have hx:∀b,H b=none->b≠x:=λb n z=>by subst z;rw[n]at mu;exact mu
 have hb:∀b,H b=none->b≠e:=λb n z=>by
  subst z;rcases he with r|r
  .exact hx b n r
  .rw[n]at r;cases r
 have hm:∀b u,H b=some u->¬ Mut (some u)->b≠x:=λb u q nm z=>by subst z;rw[q]at mu;exact nm mu
 refine⟨λb u q n _ _=>k b u (hb b n) q,λb u q n _ _=>⟨u.slots,k b u (hb b n) q⟩,λb u q n _=>by rw[A4 (hx b n)];exact n,λb u q _=>?_,
  λb xs q=>by rw[A4 (hm b _ q λz=>z)];exact q,λb u xs q=>by rw[A4 (hm b _ q λz=>z)];exact q,λb ps q=>⟨#[],by rw[A4 (hm b _ q λz=>z),q];simp⟩⟩
 by_cases hbe:b=e
 .subst hbe;exact heo
 .exact⟨u,k b u hbe q⟩
end
def trk(h:Heap)(H:Hp):List Addr:=(List.range h.objs.size).filter λa=>(H a).isSome
def En(h:Heap)(H:Hp):Heap:=PySem.W.hideAll h (trk h H)
def N6(h:Heap)(H:Hp):(En h H).objs.size=h.objs.size:=PySem.W.hideAll_size _ _
def Ot{h:Heap}{H:Hp}{b:Addr}{o:Obj}(e:h.get? b=some o)(n:H b=none):(En h H).get? b=some o:=
 PySem.W.hideAll_get _ e λhm=>by
  have q:(H b).isSome=true:=(mem_filter.mp hm).2;rw[n]at q;simp at q
def Rz{h:Heap}{H:Hp}{b:Addr}{o:Obj}(e:(En h H).get? b=some o):h.get? b=some o/\H b=none:=by
 have e':h.get? b=some o:=PySem.W.of_hideAll (trk h H) e;refine⟨e',?_⟩;cases q:H b with
 |none=>rfl
 |some x=>
  have hm:b∈trk h H:=mem_filter.mpr ⟨List.mem_range.mpr (Heap.lt_size e'),by simp[q]⟩;have z:(En h H).get? b=none:=PySem.W.hideAll_none (trk h H) hm;rw[z]at e;cases e
def Sa(g h:Heap)(L:Addr):List (Addr×Obj):=(List.range h.objs.size).filterMap λa=>if a=L∨(g.get? a).isSome=true then none else(h.get? a).map λo=>(a,o)
def rest(g h:Heap)(L d:Addr):List (Addr×Obj):=(Sa g h L).filter λp=>decide (p.1≠d)
structure Mod(K:PySem.W.Frag)(mg:Str->Option Value)(base:Heap):Prop where
 kin:K.In base
 glob:base.Ns mainGlobals mg
 blt:∃mb,base.Ns builtinsNs mb/\∀x:Str,x≠"__name__"->mb x=bootBuiltins x
 nolimit:base.NoLimit
structure Cx where
 prog:Program
 w:World
 K:PySem.W.Frag
 mg:Str->Option Value
 base:Heap
 A:Around
 N:List Str
 s₀:Shared
 H₀:Hp
 env:Env
 outer:List Env
 stack:List Env
 ex:List Addr
 fn:Str->Bool
 calm:Bool
 pn:List (Addr×Obj)
 xe:Value->Shared->Prop
def frs(l:List Env):List Addr:=l.filterMap (·.frame)
abbrev Cx.fs(X:Cx):List Addr:=frs X.outer
def Vis(sc:Scope)(x:Str):Prop:=sc.names.lookup x=some .local∨sc.names.lookup x=some .cell∨sc.names.lookup x=some .free
def Loc(sc:Scope)(x:Str):Prop:=sc.names.lookup x=some .local∨sc.names.lookup x=some .cell
def X6(env:Env)(h:Heap)(m:Str->Option Value)(x:Str)(u:Value):Prop:=
 (env.kindOf x=some .local/\m x=some u)∨((env.kindOf x=some .cell∨env.kindOf x=some .free)/\∃c,env.cells.lookup x=some c/\h.IsCell c (some u))
structure Cx.Ok(X:Cx):Prop where
 mod:Mod X.K X.mg X.base
 kind:X.env.scope.kind=.function
 glob:X.env.globals=mainGlobals
 blt:X.env.builtins=builtinsNs
 above:X.s₀.heap.objs.size<=X.env.locals
 inj:∀x y c,X.env.cells.lookup x=some c->X.env.cells.lookup y=some c->x=y
 has:∀x,(X.env.kindOf x=some .cell∨X.env.kindOf x=some .free)->∃c,X.env.cells.lookup x=some c
 cab:∀x c,X.fn x=true->X.env.cells.lookup x=some c->X.s₀.heap.objs.size<=c
 hd:X.calm=true->X.A.handled=none
 frames:X.A.frames=some X.stack
 stk:X.stack=X.outer∨(X.stack=X.env::X.outer/\X.env.frame=some X.env.locals)
 exf:∀b∈X.ex,b≠X.env.locals/\∀x c,X.env.cells.lookup x=some c->c≠b
 bs:∀b o,X.base.get? b=some o->X.s₀.heap.get? b=some o/\X.H₀ b=none
 bsz:X.base.objs.size<=X.s₀.heap.objs.size
 noex:∀b o,X.base.get? b=some o->b∉X.ex
 exfs:∀b∈X.ex,b∉X.fs
 funs:X.s₀.heap.FunFrames X.base X.outer
 frf:∀b∈X.fs,X.H₀ b=none
structure Inv(X:Cx)(pins:List (Addr×Obj))(σ:List (Option V))(H:Hp)(s:Shared):Prop where
 ok:X.Ok
 os:s.os=X.s₀.os
 bare:AllBare s.gens
 base:Un X.fs X.ex X.H₀ H X.s₀.heap s.heap
 loc:∃m,s.heap.Ns X.env.locals m/\∀(i:Nat) (x:Str) (v:V),X.N[i]?=some x->σ[i]?=some (some v)->Vis X.env.scope x->∃u,RelV v u/\X6 X.env s.heap m x u
 cell:∀x c,X.env.cells.lookup x=some c->∃v,s.heap.IsCell c v
 free:H X.env.locals=none
 freeC:∀x c,X.env.cells.lookup x=some c->H c=none
 pin:∀p∈X.pn++pins,s.heap.get? p.1=some p.2/\H p.1=none/\p.1≠X.env.locals/\p.1∉X.fs/\∀v,p.2.data≠.cell v
 hok:HOk X.prog X.w H s.heap
 len:σ.length=X.N.length
section
variable{X:Cx}{pins:List (Addr×Obj)}{σ:List (Option V)}{H H':Hp}{s:Shared}{h':Heap}
def Cx.Ok.nofr(ok:X.Ok){b:Addr}{o:Obj}(e:X.base.get? b=some o):b∉X.fs:=λhb=>by
 have:=(ok.funs.mem hb).1;rw[e]at this;cases this
theorem Inv.bs(I:Inv X pins σ H s):∀b o,X.base.get? b=some o->s.heap.get? b=some o/\H b=none:=λb o e=>
 ⟨I.base.keep b o (I.ok.bs b o e).1 (I.ok.bs b o e).2 (I.ok.nofr e) (I.ok.noex b o e),I.base.free b o (I.ok.bs b o e).1 (I.ok.bs b o e).2 (I.ok.noex b o e)⟩
def Inv.bk(I:Inv X pins σ H s):∀b o,X.base.get? b=some o->s.heap.get? b=some o:=λb o e=>(I.bs b o e).1
theorem Inv.mod(I:Inv X pins σ H s):Mod X.K X.mg X.base:=I.ok.mod
def Inv.kIn(I:Inv X pins σ H s):X.K.In s.heap:=I.ok.mod.kin.keeps I.bk
theorem Inv.nolimit(I:Inv X pins σ H s):s.heap.NoLimit:=I.ok.mod.nolimit.keeps I.bk
theorem Inv.lt(I:Inv X pins σ H s):X.env.locals<s.heap.objs.size:=let ⟨_,hn,_⟩:=I.loc;hn.lt
def Inv.sz(I:Inv X pins σ H s):X.s₀.heap.objs.size<=s.heap.objs.size:=le_trans I.ok.above (le_of_lt I.lt)
def Inv.nofs(I:Inv X pins σ H s){a:Addr}(h:s.heap.objs.size<=a):a∉X.fs:=λhb=>by
 obtain⟨_,o,ho,_⟩:=I.ok.funs.mem hb;exact absurd (lt_of_lt_of_le (Heap.lt_size ho) (le_trans I.sz h)) (lt_irrefl _)
def Inv.cne(I:Inv X pins σ H s):∀x c,X.env.cells.lookup x=some c->c≠X.env.locals:=λx c e z=>by
 obtain⟨v,o,ho,hd⟩:=I.cell x c e;obtain⟨m,⟨o',es,ep,ho',hd',_⟩,_⟩:=I.loc;rw[z,ho']at ho;cases ho;rw[hd']at hd;cases hd
theorem Inv.funs(I:Inv X pins σ H s):s.heap.FunFrames X.base X.outer:=by
 have all:∀(l:List Env),(∀b∈frs l,b∈X.fs)->X.s₀.heap.FunFrames X.base l->s.heap.FunFrames X.base l:=by
  intro l
  induction l with
  |nil=>intro _ _;trivial
  |cons env r ih=>
   intro hs hl;obtain⟨hk,⟨L,o,hf,hn,ho,hd⟩,hr⟩:=hl;have hL:L∈X.fs:=hs L (by unfold frs;rw[filterMap_cons,hf];exact mem_cons_self);obtain⟨sl,e⟩:=I.base.slot L o ho (I.ok.frf L hL) hL λz=>I.ok.exfs L z hL;exact⟨hk,⟨L,_,hf,hn,e,hd⟩,ih (λb hb=>hs b (by unfold frs;rw[filterMap_cons,hf];exact mem_cons_of_mem _ hb)) hr⟩
 exact all X.outer (λ_ hb=>hb) I.ok.funs
theorem Inv.stack(I:Inv X pins σ H s):s.heap.FunFrames X.base X.stack:=by
 rcases I.ok.stk with e|⟨e,hf⟩
 .rw[e];exact I.funs
 .rw[e];obtain⟨m,hn,_⟩:=I.loc;refine .cons (by rw[I.ok.kind];decide) hf hn ?_ I.funs;exact Heap.get?_none_of_le (le_trans I.ok.bsz I.ok.above)
def Inv.stkSub(I:Inv X pins σ H s):∀b∈frs X.stack,b∈X.env.locals::X.fs:=λb hb=>by
 rcases I.ok.stk with e|⟨e,hf⟩
 .rw[e]at hb;exact mem_cons_of_mem _ hb
 .rw[e]at hb;unfold frs at hb;rw[filterMap_cons,hf]at hb;exact hb
def Inv.stkFree(I:Inv X pins σ H s):∀b∈frs X.stack,H b=none:=λb hb=>by
 rcases mem_cons.mp (I.stkSub b hb)with e|hb
 .rw[e];exact I.free
 .obtain⟨_,o,ho,_⟩:=I.ok.funs.mem hb;exact I.base.free b o ho (I.ok.frf b hb) λz=>I.ok.exfs b z hb
def Inv.step{g':Array GenState}{t':Nat}{d':Drawn}{ch:List Addr}(I:Inv X pins σ H s)
 (hch:∀b∈ch,(b∈X.ex∨X.s₀.heap.objs.size<=b)/\b≠X.env.locals/\(∀x c,X.env.cells.lookup x=some c->c≠b)/\∀p∈X.pn++pins,p.1≠b)
 (keep:∀b o,b≠X.env.locals->b∉X.fs->b∉ch->s.heap.get? b=some o->H b=none->h'.get? b=some o)
 (slot:∀b o,b≠X.env.locals->b∈X.fs->b∉ch->s.heap.get? b=some o->H b=none->∃sl,h'.get? b=some { o with slots:=sl }) (free:∀b o,b∉ch->s.heap.get? b=some o->H b=none->H' b=none)
 (there:∀b o,b∉ch->s.heap.get? b=some o->∃o',h'.get? b=some o')
 (tups:∀b xs,H b=some (.tup xs)->H' b=some (.tup xs)) (frzs:∀b o u,H b=some (.frz o u)->H' b=some (.frz o u)) (tbls:∀b ps,H b=some (.tbl ps)->∃more,H' b=some (.tbl (ps++more)))
 (ns:∀m,s.heap.Ns X.env.locals m->h'.Ns X.env.locals m) (hok:HOk X.prog X.w H' h') (hg:AllBare g'):
 Inv X pins σ H' { s with heap:=h',gens:=g',drawn:=d',toks:=t' }:=by
 have neL:∀b o,X.s₀.heap.get? b=some o->b≠X.env.locals:=λb o e=>ne_of_lt (lt_of_lt_of_le (Heap.lt_size e) I.ok.above);have neC:∀b o,X.s₀.heap.get? b=some o->b∉X.ex->b∉ch:=λb o e hx hb=>by
  rcases(hch b hb).1 with z|z
  .exact hx z
  .exact absurd (lt_of_lt_of_le (Heap.lt_size e) z) (lt_irrefl _)
 have cellK:∀x c,X.env.cells.lookup x=some c->∀v,s.heap.IsCell c v->h'.IsCell c v:=λx c e v ⟨o,ho,hd⟩=>by
  have nch:c∉ch:=λz=>(hch c z).2.2.1 x c e rfl;by_cases hc:c∈X.fs
  .obtain⟨sl,q⟩:=slot c o (I.cne x c e) hc nch ho (I.freeC x c e);exact⟨_,q,hd⟩
  .exact⟨o,keep c o (I.cne x c e) hc nch ho (I.freeC x c e),hd⟩
 refine⟨I.ok,I.os,hg,⟨λb o e n hb hx=>?_,λb o e n hb hx=>?_,λb o e n hx=>?_,λb o e hx=>?_,λb xs e=>tups b xs (I.base.tups b xs e),λb o xs e=>frzs b o xs (I.base.frzs b o xs e),λb ps e=>?_⟩,?_,λx c e=>?_,?_,λx c e=>?_,λp hp=>?_,hok,I.len⟩
 .exact keep b o (neL b o e) hb (neC b o e hx) (I.base.keep b o e n hb hx) (I.base.free b o e n hx)
 .obtain⟨sl,e1⟩:=I.base.slot b o e n hb hx;obtain⟨sl',e2⟩:=slot b _ (neL b o e) hb (neC b o e hx) e1 (I.base.free b o e n hx);exact⟨sl',e2⟩
 .obtain⟨o',e1⟩:=I.base.there b o e hx;exact free b o' (neC b o e hx) e1 (I.base.free b o e n hx)
 .obtain⟨o',e1⟩:=I.base.there b o e hx;exact there b o' (neC b o e hx) e1
 .obtain⟨m1,e1⟩:=I.base.tbls b ps e;obtain⟨m2,e2⟩:=tbls b _ e1;exact⟨m1++m2,by rw[e2,Array.append_assoc]⟩
 .obtain⟨m,hn,hl⟩:=I.loc;refine⟨m,ns m hn,λi x v e1 e2 e3=>?_⟩;obtain⟨u,r,l⟩:=hl i x v e1 e2 e3;refine⟨u,r,?_⟩;rcases l with l|⟨k,c,e,z⟩
  .exact .inl l
  .exact .inr ⟨k,c,e,cellK x c e _ z⟩
 .obtain⟨v,z⟩:=I.cell x c e;exact⟨v,cellK x c e v z⟩
 .obtain⟨m,⟨o,_,_,ho,_⟩,_⟩:=I.loc;exact free _ o (λz=>(hch _ z).2.1 rfl) ho I.free
 .obtain⟨v,o,ho,hd⟩:=I.cell x c e;exact free c o (λz=>(hch c z).2.2.1 x c e rfl) ho (I.freeC x c e)
 .obtain⟨e,n,ne,nf,d⟩:=I.pin p hp;have nch:p.1∉ch:=λz=>(hch p.1 z).2.2.2 p hp rfl;exact⟨keep p.1 p.2 ne nf nch e n,free p.1 p.2 nch e n,ne,nf,d⟩
def Inv.un{t':Nat}(I:Inv X pins σ H s)(u:Un X.fs [] H H' s.heap h')(hok:HOk X.prog X.w H' h'):Inv X pins σ H' { s with heap:=h',toks:=t' }:=by
 obtain⟨m,⟨o,es,ep,ho,r⟩,_⟩:=id I.loc;obtain⟨sl,hL⟩:=u.any ho I.free (by simp);exact I.step (g':=s.gens) (d':=s.drawn) (ch:=[]) (λ_ z=>nomatch z) (λb o _ hb _ e n=>u.keep b o e n hb (by simp)) (λb o _ hb _ e n=>u.slot b o e n hb (by simp)) (λb o _ e n=>u.free b o e n (by simp)) (λb o _ e=>u.there b o e (by simp)) u.tups u.frzs u.tbls (λm' hm=>by
  obtain⟨o',es',ep',ho',r'⟩:=hm;rw[ho]at ho';cases ho';exact⟨_,es',ep',hL,r'⟩) hok I.bare
def Inv.call{g':Array GenState}{t':Nat}{d':Drawn}{ch:List Addr}(I:Inv X pins σ H s)(u:Un (frs X.stack) ch H H' s.heap h')(hok:HOk X.prog X.w H' h')(hg:AllBare g')
 (hch:∀b∈ch,(b∈X.ex∨X.s₀.heap.objs.size<=b)/\b≠X.env.locals/\(∀x c,X.env.cells.lookup x=some c->c≠b)/\∀p∈X.pn++pins,p.1≠b):
 Inv X pins σ H' { s with heap:=h',gens:=g',drawn:=d',toks:=t' }:=by
 obtain⟨m,⟨o,es,ep,ho,r⟩,_⟩:=id I.loc;obtain⟨sl,hL⟩:=u.any ho I.free λz=>(hch _ z).2.1 rfl;exact I.step (ch:=ch) hch (λb o hL hb hc e n=>u.keep b o e n (λz=>(mem_cons.mp (I.stkSub b z)).elim hL hb) hc) (λb o _ _ hc e n=>u.any e n hc) (λb o hc e n=>u.free b o e n hc) (λb o hc e=>u.there b o e hc) u.tups u.frzs u.tbls (λm' hm=>by
  obtain⟨o',es',ep',ho',r'⟩:=hm;rw[ho]at ho';cases ho';exact⟨_,es',ep',hL,r'⟩) hok hg
def Inv.turned{t':Nat}{it:Addr}(I:Inv X pins σ H s)(k:∀b o,b≠it->s.heap.get? b=some o->h'.get? b=some o)(hn:H it=none)(hL:it≠X.env.locals)
 (h1:it∈X.ex∨X.s₀.heap.objs.size<=it) (h2:∀x c,X.env.cells.lookup x=some c->c≠it) (h3:∀p∈X.pn++pins,p.1≠it):Inv X pins σ H { s with heap:=h',toks:=t' }:=by
 have nit:∀b u,H b=some u->b≠it:=λb u e z=>by rw[z,hn]at e;cases e
 refine I.step (g':=s.gens) (d':=s.drawn) (ch:=[it]) (λb hb=>?_) (λb o _ _ hc e _=>k b o (λz=>hc (by simp[z])) e) (λb o _ _ hc e _=>⟨o.slots,k b o (λz=>hc (by simp[z])) e⟩) (λ_ _ _ _ n=>n)
  (λb o hc e=>⟨o,k b o (λz=>hc (by simp[z])) e⟩) (λ_ _ e=>e) (λ_ _ _ e=>e) (λb ps e=>⟨#[],by rw[e];simp⟩) (λm hm=>?_) (λb u e=>?_) I.bare
 .have e:b=it:=by simpa using hb
  subst e;exact⟨h1,hL,h2,h3⟩
 .obtain⟨o,es,ep,ho,r⟩:=hm;exact⟨o,es,ep,k _ o (Ne.symm hL) ho,r⟩
 .refine(I.hok b u e).stay (λc v hc q=>k c v ?_ q) (λ_ q=>q) λ_ _ q=>q;rcases hc with z|z
  .rw[z];exact nit b u e
  .exact nit c _ z
def Inv.tok(I:Inv X pins σ H s)(t:Nat):Inv X pins σ H { s with toks:=t }:=I.un (h':=s.heap) (t':=t) Un.refl I.hok
theorem Inv.kept{t':Nat}(I:Inv X pins σ H s)(k:∀b u,s.heap.get? b=some u->h'.get? b=some u):Inv X pins σ H { s with heap:=h',toks:=t' }:=I.un (Un.kept k) (I.hok.kept k)
theorem Inv.laid{a:Addr}{o:HO}{t':Nat}(I:Inv X pins σ H s)(k:∀b u,s.heap.get? b=some u->h'.get? b=some u)(hp:s.heap.objs.size<=a)(new:ObjOk X.prog X.w (upd H a o) h' a o):
 Inv X pins σ (upd H a o) { s with heap:=h',toks:=t' }:=I.un (Un.laid k hp (I.hok.fresh hp)) (I.hok.laid k hp new)
theorem Inv.write{x e:Addr}{o:HO}{t':Nat}(I:Inv X pins σ H s)(mu:Mut (H x))(he:e=x∨H e=some (.own x))(k:∀b u,b≠e->s.heap.get? b=some u->h'.get? b=some u)(heo:∃u,h'.get? e=some u)
 (new:ObjOk X.prog X.w (upd H x o) h' x o):Inv X pins σ (upd H x o) { s with heap:=h',toks:=t' }:=I.un (Un.write mu he k heo) (I.hok.write mu he k heo new)
def Inv.pins_of{pins':List (Addr×Obj)}(I:Inv X pins σ H s)(h:∀p∈pins',s.heap.get? p.1=some p.2/\H p.1=none/\p.1≠X.env.locals/\p.1∉X.fs/\∀v,p.2.data≠.cell v):Inv X pins' σ H s:=
 ⟨I.ok,I.os,I.bare,I.base,I.loc,I.cell,I.free,I.freeC,λp hp=>(mem_append.mp hp).elim (λz=>I.pin p (mem_append_left _ z)) (h p),I.hok,I.len⟩
def Ja{N:List Str}(hN:N.Nodup){i j:Nat}{x:Str}(a:N[i]?=some x)(b:N[j]?=some x):i=j:=by
 obtain⟨h1,e1⟩:=List.getElem?_eq_some_iff.mp a;obtain⟨h2,e2⟩:=List.getElem?_eq_some_iff.mp b;exact(List.getElem_inj hN).mp (e1.trans e2.symm)
def F6{M:Model}{A:Around}{E:Value->Shared->Prop}{i:Nat}{x:Str}{v:V}{u:Value}{Q:Unit->Shared->Prop}(I:Inv X pins σ H s)(hN:X.N.Nodup)(hi:X.N[i]?=some x)(hx:Loc X.env.scope x)(r:RelV v u)
 (h:∀s',Inv X pins (σ.set i (some v)) H s'->(∃a,Heap.SameBut a s.heap s'.heap/\(a=X.env.locals∨X.env.cells.lookup x=some a))->Q () s') (hf:X.fn x=true∨X.env.scope.names.lookup x=some .local:=by first|exact .inl rfl|exact .inr rfl|assumption):wpAny M A (storeName X.env x u) Q E s:=by
 obtain⟨m,hn,hl⟩:=id I.loc;have hcls:(X.env.scope.kind==.class||(X.env.scope.kind==.module&&X.env.locals != X.env.globals))=false:=by rw[I.ok.kind];rfl
 have hiσ:i<σ.length:=by rw[I.len];exact(List.getElem?_eq_some_iff.mp hi).1
 have cne:=I.cne;have tracked:∀{a:Addr} {h':Heap},(∃o,s.heap.get? a=some o/\H a=none)->Heap.SameBut a s.heap h'->HOk X.prog X.w H h':=λ{a h'} ha hs b ob e=>by
  obtain⟨_,_,hfree⟩:=ha;refine(I.hok b ob e).stay (λc w' hc q=>(hs.2 c ?_).trans q) (λ_ q=>q) λ_ _ q=>q;rintro rfl;rcases hc with rfl|hc
  .rw[hfree]at e;cases e
  .rw[hfree]at hc;cases hc
 rcases hx with hk|hk
 .refine wpAny_storeName_local hk hn (λh' hn' hs=>?_) hcls;obtain⟨oL,_,_,hoL,_⟩:=id hn;refine h _ ⟨I.ok,I.os,I.bare,⟨λb o e n hb hx=>?_,λb o e n hb hx=>?_,I.base.free,λb o e hx=>?_,I.base.tups,I.base.frzs,I.base.tbls⟩,⟨_,hn',λj y v' e1 e2 e3=>?_⟩,λy c e=>?_,I.free,I.freeC,λp hp=>?_,tracked ⟨oL,hoL,I.free⟩ hs,by simpa using I.len⟩ ⟨_,hs,.inl rfl⟩
  .exact(hs.2 b (ne_of_lt (lt_of_lt_of_le (Heap.lt_size e) I.ok.above))).trans (I.base.keep b o e n hb hx)
  .obtain⟨sl,e1⟩:=I.base.slot b o e n hb hx;exact⟨sl,(hs.2 b (ne_of_lt (lt_of_lt_of_le (Heap.lt_size e) I.ok.above))).trans e1⟩
  .obtain⟨o',e1⟩:=I.base.there b o e hx;exact⟨o',(hs.2 b (ne_of_lt (lt_of_lt_of_le (Heap.lt_size e) I.ok.above))).trans e1⟩
  .by_cases hj:j=i
   .subst hj;rw[hi]at e1;cases e1;rw[List.getElem?_set_self hiσ]at e2;cases e2;exact⟨u,r,.inl ⟨hk,by simp⟩⟩
   .rw[List.getElem?_set_ne (Ne.symm hj)]at e2;obtain⟨u',r',q⟩:=hl j y v' e1 e2 e3;refine⟨u',r',?_⟩;rcases q with⟨k,e⟩|⟨k,c,e,z⟩
    .refine .inl ⟨k,?_⟩;have:y≠x:=λe=>hj (Ja hN e1 (e ▸ hi));simp[this,e]
    .exact .inr ⟨k,c,e,z.sameBut hs (cne y c e)⟩
  .obtain⟨w',z⟩:=I.cell y c e;exact⟨w',z.sameBut hs (cne y c e)⟩
  .obtain⟨e,n,ne,nf,d⟩:=I.pin p hp;exact⟨(hs.2 p.1 ne).trans e,n,ne,nf,d⟩
 .have hfn:X.fn x=true:=by
   rcases hf with z|z
   .exact z
   .rw[z]at hk;cases hk
  obtain⟨c,hc⟩:=I.ok.has x (.inl hk);obtain⟨w',z⟩:=I.cell x c hc;refine wpAny_storeName_cell I.ok.kind hk hc z (λh' hc' hs=>?_);obtain⟨oc,hoc,hocd⟩:=id z;refine h { s with heap:=h' } ⟨I.ok,I.os,I.bare,⟨λb o e n hb hx=>?_,λb o e n hb hx=>?_,I.base.free,λb o e hx=>?_,I.base.tups,I.base.frzs,I.base.tbls⟩,⟨m,hn.sameBut hs (Ne.symm (cne x c hc)),λj y v' e1 e2 e3=>?_⟩,λy c' e=>?_,I.free,I.freeC,λp hp=>?_,tracked ⟨oc,hoc,I.freeC x c hc⟩ hs,by simpa using I.len⟩ ⟨c,hs,.inr hc⟩
  .exact(hs.2 b (ne_of_lt (lt_of_lt_of_le (Heap.lt_size e) (I.ok.cab x c hfn hc)))).trans (I.base.keep b o e n hb hx)
  .obtain⟨sl,e1⟩:=I.base.slot b o e n hb hx;exact⟨sl,(hs.2 b (ne_of_lt (lt_of_lt_of_le (Heap.lt_size e) (I.ok.cab x c hfn hc)))).trans e1⟩
  .obtain⟨o',e1⟩:=I.base.there b o e hx;exact⟨o',(hs.2 b (ne_of_lt (lt_of_lt_of_le (Heap.lt_size e) (I.ok.cab x c hfn hc)))).trans e1⟩
  .by_cases hj:j=i
   .subst hj;rw[hi]at e1;cases e1;rw[List.getElem?_set_self hiσ]at e2;cases e2;exact⟨u,r,.inr ⟨.inl hk,c,hc,hc'⟩⟩
   .rw[List.getElem?_set_ne (Ne.symm hj)]at e2;obtain⟨u',r',q⟩:=hl j y v' e1 e2 e3;refine⟨u',r',?_⟩;rcases q with q|⟨k,c',e,z'⟩
    .exact .inl q
    .refine .inr ⟨k,c',e,z'.sameBut hs ?_⟩;rintro rfl;exact hj (Ja hN e1 (I.ok.inj _ _ _ e hc ▸ hi))
  .by_cases hcc:c'=c
   .subst hcc;exact⟨_,hc'⟩
   .obtain⟨w2,z2⟩:=I.cell y c' e;exact⟨w2,z2.sameBut hs hcc⟩
  .obtain⟨e,n,ne,nf,d⟩:=I.pin p hp;refine⟨(hs.2 p.1 ?_).trans e,n,ne,nf,d⟩;intro q;rw[q,hoc]at e;have q':oc=p.2:=Option.some.inj e;exact d w' (by rw[<- q'];exact hocd)
def JB{M:Model}{A:Around}{E:Value->Shared->Prop}{i:Nat}{x:Str}{v:V}{u:Value}{Q:Unit->Shared->Prop}(I:Inv X pins σ H s)(hN:X.N.Nodup)(hi:X.N[i]?=some x)(hx:Loc X.env.scope x)(r:RelV v u)
 (h:∀s',Inv X pins (σ.set i (some v)) H s'->Q () s') (hf:X.fn x=true∨X.env.scope.names.lookup x=some .local:=by first|exact .inl rfl|exact .inr rfl|assumption):wpAny M A (storeName X.env x u) Q E s:=
 F6 I hN hi hx r (λs' I' _=>h s' I') hf
def Inv.call'{s':Shared}{ch:List Addr}(I:Inv X pins σ H s)(ho:s'.os=s.os)(u:Un (frs X.stack) ch H H' s.heap s'.heap)(hok:HOk X.prog X.w H' s'.heap)(hg:AllBare s'.gens)
 (hch:∀b∈ch,(b∈X.ex∨X.s₀.heap.objs.size<=b)/\b≠X.env.locals/\(∀x c,X.env.cells.lookup x=some c->c≠b)/\∀p∈X.pn++pins,p.1≠b):Inv X pins σ H' s':=by
 obtain⟨h',g',d',t',o'⟩:=s';have e:o'=s.os:=ho;subst e;exact I.call (g':=g') (t':=t') (d':=d') u hok hg hch
end
abbrev XK:=Value->Option Addr->Hp->Prop
abbrev St:=List (Option V)
abbrev VK:=V->Hp->Prop
abbrev TE:=St->Hp->VK->Prop
abbrev TT:=St->Hp->(Bool->Hp->Prop)->Prop
abbrev TA:=St->Hp->(List V->Hp->Prop)->Prop
structure Ends where
 nx:St->Hp->Prop
 rt:VK
 bk:St->Hp->Prop:=λ_ _=>False
 ct:St->Hp->Prop:=λ_ _=>False
abbrev TS:=Ends->St->Hp->Prop
def EP(X:Cx)(pins:List (Addr×Obj))(σ:St)(Q:VK)(u:Value)(s':Shared):Prop:=∃v H',Inv X pins σ H' s'/\RelV v u/\Q v H'
def TP(X:Cx)(pins:List (Addr×Obj))(σ:St)(Q:Bool->Hp->Prop)(b:Bool)(s':Shared):Prop:=∃H',Inv X pins σ H' s'/\Q b H'
def AP(X:Cx)(pins:List (Addr×Obj))(σ:St)(Q:List V->Hp->Prop)(us:List Value)(s':Shared):Prop:=∃vs H',Inv X pins σ H' s'/\Vals vs us/\Q vs H'
def SP(X:Cx)(pins:List (Addr×Obj))(D:Ends)(f:Flow)(s':Shared):Prop:=
 match f with
 |.next=>∃σ' H',Inv X pins σ' H' s'/\D.nx σ' H'
 |.brk=>∃σ' H',Inv X pins σ' H' s'/\D.bk σ' H'
 |.cont=>∃σ' H',Inv X pins σ' H' s'/\D.ct σ' H'
 |.ret u=>∃v σ' H',Inv X pins σ' H' s'/\RelV v u/\D.rt v H'
def PE(X:Cx)(e:Expr)(t:TE):Prop:=
 ∀(pins:List (Addr×Obj)) (s:Shared) (σ:St) (H:Hp) (Q:VK),Inv X pins σ H s->t σ H Q->wpAny (model X.prog X.w) X.A (eval e X.env) (EP X pins σ Q) X.xe s
def PT(X:Cx)(e:Expr)(t:TT):Prop:=
 ∀(pins:List (Addr×Obj)) (s:Shared) (σ:St) (H:Hp) (Q:Bool->Hp->Prop),Inv X pins σ H s->t σ H Q->wpAny (model X.prog X.w) X.A (isTrue e X.env (eval e X.env)) (TP X pins σ Q) X.xe s
def PW(X:Cx)(e:Expr)(t:TT):Prop:=
 ∀(whole:Sem Value) (pins:List (Addr×Obj)) (s:Shared) (σ:St) (H:Hp) (Q:Bool->Hp->Prop),Inv X pins σ H s->t σ H Q->wpAny (model X.prog X.w) X.A (isTrue e X.env whole) (TP X pins σ Q) X.xe s
def PW.pt{X:Cx}{e:Expr}{t:TT}(h:PW X e t):PT X e t:=h _
def PA(X:Cx)(es:List Expr)(t:TA):Prop:=
 ∀(pos:Pos) (pins:List (Addr×Obj)) (s:Shared) (σ:St) (H:Hp) (Q:List V->Hp->Prop),Inv X pins σ H s->t σ H Q->wpAny (model X.prog X.w) X.A (spliced (backTo pos (starEach es X.env))) (AP X pins σ Q) X.xe s
def PS(X:Cx)(st:Stmt)(t:TS):Prop:=
 ∀(pins:List (Addr×Obj)) (s:Shared) (σ:St) (H:Hp) (D:Ends),Inv X pins σ H s->t D σ H->wpAny (model X.prog X.w) X.A (exec st X.env) (SP X pins D) X.xe s
def PSs(X:Cx)(st:List Stmt)(t:TS):Prop:=
 ∀(pins:List (Addr×Obj)) (s:Shared) (σ:St) (H:Hp) (D:Ends),Inv X pins σ H s->t D σ H->wpAny (model X.prog X.w) X.A (execs st X.env) (SP X pins D) X.xe s
def thn{α:Type}{t:Sem α}{Q Q':α->Shared->Prop}{M:Model}{A:Around}{E:Value->Shared->Prop}{s:Shared}(h:wpAny M A t Q E s)(hQ:∀a s,Q a s->Q' a s):wpAny M A t Q' E s:=wpAny_mono h hQ λ_ _ x=>x
section
variable{X:Cx}
def bin{a b:Expr}{ta tb:TE}(ha:PE X a ta)(hb:PE X b tb){pins:List (Addr×Obj)}{s:Shared}{σ:St}{H:Hp}{R:V->V->Hp->Prop}(I:Inv X pins σ H s)(h:ta σ H λx H1=>tb σ H1 λy H2=>R x y H2)
 {α:Type} {Q:α->Shared->Prop} {f:Value->Value->Sem α}
 (hf:∀v u s2 x y H2,Inv X pins σ H2 s2->RelV x v->RelV y u->R x y H2->wpAny (model X.prog X.w) X.A (f v u) Q X.xe s2):
 wpAny (model X.prog X.w) X.A (eval a X.env) (λv s₁=>wpAny (model X.prog X.w) X.A (eval b X.env) (λu s₂=>wpAny (model X.prog X.w) X.A (f v u) Q X.xe s₂) X.xe s₁) X.xe s:=by
 refine thn (ha pins s σ H _ I h) λv s1 ⟨x,H1,I1,r1,q1⟩=>?_;refine thn (hb pins s1 σ H1 _ I1 q1) λu s2 ⟨y,H2,I2,r2,q2⟩=>?_;exact hf v u s2 x y H2 I2 r1 r2 q2
def L8(i:Nat):TE:=λσ H Q=>∃v,σ[i]?=some (some v)/\Q v H
def tC(v:V):TE:=λ_ H Q=>Q v H
def Mr{i:Nat}{x:Str}{pos:Pos}(hN:X.N[i]?=some x)(hv:Vis X.env.scope x)(hd:(x==("__debug__":Str))=false:=by decide)(hcd:(x==("__classdict__":Str))=false:=by decide):PE X (.Name x pos) (L8 i):=by
 intro pins s σ H Q I h;obtain⟨v,e,h⟩:=h;obtain⟨m,hn,hl⟩:=I.loc;obtain⟨u,r,l⟩:=hl i x v hN e hv;have fin:EP X pins σ Q u s:=⟨v,H,I,r,h⟩
 rcases l with⟨hk,hm⟩|⟨hk,c,hc,hcell⟩
 .exact wpAny_Name (wpAny_loadName_local I.ok.kind hk hn hm fin) hd
 .rcases hk with hk|hk
  .exact wpAny_Name (wpAny_loadName_cell I.ok.kind hk hc hcell fin) hd
  .exact wpAny_Name (wpAny_loadName_free I.ok.kind hk hc hcell fin hcd) hd
def Ub{i j pos}:PE X (.Constant (.int i) j pos) (tC (.int i)):=λ_ _ _ H _ I h=>wpAny_Constant_int ⟨.int i,H,I.tok _,⟨_,rfl⟩,h⟩
def Vs{b j pos}:PE X (.Constant (.bool b) j pos) (tC (.bl b)):=λ_ _ _ H _ I h=>Constant_bool ⟨.bl b,H,I,rfl,h⟩
def UW{x j pos}:PE X (.Constant (.str x) j pos) (tC (.str x)):=λ_ _ _ H _ I h=>Calls.Constant_str ⟨.str x,H,I.tok _,⟨_,rfl⟩,h⟩
def Gl(X:Cx)(x:Str):Prop:=X.env.kindOf x=some .globalImplicit
def SD{E:Value->Shared->Prop}{pins:List (Addr×Obj)}{s:Shared}{σ:St}{H:Hp}{x:Str}{u:Value}{pos:Pos}{Q:Value->Shared->Prop}(I:Inv X pins σ H s)(hg:Gl X x)(hm:X.mg x=some u)(h:Q u s)
 (hd:(x==("__debug__":Str))=false:=by decide):wpAny (model X.prog X.w) X.A (eval (.Name x pos) X.env) Q E s:=
 Calls.Name_function_global I.ok.kind hg (Calls.loadGlobal_global (by rw[I.ok.glob];exact I.mod.glob.keeps I.bk) hm h) hd
def DD{E:Value->Shared->Prop}{pins:List (Addr×Obj)}{s:Shared}{σ:St}{H:Hp}{x:Str}{u:Value}{pos:Pos}{Q:Value->Shared->Prop}(I:Inv X pins σ H s)(hg:Gl X x)(hm:X.mg x=none)(hv:bootBuiltins x=some u)(h:Q u s)
 (hn:x≠"__name__":=by decide) (hd:(x==("__debug__":Str))=false:=by decide):wpAny (model X.prog X.w) X.A (eval (.Name x pos) X.env) Q E s:=by
 obtain⟨mb,h1,h2⟩:=I.mod.blt;exact Calls.Name_function_global I.ok.kind hg (Calls.loadGlobal_builtin (by rw[I.ok.glob];exact I.mod.glob.keeps I.bk) hm (by rw[I.ok.blt];exact h1.keeps I.bk) ((h2 x hn).trans hv) h) hd
variable{a b:Expr}{ta tb:TE}{pos:Pos}
def PC(X:Cx)(op:CmpOp)(a b:Expr)(t:TE):Prop:=
 ∀(pins:List (Addr×Obj)) (s:Shared) (σ:St) (H:Hp) (Q:VK),Inv X pins σ H s->t σ H Q ->
   wpAny (model X.prog X.w) X.A (eval a X.env) (λv s₁=>wpAny (model X.prog X.w) X.A (eval b X.env) (λu s₂=>wpAny (model X.prog X.w) X.A (compareOp op v u) (EP X pins σ Q) X.xe s₂) X.xe s₁) X.xe s
def Oc(b:Expr){op:CmpOp}(h:op≠.In)(h2:op≠.NotIn):behindInMarks op b=false:=by
 have e1:(op==CmpOp.In)=false:=by cases op<;>first|rfl|exact absurd rfl h
 have e2:(op==CmpOp.NotIn)=false:=by cases op<;>first|rfl|exact absurd rfl h2
 cases b<;>simp[behindInMarks,e1,e2]
def tB(t:TE):TT:=λσ H Q=>t σ H λx H1=>∃c,x=.bl c/\Q c H1
def UL{op:CmpOp}{t:TE}(h:PC X op a b t)(h1:behindInMarks op b=false:=by first|exact Oc _ (by decide) (by decide)|rfl):PT X (.Compare a [op] [b] pos) (tB t):=by
 intro pins s σ H Q I hw;refine wpAny_isTrue_Compare1 (thn (h pins s σ H _ I hw) λv s1 h1=>thn h1 λu s2 h2=>thn h2 λc s3 ⟨x,H1,I1,r1,q1⟩=>?_) h1;obtain⟨d,rfl,q⟩:=q1;cases r1;exact wpAny_truthy_bool ⟨H1,I1,q⟩
variable{tA tB':TT}{rest:List Expr}
def Nm(t u:TT):TT:=λσ H Q=>t σ H λc H1=>if c=true then u σ H1 Q else Q false H1
def tOr(t u:TT):TT:=λσ H Q=>t σ H λc H1=>if c=true then Q true H1 else u σ H1 Q
def Ng(t:TT):TT:=λσ H Q=>t σ H λc H1=>Q (!c) H1
def RQ(ha:PT X a tA):PW X (.BoolOp .And [a] pos) tA:=by
 intro wh pins s σ H Q I h;refine isTrue_and (thn (ha pins s σ H Q I h) λc s1 e=>?_);cases c with
 |true=>exact isTrue_and_nil e
 |false=>exact e
def UI(ha:PT X a tA):PW X (.BoolOp .Or [a] pos) tA:=by
 intro wh pins s σ H Q I h;refine isTrue_or (thn (ha pins s σ H Q I h) λc s1 e=>?_);cases c with
 |false=>exact isTrue_or_nil e
 |true=>exact e
def UJ(ha:PT X a tA)(hb:PW X (.BoolOp .And (b::rest) pos) tB'):PW X (.BoolOp .And (a::b::rest) pos) (Nm tA tB'):=by
 intro wh pins s σ H Q I h;refine isTrue_and (thn (ha pins s σ H _ I h) λc s1 ⟨H1,I1,q1⟩=>?_);cases c with
 |true=>exact hb wh pins s1 σ H1 Q I1 q1
 |false=>exact⟨H1,I1,q1⟩
def Vo(ha:PT X a tA)(hb:PW X (.BoolOp .Or (b::rest) pos) tB'):PW X (.BoolOp .Or (a::b::rest) pos) (tOr tA tB'):=by
 intro wh pins s σ H Q I h;refine isTrue_or (thn (ha pins s σ H _ I h) λc s1 ⟨H1,I1,q1⟩=>?_);cases c with
 |true=>exact⟨H1,I1,q1⟩
 |false=>exact hb wh pins s1 σ H1 Q I1 q1
def UK(ha:PT X a tA):PT X (.UnaryOp .Not a pos) (Ng tA):=by
 intro pins s σ H Q I h;exact isTrue_not (ha pins s σ H (λc H1=>Q (!c) H1) I h)
def LK(ta tb:TE):TE:=λσ H Q=>ta σ H λx H1=>∃c,x=.bl c/\if c=true then tb σ H1 Q else Q (.bl false) H1
def LB(ta:TE):TE:=λσ H Q=>ta σ H λx H1=>∃c,x=.bl c/\Q (.bl (!c)) H1
def UX{op}{t:TE}(h:PE X a t):PE X (.BoolOp op [a] pos) t:=λpins s σ H Q I hw=>BoolOp_one (h pins s σ H Q I hw)
def Uc(ha:PE X a ta)(hb:PE X (.BoolOp .And (b::rest) pos) tb):PE X (.BoolOp .And (a::b::rest) pos) (LK ta tb):=by
 intro pins s σ H Q I h;refine BoolOp_and (thn (ha pins s σ H _ I h) λv s1 ⟨x,H1,I1,r1,q1⟩=>?_);obtain⟨c,rfl,q1⟩:=q1;cases r1;refine wpAny_truthy_bool ?_;cases c with
 |true=>exact hb pins s1 σ H1 Q I1 q1
 |false=>exact⟨.bl false,H1,I1,rfl,q1⟩
def UY(ha:PE X a ta):PE X (.UnaryOp .Not a pos) (LB ta):=by
 intro pins s σ H Q I h;refine UnaryOp_ (thn (ha pins s σ H _ I h) λv s1 ⟨x,H1,I1,r1,q1⟩=>?_);obtain⟨c,rfl,q1⟩:=q1;cases r1;exact not_of (wpAny_truthy_bool ⟨.bl (!c),H1,I1,rfl,q1⟩)
def tIf(t:TT)(ta tb:TE):TE:=λσ H Q=>t σ H λc H1=>if c=true then ta σ H1 Q else tb σ H1 Q
def OW{c:Expr}(hc:PT X c tA)(ha:PE X a ta)(hb:PE X b tb):PE X (.IfExp c a b pos) (tIf tA ta tb):=by
 intro pins s σ H Q I h;refine wpAny_IfExp (thn (hc pins s σ H _ I h) λd s1 ⟨H1,I1,q1⟩=>?_);cases d with
 |true=>exact ha pins s1 σ H1 Q I1 q1
 |false=>exact hb pins s1 σ H1 Q I1 q1
end
def SqL(K:PySem.W.Frag)(H:Hp)(a:Addr)(xs:List V):Prop:=
 Rd H a (.lst xs) ∨
  ∃(o:Obj) (its:Array Value) (n:Nat),K.lookup a=some o/\o.cls=.type "list"/\o.dict=none/\o.data=.seq its n/\its.size<=sizeLine/\Vals xs its.toList
def SqT(K:PySem.W.Frag)(H:Hp)(a:Addr)(xs:List V):Prop:=
 Rd H a (.tup xs) ∨
  ∃(o:Obj) (its:Array Value) (n:Nat),K.lookup a=some o/\o.cls=.type "tuple"/\o.dict=none/\o.data=.seq its n/\its.size<=sizeLine/\Vals xs its.toList
def X4:Value->Option V
 |.none=>some .non
 |.bool b=>some (.bl b)
 |.int i _=>some (.int i)
 |.str x _=>some (.str x)
 |.bytes b _=>some (.byt b)
 |.float b _=>some (.flt b)
 |.ref a=>some (.ref a)
 |.type n=>some (.ty n)
 |_=>none
def RelV.abs{x:V}{u:Value}(r:RelV x u):X4 u=some x:=by
 cases x with
 |non=>cases r;rfl
 |bl _=>cases r;rfl
 |int _=>obtain⟨t,rfl⟩:=r;rfl
 |str _=>obtain⟨t,rfl⟩:=r;rfl
 |byt _=>obtain⟨t,rfl⟩:=r;rfl
 |flt _=>obtain⟨t,rfl⟩:=r;rfl
 |ref _=>cases r;rfl
 |ty _=>cases r;rfl
theorem RelV.inj{x y:V}{u:Value}(r:RelV x u)(q:RelV y u):x=y:=Option.some.inj (r.abs.symm.trans q.abs)
theorem Vals.inj:∀{xs ys:List V} {us:List Value},Vals xs us->Vals ys us->xs=ys
 |_,_,_,.nil,.nil=>rfl
 |_,_,_,.cons r t,.cons r' t'=>by rw[r.inj r',Vals.inj t t']
section
variable{X:Cx}{pins:List (Addr×Obj)}{σ:St}{H:Hp}{s:Shared}{a:Addr}{xs ys:List V}
def SqL.of{K:PySem.W.Frag}(h:H a=some (.lst xs)):SqL K H a xs:=.inl (.inl h)
def SqT.of{K:PySem.W.Frag}(h:H a=some (.tup xs)):SqT K H a xs:=.inl (.inl h)
def Inv.list(I:Inv X pins σ H s)(h:SqL X.K H a xs):∃its:List Value,Vals xs its/\PlainL s.heap a its.toArray/\xs.length<=sizeLine:=by
 rcases h with h|⟨o,its,n,hk,hc,hd,hs,hz,r⟩
 .obtain⟨z,its,n,r,e⟩:=h.ok I.hok;exact⟨its,r,⟨_,n,e,rfl,rfl,rfl⟩,z⟩
 .refine⟨its.toList,r,⟨o,n,I.kIn a o hk,hc,hd,by simpa using hs⟩,?_⟩;have e:=r.length;simp only[Array.length_toList]at e;omega
def Inv.tuple(I:Inv X pins σ H s)(h:SqT X.K H a xs):∃its:List Value,Vals xs its/\IsTup s.heap a its.toArray/\xs.length<=sizeLine:=by
 rcases h with h|⟨o,its,n,hk,hc,_,hs,hz,r⟩
 .obtain⟨z,its,r,p⟩:=h.ok I.hok;exact⟨its,r,p.t,z⟩
 .refine⟨its.toList,r,⟨o,I.kIn a o hk,hc,n,by simpa using hs⟩,?_⟩;have e:=r.length;simp only[Array.length_toList]at e;omega
def Inv.list_inj(I:Inv X pins σ H s)(h:SqL X.K H a xs)(h':SqL X.K H a ys):xs=ys:=by
 obtain⟨its,r,⟨o,n,e,_,_,d⟩,_⟩:=I.list h;obtain⟨its',r',⟨o',n',e',_,_,d'⟩,_⟩:=I.list h';rw[e]at e';cases e';rw[d]at d'
 injection d' with d1 _
 have:its=its':=by simpa using congrArg Array.toList d1
 subst this;exact r.inj r'
def Inv.tuple_inj(I:Inv X pins σ H s)(h:SqT X.K H a xs)(h':SqT X.K H a ys):xs=ys:=by
 obtain⟨its,r,⟨o,e,_,n,d⟩,_⟩:=I.tuple h;obtain⟨its',r',⟨o',e',_,n',d'⟩,_⟩:=I.tuple h';rw[e]at e';cases e';rw[d]at d'
 injection d' with d1 _
 have:its=its':=by simpa using congrArg Array.toList d1
 subst this;exact r.inj r'
end
abbrev Cx.wish(X:Cx)(E:Value->Shared->Prop):Cx:={ X with xe:=E }
abbrev Cx.nox(X:Cx):Cx:=X.wish λ_ _=>False
theorem Cx.Ok.wish{X:Cx}(ok:X.Ok)(E:Value->Shared->Prop):(X.wish E).Ok:=
 ⟨ok.mod,ok.kind,ok.glob,ok.blt,ok.above,ok.inj,ok.has,ok.cab,ok.hd,ok.frames,ok.stk,ok.exf,ok.bs,ok.bsz,ok.noex,ok.exfs,ok.funs,ok.frf⟩
def Cx.Ok.unwish{X:Cx}{E:Value->Shared->Prop}(ok:(X.wish E).Ok):X.Ok:=
 ⟨ok.mod,ok.kind,ok.glob,ok.blt,ok.above,ok.inj,ok.has,ok.cab,ok.hd,ok.frames,ok.stk,ok.exf,ok.bs,ok.bsz,ok.noex,ok.exfs,ok.funs,ok.frf⟩
section
variable{X:Cx}{pins:List (Addr×Obj)}{σ:St}{H:Hp}{s:Shared}{E:Value->Shared->Prop}
theorem Inv.wish(I:Inv X pins σ H s)(E:Value->Shared->Prop):Inv (X.wish E) pins σ H s:=⟨I.ok.wish E,I.os,I.bare,I.base,I.loc,I.cell,I.free,I.freeC,I.pin,I.hok,I.len⟩
theorem Inv.unwish(I:Inv (X.wish E) pins σ H s):Inv X pins σ H s:=⟨I.ok.unwish,I.os,I.bare,I.base,I.loc,I.cell,I.free,I.freeC,I.pin,I.hok,I.len⟩
theorem SP.unwish{D:Ends}{f:Flow}{s':Shared}(h:SP (X.wish E) pins D f s'):SP X pins D f s':=by
 cases f with
 |next=>obtain⟨σ',H',I,q⟩:=h;exact⟨σ',H',I.unwish,q⟩
 |brk=>obtain⟨σ',H',I,q⟩:=h;exact⟨σ',H',I.unwish,q⟩
 |cont=>obtain⟨σ',H',I,q⟩:=h;exact⟨σ',H',I.unwish,q⟩
 |ret u=>obtain⟨v,σ',H',I,r,q⟩:=h;exact⟨v,σ',H',I.unwish,r,q⟩
theorem PSs.nox{st:List Stmt}{t:TS}(h:PSs X.nox st t):PSs X st t:=λpins s σ H D I hw=>
 wpAny_mono (h pins s σ H D (I.wish _) hw) (λ_ _ q=>q.unwish) λ_ _ z=>False.elim z
end
section
variable{X:Cx}{st:Stmt}{rest:List Stmt}{t u:TS}{e:Expr}{te:TE}{pos:Pos}
def GS:TS:=λD σ H=>D.nx σ H
def Nd(t u:TS):TS:=λD σ H=>t { D with nx:=u D } σ H
def RV:PSs X [] GS:=λ_ _ σ H _ I h=>wpAny_execs_nil ⟨σ,H,I,h⟩
def OO(h1:PS X st t)(h2:PSs X rest u):PSs X (st::rest) (Nd t u):=by
 intro pins s σ H D I h;refine wpAny_execs_cons (thn (h1 pins s σ H { D with nx:=u D } I h) λf s1 q=>?_);cases f with
 |next=>
  obtain⟨σ',H',I',q⟩:=q;exact h2 pins s1 σ' H' D I' q
 |ret v=>exact q
 |brk=>exact q
 |cont=>exact q
def RU(h1:PS X st t):PSs X [st] t:=by
 intro pins s σ H D I h;refine wpAny_execs_cons (thn (h1 pins s σ H D I h) λf s1 q=>?_);cases f with
 |next=>exact wpAny_execs_nil q
 |ret v=>exact q
 |brk=>exact q
 |cont=>exact q
def RX:PS X (.Pass pos) GS:=λ_ _ σ H _ I h=>wpAny_Pass ⟨σ,H,I,h⟩
def Inv.quiet{pins:List (Addr×Obj)}{σ:St}{H:Hp}{s:Shared}(I:Inv X pins σ H s):interactive X.env=false:=by simp[interactive,I.ok.kind]
def LG(te:TE):TS:=λD σ H=>te σ H λ_ H1=>D.nx σ H1
def RY(he:PE X e te)(hs:swapsWith e none pos.line X.env=pure false:=by rfl):PS X (.Expr e pos) (LG te):=by
 intro pins s σ H D I h;exact wpAny_Expr_any (thn (he pins s σ H _ I h) λv s1 ⟨x,H1,I1,r1,q1⟩=>⟨σ,H1,I1,q1⟩) I.quiet hs
def Nf(te:TE):TS:=λD σ H=>te σ H D.rt
def UN(he:PE X e te):PS X (.Return (some e) pos) (Nf te):=by
 intro pins s σ H D I h;exact wpAny_Return_some (thn (he pins s σ H _ I h) λv s1 ⟨x,H1,I1,r1,q1⟩=>⟨x,σ,H1,I1,r1,q1⟩)
def Nk(c:TT)(t u:TS):TS:=λD σ H=>c σ H λb H1=>if b=true then t D σ H1 else u D σ H1
def Vp{c:Expr}{a b:List Stmt}{tc:TT}(hc:PT X c tc)(ha:PSs X a t)(hb:PSs X b u):PS X (.If c a b pos) (Nk tc t u):=by
 intro pins s σ H D I h;refine wpAny_If (thn (hc pins s σ H _ I h) λd s1 ⟨H1,I1,q1⟩=>?_);cases d with
 |true=>exact ha pins s1 σ H1 D I1 q1
 |false=>exact hb pins s1 σ H1 D I1 q1
def J9:TS:=λ_ _ _=>False
def OR:PS X st J9:=λ_ _ _ _ _ _ h=>h.elim
end
abbrev TG:=V->St->Hp->(St->Hp->Prop)->Prop
abbrev TGs:=List V->St->Hp->(St->Hp->Prop)->Prop
def PG(X:Cx)(target:Expr)(t:TG):Prop:=
 ∀(pins:List (Addr×Obj)) (s:Shared) (σ:St) (H:Hp) (v:V) (u:Value) (Q:St->Hp->Prop),Inv X pins σ H s->RelV v u->t v σ H Q ->
   wpAny (model X.prog X.w) X.A (assign target X.env u) (λ_ s'=>∃σ' H',Inv X pins σ' H' s'/\Q σ' H') X.xe s
def PGs(X:Cx)(ts:List Expr)(t:TGs):Prop:=
 ∀(pins:List (Addr×Obj)) (s:Shared) (σ:St) (H:Hp) (vs:List V) (us:List Value) (Q:St->Hp->Prop),Inv X pins σ H s->Vals vs us->t vs σ H Q ->
   wpAny (model X.prog X.w) X.A (assignInOrder ((assignEach ts X.env).map (·.2)) us) (λ_ s'=>∃σ' H',Inv X pins σ' H' s'/\Q σ' H') X.xe s
abbrev K4:=V->V->V->Hp->(Hp->Prop)->Prop
def P8(X:Cx)(t:K4):Prop:=
 ∀(pins:List (Addr×Obj)) (s:Shared) (σ:St) (H:Hp) (o i v:V) (ov iv u:Value) (Q:Hp->Prop),Inv X pins σ H s->RelV o ov->RelV i iv->RelV v u->t o i v H Q ->
   wpAny (model X.prog X.w) X.A (setItem ov iv u) (λ_ s'=>∃H',Inv X pins σ H' s'/\Q H') X.xe s
abbrev TIp:=V->V->Hp->VK->Prop
def PIp(X:Cx)(op:Operator)(t:TIp):Prop:=
 ∀(pins:List (Addr×Obj)) (s:Shared) (σ:St) (H:Hp) (x y:V) (v u:Value) (Q:VK),Inv X pins σ H s->RelV x v->RelV y u->t x y H Q ->
   wpAny (model X.prog X.w) X.A (inplaceOp op v u) (EP X pins σ Q) X.xe s
section
variable{X:Cx}{pos:Pos}
def C1(i:Nat):TG:=λv σ H Q=>Q (σ.set i (some v)) H
def Rn{i:Nat}{x:Str}(hN:X.N.Nodup)(hi:X.N[i]?=some x)(hx:Loc X.env.scope x)(hf:X.fn x=true∨X.env.scope.names.lookup x=some .local:=by first|exact .inl rfl|exact .inr rfl|assumption):PG X (.Name x pos) (C1 i):=by
 intro pins s σ H v u Q I r h;exact wpAny_assign_Name (JB I hN hi hx r (λs' I'=>⟨_,H,I',h⟩) hf)
def Ox:TGs:=λvs σ H Q=>vs=[]/\Q σ H
def Lz(t:TG)(u:TGs):TGs:=λvs σ H Q=>∃v r,vs=v::r/\t v σ H λσ' H'=>u r σ' H' Q
def Rl:PGs X [] Ox:=by
 intro pins s σ H vs us Q I r h;obtain⟨e,h⟩:=h;subst e;cases r;exact assignInOrder_nil ⟨σ,H,I,h⟩
def OV{e:Expr}{es:List Expr}{t:TG}{u:TGs}(h1:PG X e t)(h2:PGs X es u)
 (hs:(assignEach (e::es) X.env).map (·.2)=assign e X.env::(assignEach es X.env).map (·.2):=by rfl):PGs X (e::es) (Lz t u):=by
 intro pins s σ H vs us Q I r h;obtain⟨v,vr,e1,h⟩:=h;subst e1;cases r with
 |cons r rr=>
  rw[hs];refine assignInOrder_cons (thn (h1 pins s σ H _ _ _ I r h) λ_ s1 ⟨σ1,H1,I1,q1⟩=>?_);exact h2 pins s1 σ1 H1 _ _ Q I1 rr q1
def Ly(K:PySem.W.Frag)(n:Nat)(t:TGs):TG:=λv σ H Q=>∃a xs,v=.ref a/\SqT K H a xs/\xs.length=n/\t xs σ H Q
def UR{es:List Expr}{k:Nat}{t:TGs}{n:Nat}(hc:X.calm=true)(h:PGs X es t)
 (hn:(assignEach es X.env).length=n:=by rfl) (hst:(assignEach es X.env).findIdx? (·.1)=none:=by rfl):PG X (.Tuple es k pos) (Ly X.K n t):=by
 intro pins s σ H v u Q I r hw;obtain⟨a,xs,e1,hq,hl,hw⟩:=hw;subst e1;cases r;obtain⟨its,rv,ht,hz⟩:=I.tuple hq;refine assign_Tuple_tuple (I.ok.hd hc) ht (by simp[hn,<- hl,rv.length]) hst λh' hx=>?_;have I1:Inv X pins σ H { s with heap:=h' }:=I.kept (t':=s.toks) λb o e=>hx b o (ne_of_lt (Heap.lt_size e)) e;exact h pins _ σ H xs _ Q I1 (by simpa using rv) hw
def Ov(to ti:TE)(t:K4):TG:=λv σ H Q=>to σ H λo H1=>ti σ H1 λi H2=>t o i v H2 λH3=>Q σ H3
def US{o i:Expr}{to ti:TE}{t:K4}(ho:PE X o to)(hi:PE X i ti)(hs:P8 X t)
 (ha:∀v,assign (.Subscript o i pos) X.env v=(do
  let ov <- holding [v] (eval o X.env)
  let iv <- holding [v,ov] (eval i X.env)
  standAt pos
  holding [v,ov,iv] (setItem ov iv v)
  release [v,ov,iv] []):=by intro _;rfl):PG X (.Subscript o i pos) (Ov to ti t):=by
 intro pins s σ H v u Q I r h;rw[ha];refine wpAny_bind (wpAny_holding (thn (ho pins s σ H _ I h) λov s1 ⟨x,H1,I1,r1,q1⟩=>?_));refine wpAny_bind (wpAny_holding (thn (hi pins s1 σ H1 _ I1 q1) λiv s2 ⟨y,H2,I2,r2,q2⟩=>?_));refine wpAny_bind (wpAny_standAt (wpAny_bind (wpAny_holding (thn (hs pins s2 σ H2 x y v ov iv u _ I2 r1 r2 r q2) λ_ s3 ⟨H3,I3,q3⟩=>?_))));exact wpAny_release ⟨σ,H3,I3,q3⟩
def CQ(te:TE)(g:TG):TS:=λD σ H=>te σ H λx H1=>g x σ H1 D.nx
def Mn{tg e:Expr}{te:TE}{g:TG}(he:PE X e te)(hg:PG X tg g)(hs:swapsWithSole [tg] e pos.line X.env=pure false:=by rfl)(hw:swappedStores [tg] e X.env=pure none:=by rfl)
 (h1:(assignEach [tg] X.env).map (·.2)=[assign tg X.env]:=by rfl):PS X (.Assign [tg] e pos) (CQ te g):=by
 intro pins s σ H D I h;refine wpAny_Assign_stores (thn (he pins s σ H _ I h) λv s1 ⟨x,H1,I1,r1,q1⟩=>?_) hs hw;rw[h1];exact thn (hg pins s1 σ H1 x v _ I1 r1 q1) λ_ s2 q=>q
def UM{i:Nat}{x:Str}{e:Expr}{te:TE}{pos':Pos}(hN:X.N.Nodup)(hi:X.N[i]?=some x)(hx:Loc X.env.scope x)(he:PE X e te)(hs:swapsWith e (some (.Name x pos')) pos.line X.env=pure false:=by rfl)(hf:X.fn x=true∨X.env.scope.names.lookup x=some .local:=by first|exact .inl rfl|exact .inr rfl|assumption):
 PS X (.Assign [.Name x pos'] e pos) (CQ te (C1 i)):=by
 intro pins s σ H D I h;refine wpAny_Assign_Name (thn (he pins s σ H _ I h) λv s1 ⟨y,H1,I1,r1,q1⟩=>?_) hs;exact JB I1 hN hi hx r1 (λs2 I2=>⟨_,H1,I2,q1⟩) hf
def LJ(to ti te:TE)(tget:V->V->Hp->VK->Prop)(tip:TIp)(tset:K4):TS:=λD σ H=>to σ H λo H1=>ti σ H1 λi H2=>tget o i H2 λx H3=>te σ H3 λy H4=>tip x y H4 λz H5=>tset o i z H5 λH6=>D.nx σ H6
def VQ(X:Cx)(t:V->V->Hp->VK->Prop):Prop:=
 ∀(pins:List (Addr×Obj)) (s:Shared) (σ:St) (H:Hp) (o i:V) (ov iv:Value) (Q:VK),Inv X pins σ H s->RelV o ov->RelV i iv->t o i H Q ->
   wpAny (model X.prog X.w) X.A (getItem ov iv) (EP X pins σ Q) X.xe s
def Ra{o i e:Expr}{to ti te:TE}{tget:V->V->Hp->VK->Prop}{tip:TIp}{tset:K4}{op:Operator}{tpos:Pos}(ho:PE X o to)(hi:PE X i ti)(hg:VQ X tget)(he:PE X e te)(hp:PIp X op tip)(hs:P8 X tset)
 (ha:∀ov iv new,augStore i ov iv new=(do holding [new,ov,iv] (setItem ov iv new);release [new,ov,iv] [];pure .next):=by intros;rfl):PS X (.AugAssign (.Subscript o i tpos) op e pos) (LJ to ti te tget tip tset):=by
 intro pins s σ H D I h;refine wpAny_AugAssign_SubscriptAny (thn (ho pins s σ H _ I h) λov s1 ⟨x1,H1,I1,r1,q1⟩=>?_) ha;refine thn (hi pins s1 σ H1 _ I1 q1) λiv s2 ⟨x2,H2,I2,r2,q2⟩=>?_;refine thn (hg pins s2 σ H2 x1 x2 ov iv _ I2 r1 r2 q2) λold s3 ⟨x3,H3,I3,r3,q3⟩=>?_;refine thn (he pins s3 σ H3 _ I3 q3) λv s4 ⟨x4,H4,I4,r4,q4⟩=>?_;refine thn (hp pins s4 σ H4 x3 x4 old v _ I4 r3 r4 q4) λnew s5 ⟨x5,H5,I5,r5,q5⟩=>?_;exact thn (hs pins s5 σ H5 x1 x2 x5 ov iv new _ I5 r1 r2 r5 q5) λ_ s6 ⟨H6,I6,q6⟩=>⟨σ,H6,I6,q6⟩
def ipI(f:Int->Int->Int):TIp:=λx y H Q=>∃i j,x=.int i/\y=.int j/\Q (.int (f i j)) H
def V3:PIp X .Add (ipI λi j=>i+j):=by
 intro pins s σ H x y v u Q I r1 r2 h;obtain⟨i,j,e1,e2,q⟩:=h;subst e1;subst e2;obtain⟨t,rfl⟩:=r1;obtain⟨t',rfl⟩:=r2;exact iadd_int ⟨.int _,H,I.tok _,⟨_,rfl⟩,q⟩
def V2:PIp X .Sub (ipI λi j=>i-j):=by
 intro pins s σ H x y v u Q I r1 r2 h;obtain⟨i,j,e1,e2,q⟩:=h;subst e1;subst e2;obtain⟨t,rfl⟩:=r1;obtain⟨t',rfl⟩:=r2;exact isub_int ⟨.int _,H,I.tok _,⟨_,rfl⟩,q⟩
end
section
variable{X:Cx}{pos:Pos}
def J8(c:TT)(tb:TS):TS:=λD σ H=>∃W:Nat->St->Hp->Prop,(∃m,W m σ H)/\∀m σ H,W m σ H ->
 c σ H λb H1=>if b=true then ∃N:St->Hp->Prop,(∀σ' H',N σ' H'->∃m',m'<m/\W m' σ' H')/\tb { D with nx:=N,ct:=N,bk:=D.nx } σ H1 else D.nx σ H1
def OP{c:Expr}{body:List Stmt}{tc:TT}{tb:TS}(hp:PassesOwn (model X.prog X.w) X.A X.env X.xe)(hc:PT X c tc)(hb:PSs X body tb):PS X (.While c body [] pos) (J8 tc tb):=by
 intro pins s σ H D I h;obtain⟨W,⟨m0,w0⟩,turn⟩:=h;refine wpAny_While (codeAny_whileLoop (λn s'=>∃σ' H',Inv X pins σ' H' s'/\W n σ' H') ?_ m0 ⟨σ,H,I,w0⟩);rintro n s1 ⟨σ1,H1,I1,w1⟩;refine wpAny_passesOwn hp (thn (hc pins s1 σ1 H1 _ I1 (turn n σ1 H1 w1)) λb s2 ⟨H2,I2,q2⟩=>?_);cases b with
 |true=>
  obtain⟨N,hN,q2⟩:=q2;rw[if_pos rfl];refine wpAny_passesOwn hp (thn (hb pins s2 σ1 H2 _ I2 q2) λf s3 q3=>?_);cases f with
  |next=>
   obtain⟨σ3,H3,I3,n3⟩:=q3;obtain⟨m',hm,w3⟩:=hN σ3 H3 n3;exact⟨m',hm,σ3,H3,I3,w3⟩
  |cont=>
   obtain⟨σ3,H3,I3,n3⟩:=q3;obtain⟨m',hm,w3⟩:=hN σ3 H3 n3;exact⟨m',hm,σ3,H3,I3,w3⟩
  |brk=>exact q3
  |ret v=>exact q3
 |false=>
  rw[if_neg Bool.false_ne_true];exact wpAny_execs_nil ⟨σ1,H2,I2,q2⟩
end
structure It where
 go:Nat->Hp->Prop
 yld:Nat->Hp->V->Hp->Prop
 stop:Nat->Hp->Prop
def FpOk(X:Cx)(pins:List (Addr×Obj))(H:Hp)(b:Addr):Prop:=
 H b=none/\b≠X.env.locals/\b∉X.fs/\(b∈X.ex∨X.s₀.heap.objs.size<=b)/\(∀x c,X.env.cells.lookup x=some c->c≠b)/\∀p∈X.pn++pins,p.1≠b
def Inv.fpOk{X:Cx}{pins:List (Addr×Obj)}{σ:St}{H H':Hp}{s:Shared}{b:Addr}(I:Inv X pins σ H s)(hb:s.heap.objs.size<=b)(hn:H' b=none):FpOk X pins H' b:=by
 refine⟨hn,ne_of_gt (lt_of_lt_of_le I.lt hb),I.nofs hb,.inr (le_trans I.sz hb),λx c e z=>?_,λp hp z=>?_⟩
 .obtain⟨v,q⟩:=I.cell x c e;exact absurd (lt_of_lt_of_le q.lt (by rw[z];exact hb)) (lt_irrefl _)
 .exact absurd (lt_of_lt_of_le (Heap.lt_size (I.pin p hp).1) (by rw[z];exact hb)) (lt_irrefl _)
structure Turn(P:Program)(w:World)(K:PySem.W.Frag)(tg:Expr)(J:It)(fp:List Addr)(it:Addr)(tn:Nat->Heap->Prop):Prop where
 mem:it∈fp
 obj:∀i h,tn i h->∀b∈fp,∃o,h.get? b=some o/\∀v,o.data≠.cell v
 keep:∀i h h',tn i h->(∀b∈fp,∀o,h.get? b=some o->h'.get? b=some o)->tn i h'
 item:∀(X:Cx),X.prog=P->X.w=w->X.K=K->X.calm=true->∀(i:Nat) (pins:List (Addr×Obj)) (s:Shared) (σ:St) (H:Hp) (E:Value->Shared->Prop),Inv X pins σ H s->(∀b∈fp,FpOk X pins H b)->tn i s.heap->J.go i H ->
  wpAny (model P w) X.A (pyNext (.ref it)) (λr s1=>∃u,r=some u /\
   wpAny (model P w) X.A (letOwnedTupleGo tg (.ref it) u) (λ_ s2=>∃x H',Inv X pins σ H' s2/\RelV x u/\J.yld i H x H'/\tn (i+1) s2.heap/\∀b∈fp,H' b=none) E s1) E s
 done:∀(X:Cx),X.prog=P->X.w=w->X.K=K->X.calm=true->∀(i:Nat) (pins:List (Addr×Obj)) (s:Shared) (σ:St) (H:Hp) (E:Value->Shared->Prop),Inv X pins σ H s->(∀b∈fp,FpOk X pins H b)->tn i s.heap->J.stop i H ->
  wpAny (model P w) X.A (pyNext (.ref it)) (λr s1=>r=none/\Inv X pins σ H s1) E s
 self:∀(A:Around) (i:Nat) (s:Shared) (Q:Value->Shared->Prop) (E:Value->Shared->Prop),tn i s.heap->Q (.ref it) s->wpAny (model P w) A (pyIter (.ref it)) Q E s
abbrev TI:=St->Hp->(It->Hp->Prop)->Prop
def PIE(X:Cx)(pins:List (Addr×Obj))(σ:St)(tg:Expr)(R:It->Hp->Prop)(itv:Value)(s2:Shared):Prop:=
 ∃(it:Addr) (fp:List Addr) (tn:Nat->Heap->Prop) (J:It) (H':Hp),itv=.ref it/\Inv X pins σ H' s2/\Turn X.prog X.w X.K tg J fp it tn/\tn 0 s2.heap/\(∀b∈fp,FpOk X pins H' b)/\R J H'
def PI(X:Cx)(tg iter:Expr)(wi:TI):Prop:=
 ∀(pins:List (Addr×Obj)) (s:Shared) (σ:St) (H:Hp) (R:It->Hp->Prop),Inv X pins σ H s->wi σ H R ->
   wpAny (model X.prog X.w) X.A (eval iter X.env) (λv s1=>wpAny (model X.prog X.w) X.A (pyIter v) (PIE X pins σ tg R) X.xe s1) X.xe s
def Lx{M:Model}{A:Around}{E:Value->Shared->Prop}{s:Shared}{tg:Expr}{it:Addr}{u:Value}{o:Obj}{n:String}{vs:Array Value}{Q:Unit->Shared->Prop}(ho:s.heap.get? it=some o)(hc:o.cls=.type n)(hd:o.data=.fields vs)
 (hn:["enumerate","zip","dict_itemiterator","dict_reverseitemiterator","odict_iterator","itertools.zip_longest","itertools.pairwise"].contains n=false) (hQ:Q () s):wpAny M A (letOwnedTupleGo tg (.ref it) u) Q E s:=by
 unfold letOwnedTupleGo;cases tg<;>first
  |exact wpAny_pure hQ
  | (cases u<;>first
   |exact wpAny_pure hQ
   | (refine wpAny_bind (wpAny_load ho ?_)
      rw[hc,hd];show wpAny M A (if(["enumerate","zip","dict_itemiterator","dict_reverseitemiterator","odict_iterator","itertools.zip_longest","itertools.pairwise"].contains n&&vs[0]?==some (rawInt _))=true then _ else _) Q E s;rw[if_neg (by intro h;rw[hn,Bool.false_and]at h;cases h)];exact wpAny_pure hQ))
def Itl(K:PySem.W.Frag)(a:Addr):It:=
 ⟨λi H=>∃xs x,SqL K H a xs/\xs[i]?=some x,λi H x H'=>H'=H/\∀xs,SqL K H a xs->xs[i]?=some x,λi H=>∃xs,SqL K H a xs/\xs.length<=i⟩
def Itt(K:PySem.W.Frag)(a:Addr):It:=
 ⟨λi H=>∃xs x,SqT K H a xs/\xs[i]?=some x,λi H x H'=>H'=H/\∀xs,SqT K H a xs->xs[i]?=some x,λi H=>∃xs,SqT K H a xs/\xs.length<=i⟩
def Itr(lo:Int)(n:Nat):It:=⟨λi _=>i<n,λi H x H'=>H'=H/\x=.int (lo+i),λi _=>n<=i⟩
def MR{P:Program}{w:World}{K:PySem.W.Frag}{tg:Expr}(a it:Addr):Turn P w K tg (Itl K a) [it] it (λi h=>h.IsListIter it a i) where
 mem:=by simp
 obj:=λi h st b hb=>by
  have e:b=it:=by simpa using hb
  subst e;obtain⟨o,e,c,d⟩:=st;exact⟨o,e,λv z=>by rw[d]at z;cases z⟩
 keep:=λi h h' st k=>st.at λo e=>k it (by simp) o e
 item:=by
  intro X hP hw hK hc i pins s σ H E I hf st hg;subst hP hw hK;obtain⟨xs,x,hq,hx⟩:=hg;obtain⟨its,rv,p,hz⟩:=I.list hq;obtain⟨u,hu,ru⟩:=rv.get hx;obtain⟨f0,f1,f2,f3,f4,f5⟩:=hf it (by simp);refine wpAny_pyNext_list_item st p.isList (x:=u) (by simpa using hu) λh' st' sb=>?_;have I1:Inv X pins σ H { s with heap:=h' }:=I.turned (t':=s.toks) (λb o hb e=>(sb.2 b hb).trans e) f0 f1 f3 f4 f5;obtain⟨o,e,c,d⟩:=id st';exact⟨u,rfl,Lx (s:={ s with heap:=h' }) e c d (by decide) ⟨x,H,I1,ru,⟨rfl,λys hy=>by rw[I.list_inj hy hq];exact hx⟩,st',λb hb=>(hf b hb).1⟩⟩
 done:=by
  intro X hP hw hK hc i pins s σ H E I hf st hg;subst hP hw hK;obtain⟨xs,hq,hx⟩:=hg;obtain⟨its,rv,p,hz⟩:=I.list hq;obtain⟨f0,f1,f2,f3,f4,f5⟩:=hf it (by simp);have hl:=rv.length;exact wpAny_pyNext_list_end (I.ok.hd hc) st p.isList (by simp;omega) λh' eb=>⟨rfl,I.turned (t':=s.toks) (λb o hb e=>eb b o hb e) f0 f1 f3 f4 f5⟩
 self:=λ_ _ _ _ _ st h=>wpAny_pyIter_listiter st h
def Kz{P:Program}{w:World}{K:PySem.W.Frag}{tg:Expr}(a it:Addr):Turn P w K tg (Itt K a) [it] it (λi h=>h.IsTupleIter it a i) where
 mem:=by simp
 obj:=λi h st b hb=>by
  have e:b=it:=by simpa using hb
  subst e;obtain⟨o,e,c,d⟩:=st;exact⟨o,e,λv z=>by rw[d]at z;cases z⟩
 keep:=λi h h' st k=>st.at λo e=>k it (by simp) o e
 item:=by
  intro X hP hw hK hc i pins s σ H E I hf st hg;subst hP hw hK;obtain⟨xs,x,hq,hx⟩:=hg;obtain⟨its,rv,p,hz⟩:=I.tuple hq;obtain⟨u,hu,ru⟩:=rv.get hx;obtain⟨f0,f1,f2,f3,f4,f5⟩:=hf it (by simp);refine wpAny_pyNext_tuple_item st (show s.heap.IsTuple a its.toArray from p) (x:=u) (by simpa using hu) λh' st' sb=>?_;have I1:Inv X pins σ H { s with heap:=h' }:=I.turned (t':=s.toks) (λb o hb e=>(sb.2 b hb).trans e) f0 f1 f3 f4 f5;obtain⟨o,e,c,d⟩:=id st';exact⟨u,rfl,Lx (s:={ s with heap:=h' }) e c d (by decide) ⟨x,H,I1,ru,⟨rfl,λys hy=>by rw[I.tuple_inj hy hq];exact hx⟩,st',λb hb=>(hf b hb).1⟩⟩
 done:=by
  intro X hP hw hK hc i pins s σ H E I hf st hg;subst hP hw hK;obtain⟨xs,hq,hx⟩:=hg;obtain⟨its,rv,p,hz⟩:=I.tuple hq;obtain⟨f0,f1,f2,f3,f4,f5⟩:=hf it (by simp);have hl:=rv.length;exact wpAny_pyNext_tuple_end (I.ok.hd hc) st (show s.heap.IsTuple a its.toArray from p) (by simp;omega) λh' eb=>⟨rfl,I.turned (t':=s.toks) (λb o hb e=>eb b o hb e) f0 f1 f3 f4 f5⟩
 self:=λ_ _ _ _ _ st h=>wpAny_pyIter_tupleiter st h
def L0{P:Program}{w:World}{K:PySem.W.Frag}{tg:Expr}(it:Addr)(lo:Int)(n:Nat):Turn P w K tg (Itr lo n) [it] it (λi h=>IsRangeIter h it (lo+(i:Nat)*1) ((n:Int)-(i:Nat)) 1) where
 mem:=by simp
 obj:=λi h st b hb=>by
  have e:b=it:=by simpa using hb
  subst e;exact⟨_,st,λv z=>by
   have z':Data.fields _=Data.cell v:=z;cases z'⟩
 keep:=λi h h' st k=>k it (by simp) _ st
 item:=by
  intro X hP hw hK hc i pins s σ H E I hf st hg;subst hP hw hK;obtain⟨f0,f1,f2,f3,f4,f5⟩:=hf it (by simp);have W:=Walks.range (prog:=X.prog) (w:=X.w) (I.ok.hd hc) it lo 1 n;refine W.item i s _ _ hg st λv h' tk hv st' kk=>?_;obtain⟨t,rfl⟩:=hv;have I1:Inv X pins σ H { s with heap:=h',toks:=tk }:=I.turned (λb o hb e=>kk b o (by simpa using hb) e) f0 f1 f3 f4 f5;refine⟨_,rfl,Lx (s:={ s with heap:=h',toks:=tk }) (n:="range_iterator") st' rfl rfl (by decide) ⟨.int (lo+i),H,I1,⟨t,?_⟩,⟨rfl,rfl⟩,st',λb hb=>(hf b hb).1⟩⟩;rw[Int.mul_one]
 done:=by
  intro X hP hw hK hc i pins s σ H E I hf st hg;subst hP hw hK;obtain⟨f0,f1,f2,f3,f4,f5⟩:=hf it (by simp);exact wpAny_pyNext_range_end (I.ok.hd hc) st (by have:n<=i:=hg;omega) λh' eb=>⟨rfl,I.turned (t':=s.toks) (λb o hb e=>eb b o hb e) f0 f1 f3 f4 f5⟩
 self:=λ_ _ _ _ _ st h=>wpAny_pyIter_rangeiter st h
section
variable{X:Cx}{tg:Expr}
def Fh(K:PySem.W.Frag)(tl:TE):TI:=λσ H R=>tl σ H λx H1=>∃a,x=.ref a/\(∃xs,SqL K H1 a xs)/\R (Itl K a) H1
def Lq(K:PySem.W.Frag)(tl:TE):TI:=λσ H R=>tl σ H λx H1=>∃a,x=.ref a/\(∃xs,SqT K H1 a xs)/\R (Itt K a) H1
def Rj{l:Expr}{tl:TE}(hl:PE X l tl):PI X tg l (Fh X.K tl):=by
 intro pins s σ H R I h;refine thn (hl pins s σ H _ I h) λv s1 ⟨x,H1,I1,r1,q1⟩=>?_;obtain⟨a,e,⟨xs,hq⟩,q⟩:=q1;subst e;cases r1;obtain⟨its,rv,p,hz⟩:=I1.list hq;refine wpAny_pyIter_list p.isList ?_;refine⟨s1.heap.objs.size,[s1.heap.objs.size],_,_,H1,rfl,I1.kept (t':=s1.toks) λb o e=>Heap.get?_push_of_some _ e,MR a _,⟨_,Heap.get?_push_size _ rfl,rfl,rfl⟩,λb hb=>?_,q⟩;have e:b=s1.heap.objs.size:=by simpa using hb
 subst e;exact I1.fpOk (le_refl _) (I1.hok.fresh (le_refl _))
def UQ{l:Expr}{tl:TE}(hl:PE X l tl):PI X tg l (Lq X.K tl):=by
 intro pins s σ H R I h;refine thn (hl pins s σ H _ I h) λv s1 ⟨x,H1,I1,r1,q1⟩=>?_;obtain⟨a,e,⟨xs,hq⟩,q⟩:=q1;subst e;cases r1;obtain⟨its,rv,p,hz⟩:=I1.tuple hq;refine wpAny_pyIter_tuple (show s1.heap.IsTuple a its.toArray from p) ?_;refine⟨s1.heap.objs.size,[s1.heap.objs.size],_,_,H1,rfl,I1.kept (t':=s1.toks) λb o e=>Heap.get?_push_of_some _ e,Kz a _,⟨_,Heap.get?_push_size _ rfl,rfl,rfl⟩,λb hb=>?_,q⟩;have e:b=s1.heap.objs.size:=by simpa using hb
 subst e;exact I1.fpOk (le_refl _) (I1.hok.fresh (le_refl _))
def O5{pins:List (Addr×Obj)}{σ:St}{H:Hp}{s:Shared}{R:It->Hp->Prop}{E:Value->Shared->Prop}{lo hi:Int}{t u v:Tok}{tk:Nat}(I:Inv X pins σ H s)(h1:-(2^62)<=lo)(h2:lo<2^62)(h3:-(2^62)<=hi)(h4:hi<2^62)
 (q:R (Itr lo (hi-lo).toNat) H):wpAny (model X.prog X.w) X.A (pyIter (.ref s.heap.objs.size)) (PIE X pins σ tg R) E { s with heap:=s.heap.push { cls:=.type "range",data:=.fields #[.int lo t,.int hi u,.int 1 v] },toks:=tk }:=by
 refine wpAny_pyIter_range (IsRange.new ..) (small_one h1 h2 h3 h4) ?_;have I1:Inv X pins σ H { s with heap:=s.heap.push { cls:=.type "range",data:=.fields #[.int lo t,.int hi u,.int 1 v] },toks:=tk }:=I.kept λb o e=>Heap.get?_push_of_some _ e;refine⟨(s.heap.push { cls:=.type "range",data:=.fields #[.int lo t,.int hi u,.int 1 v] }).objs.size,[(s.heap.push { cls:=.type "range",data:=.fields #[.int lo t,.int hi u,.int 1 v] }).objs.size],_,_,H,rfl,
  I1.kept (t':=tk) λb o e=>Heap.get?_push_of_some _ e,L0 _ lo (hi-lo).toNat,?_,λb hb=>?_,q⟩
 .have e1:lo+((0:Nat):Int)*1=lo:=by simp
  have e2:(((hi-lo).toNat:Nat):Int)-((0:Nat):Int)=Builtin.Range.rangeSize lo hi 1:=by rw[rangeSize_one];split<;>omega
  show IsRangeIter _ _ (lo+((0:Nat):Int)*1) ((((hi-lo).toNat:Nat):Int)-((0:Nat):Int)) 1;rw[e1,e2];exact Heap.get?_push_size _ rfl
 .have e:b=(s.heap.push { cls:=.type "range",data:=.fields #[.int lo t,.int hi u,.int 1 v] }).objs.size:=by simpa using hb
  subst e;exact I1.fpOk (le_refl _) (I1.hok.fresh (le_refl _))
def Lu(ta:TA):TI:=λσ H R=>ta σ H λvs H1=>∃j:Int,vs=[.int j]/\-(2^62)<=j/\j<2^62/\R (Itr 0 j.toNat) H1
def Mp{a:Expr}{ta:TA}{p pos:Pos}(hg:Gl X "range")(hm:X.mg "range"=none)(ha:PA X [a] ta)(hs:starEach [a] X.env=[(false,eval a X.env)]:=by rfl):PI X tg (.Call (.Name "range" p) [a] [] pos) (Lu ta):=by
 intro pins s σ H R I h;refine Call_ (DD I hg hm boot_range (PyProof.Rows.callWith_type1 (thn (ha pos pins s σ H _ I h) λus s1 ⟨vs,H1,I1,r1,q1⟩=>?_) hs rfl));obtain⟨j,e,q1,q2,q⟩:=q1;subst e;cases r1 with
 |cons r rr=>
  cases rr;obtain⟨t,rfl⟩:=r;exact call_range_1 (O5 I1 (by omega) (by omega) q1 q2 (by simpa using q))
def Nl(wi:TI)(g:TG)(tb:TS):TS:=λD σ H=>wi σ H λJ H1=>∃W:Nat->Nat->St->Hp->Prop,(∃m,W 0 m σ H1)/\∀i m σ H,W i m σ H ->
 (J.stop i H/\D.nx σ H)∨(J.go i H/\∃N:St->Hp->Prop,(∀σ' H',N σ' H'->∃m',m'<m/\W (i+1) m' σ' H')/\∀x H',J.yld i H x H'->g x σ H' λσ2 H2=>tb { D with nx:=N,ct:=N,bk:=D.nx } σ2 H2)
def D8(fp:List Addr)(h:Heap):List (Addr×Obj):=fp.filterMap λb=>(h.get? b).map λo=>(b,o)
def Au{fp:List Addr}{h:Heap}{b:Addr}{o:Obj}(hb:b∈fp)(e:h.get? b=some o):(b,o)∈D8 fp h:=List.mem_filterMap.mpr ⟨b,hb,by rw[e];rfl⟩
def Mv{fp:List Addr}{h:Heap}{p:Addr×Obj}(hp:p∈D8 fp h):p.1∈fp/\h.get? p.1=some p.2:=by
 obtain⟨b,hb,e⟩:=List.mem_filterMap.mp hp;cases q:h.get? b with
 |none=>rw[q]at e;cases e
 |some o=>
  rw[q]at e;have e':(b,o)=p:=Option.some.inj e;subst e';exact⟨hb,q⟩
def Inv.pinned{pins:List (Addr×Obj)}{σ:St}{H:Hp}{s:Shared}{fp:List Addr}(I:Inv X pins σ H s)(hf:∀b∈fp,FpOk X pins H b)(ho:∀b∈fp,∃o,s.heap.get? b=some o/\∀v,o.data≠.cell v):Inv X (pins++D8 fp s.heap) σ H s:=
 I.pins_of λp hp=>(mem_append.mp hp).elim (λz=>I.pin p (mem_append_right _ z)) λz=>by
  obtain⟨hb,e⟩:=Mv z;obtain⟨f0,f1,f2,_⟩:=hf p.1 hb;obtain⟨o,e',d⟩:=ho p.1 hb;rw[e]at e';cases e';exact⟨e,f0,f1,f2,d⟩
def Inv.unpinned{pins pl:List (Addr×Obj)}{σ:St}{H:Hp}{s:Shared}(I:Inv X (pins++pl) σ H s):Inv X pins σ H s:=I.pins_of λp hp=>I.pin p (mem_append_right _ (mem_append_left _ hp))
def UO{iter:Expr}{body:List Stmt}{wi:TI}{g:TG}{tb:TS}{pos:Pos}(hp:PassesOwn (model X.prog X.w) X.A X.env X.xe)(hc:X.calm=true)(hi:PI X tg iter wi)(hg:PG X tg g)(hb:PSs X body tb)
 (hs:∀x,foldedSetIterable iter X.env x=pure x:=by intro _;rfl):PS X (.For tg iter body [] pos) (Nl wi g tb):=by
 intro pins s σ H D I h;refine wpAny_For (thn (hi pins s σ H _ I h) λv s1 h1=>thn h1 λitv s2 h2=>?_) hs;obtain⟨it,fp,tn,J,H2,e,I2,T,st2,f2,W,⟨m0,w0⟩,turn⟩:=h2;subst e
 -- what stays true of the iterator's objects through the loop
 have stat:∀{H':Hp},(∀b∈fp,H' b=none)->∀b∈fp,FpOk X pins H' b:=λhn b hb=>⟨hn b hb,(f2 b hb).2⟩
 refine codeAny_forLoop_any (λn s'=>∃i σ' H',Inv X pins σ' H' s'/\tn i s'.heap/\(∀b∈fp,H' b=none)/\W i n σ' H') ?_ m0 ⟨0,σ,H2,I2,st2,λb hb=>(f2 b hb).1,w0⟩;rintro n s3 ⟨i,σ3,H3,I3,st3,fr3,w3⟩;rcases turn i n σ3 H3 w3 with⟨stop,qn⟩|⟨go,N,hN,step⟩
 .refine wpAny_passesOwn hp (thn (T.done X rfl rfl rfl hc i pins s3 σ3 H3 X.xe I3 (stat fr3) st3 stop) λr s4 ⟨hr,I4⟩=>?_);subst hr;exact wpAny_execs_nil ⟨σ3,H3,I4,qn⟩
 .refine wpAny_passesOwn hp (thn (T.item X rfl rfl rfl hc i pins s3 σ3 H3 X.xe I3 (stat fr3) st3 go) λr s4 ⟨u,hr,h4⟩=>?_);subst hr;refine wpAny_passesOwn hp (thn h4 λ_ s5 ⟨x,H5,I5,r5,y5,st5,fr5⟩=>?_);have I5':=I5.pinned (stat fr5) (T.obj _ _ st5);refine wpAny_passesOwn hp (thn (hg _ s5 σ3 H5 x u _ I5' r5 (step x H5 y5)) λ_ s6 ⟨σ6,H6,I6,q6⟩=>?_);refine wpAny_passesOwn hp (thn (hb _ s6 σ6 H6 _ I6 q6) λf s7 q7=>?_);have again:∀{σ7:St} {H7:Hp},Inv X (pins++D8 fp s5.heap) σ7 H7 s7->N σ7 H7->∃m,m<n/\∃i σ' H',Inv X pins σ' H' s7/\tn i s7.heap/\(∀b∈fp,H' b=none)/\W i m σ' H':=λ{σ7 H7} I7 n7=>by
   obtain⟨m',hm,w7⟩:=hN σ7 H7 n7;refine⟨m',hm,i+1,σ7,H7,I7.unpinned,T.keep _ _ _ st5 λb hb o e=>(I7.pin (b,o) (mem_append_right _ (mem_append_right _ (Au hb e)))).1,λb hb=>?_,w7⟩;obtain⟨o,e,d⟩:=T.obj _ _ st5 b hb;exact(I7.pin (b,o) (mem_append_right _ (mem_append_right _ (Au hb e)))).2.1
  cases f with
  |next=>obtain⟨σ7,H7,I7,n7⟩:=q7;exact again I7 n7
  |cont=>obtain⟨σ7,H7,I7,n7⟩:=q7;exact again I7 n7
  |brk=>obtain⟨σ7,H7,I7,q7⟩:=q7;exact⟨σ7,H7,I7.unpinned,q7⟩
  |ret v=>obtain⟨x7,σ7,H7,I7,r7,q7⟩:=q7;exact⟨x7,σ7,H7,I7.unpinned,r7,q7⟩
end
abbrev R2:=V->V->Hp->VK->Prop
def OpR(X:Cx)(f:Value->Value->Sem Value)(r:R2):Prop:=
 ∀(pins:List (Addr×Obj)) (s:Shared) (σ:St) (H:Hp) (x y:V) (v u:Value) (Q:VK),Inv X pins σ H s->RelV x v->RelV y u->r x y H Q ->
   wpAny (model X.prog X.w) X.A (f v u) (EP X pins σ Q) X.xe s
def UnR(X:Cx)(f:Value->Sem Value)(r:V->Hp->VK->Prop):Prop:=
 ∀(pins:List (Addr×Obj)) (s:Shared) (σ:St) (H:Hp) (x:V) (v:Value) (Q:VK),Inv X pins σ H s->RelV x v->r x H Q ->
   wpAny (model X.prog X.w) X.A (f v) (EP X pins σ Q) X.xe s
def CallR(X:Cx)(f:Value)(r:List V->Hp->VK->Prop):Prop:=
 ∀(pins:List (Addr×Obj)) (s:Shared) (σ:St) (H:Hp) (xs:List V) (us:List Value) (Q:VK),Inv X pins σ H s->Vals xs us->r xs H Q ->
   wpAny (model X.prog X.w) X.A (call f us) (EP X pins σ Q) X.xe s
def X5(X:Cx)(r:V->Hp->(Bool->Hp->Prop)->Prop):Prop:=
 ∀(pins:List (Addr×Obj)) (s:Shared) (σ:St) (H:Hp) (x:V) (v:Value) (Q:Bool->Hp->Prop),Inv X pins σ H s->RelV x v->r x H Q ->
   wpAny (model X.prog X.w) X.A (truthy v) (TP X pins σ Q) X.xe s
def tOp(r:R2)(ta tb:TE):TE:=λσ H Q=>ta σ H λx H1=>tb σ H1 λy H2=>r x y H2 Q
def tUn(r:V->Hp->VK->Prop)(ta:TE):TE:=λσ H Q=>ta σ H λx H1=>r x H1 Q
def rI(C:Int->Int->Prop)(g:Int->Int->V):R2:=λx y H Q=>∃i j,x=.int i/\y=.int j/\C i j/\Q (g i j) H
def rI0(g:Int->Int->V):R2:=λx y H Q=>∃i j,x=.int i/\y=.int j/\Q (g i j) H
def rU(g:Int->V):V->Hp->VK->Prop:=λx H Q=>∃i,x=.int i/\Q (g i) H
section
variable{X:Cx}{a b c:Expr}{ta tb tc:TE}{pos:Pos}
def P6(ha:PE X a ta)(hb:PE X b tb){pins:List (Addr×Obj)}{s:Shared}{σ:St}{H:Hp}{R:V->V->Hp->Prop}(I:Inv X pins σ H s)
 (h:ta σ H λx H1=>tb σ H1 λy H2=>R x y H2) {Q:Value->Shared->Prop} {f:Value->Value->Sem Value}
 (hf:∀v u s2 x y H2,Inv X pins σ H2 s2->RelV x v->RelV y u->R x y H2->wpAny (model X.prog X.w) X.A (f v u) Q X.xe s2):
 wpAny (model X.prog X.w) X.A (eval a X.env) (λv s₁=>wpAny (model X.prog X.w) X.A (eval b X.env) (λu s₂=>wpAny (model X.prog X.w) X.A (f v u) Q X.xe s₂) X.xe s₁) X.xe s:=by
 refine thn (ha pins s σ H _ I h) λv s1 ⟨x,H1,I1,r1,q1⟩=>?_;refine thn (hb pins s1 σ H1 _ I1 q1) λu s2 ⟨y,H2,I2,r2,q2⟩=>?_;exact hf v u s2 x y H2 I2 r1 r2 q2
def Lc{op:Operator}{r:R2}(ho:OpR X (binaryOp op) r)(ha:PE X a ta)(hb:PE X b tb):PE X (.BinOp a op b pos) (tOp r ta tb):=by
 intro pins s σ H Q I h;exact wpAny_BinOp (P6 ha hb I h λv u s2 x y H2 I2 rx ry q=>ho pins s2 σ H2 x y v u Q I2 rx ry q)
def Vq{op:UnaryOp}{r:V->Hp->VK->Prop}(ho:UnR X (unaryOp op) r)(ha:PE X a ta):PE X (.UnaryOp op a pos) (tUn r ta):=by
 intro pins s σ H Q I h;exact UnaryOp_ (thn (ha pins s σ H _ I h) λv s1 ⟨x,H1,I1,r1,q1⟩=>ho pins s1 σ H1 x v Q I1 r1 q1)
def opI{f:Value->Value->Sem Value}{C:Int->Int->Prop}{g:Int->Int->Int}
 (rule:∀(i j:Int) (t u:Tok) (s:Shared) (Q:Value->Shared->Prop) (E:Value->Shared->Prop),C i j->Q (.int (g i j) s.toks) { s with toks:=s.toks+1 }->wpAny (model X.prog X.w) X.A (f (.int i t) (.int j u)) Q E s):
 OpR X f (rI C λi j=>.int (g i j)):=by
 intro pins s σ H x y v u Q I rx ry h;obtain⟨i,j,rfl,rfl,hc,q⟩:=h;obtain⟨t,rfl⟩:=rx;obtain⟨t',rfl⟩:=ry;exact rule i j t t' s _ _ hc ⟨.int (g i j),H,I.tok _,⟨_,rfl⟩,q⟩
def Up{f:Value->Value->Sem Value}{g:Int->Int->Int}
 (rule:∀(i j:Int) (t u:Tok) (s:Shared) (Q:Value->Shared->Prop) (E:Value->Shared->Prop),Q (.int (g i j) s.toks) { s with toks:=s.toks+1 }->wpAny (model X.prog X.w) X.A (f (.int i t) (.int j u)) Q E s):
 OpR X f (rI0 λi j=>.int (g i j)):=by
 intro pins s σ H x y v u Q I rx ry h;obtain⟨i,j,rfl,rfl,q⟩:=h;obtain⟨t,rfl⟩:=rx;obtain⟨t',rfl⟩:=ry;exact rule i j t t' s _ _ ⟨.int (g i j),H,I.tok _,⟨_,rfl⟩,q⟩
def Lg{f:Value->Value->Sem Value}{g:Int->Int->Bool}
 (rule:∀(i j:Int) (t u:Tok) (s:Shared) (Q:Value->Shared->Prop) (E:Value->Shared->Prop),Q (.bool (g i j)) s->wpAny (model X.prog X.w) X.A (f (.int i t) (.int j u)) Q E s):
 OpR X f (rI0 λi j=>.bl (g i j)):=by
 intro pins s σ H x y v u Q I rx ry h;obtain⟨i,j,rfl,rfl,q⟩:=h;obtain⟨t,rfl⟩:=rx;obtain⟨t',rfl⟩:=ry;exact rule i j t t' s _ _ ⟨.bl (g i j),H,I,rfl,q⟩
def VT(i j:Int):Prop:=0<j/\j<1073741824
def VS(i j:Int):Prop:=0<=j/\j<=1000000/\i.natAbs<2^64
def CMul(i j:Int):Prop:=(-(2^64)<i/\i<2^64)∨(-(2^64)<j/\j<2^64)
def CMul.ok{i j:Int}(h:CMul i j):IntMulOk i j:=by
 rcases h with⟨h1,h2⟩|⟨h1,h2⟩
 .exact .of_left (intBits_le_64 h1 h2)
 .exact .of_right (intBits_le_64 h1 h2)
def Uo:OpR X (binaryOp .Add) (rI0 λi j=>.int (i+j)):=Up λ_ _ _ _ _ _ _ q=>add_int q
def Ud:OpR X (binaryOp .Sub) (rI0 λi j=>.int (i-j)):=Up λ_ _ _ _ _ _ _ q=>sub_int q
def Ui:OpR X (binaryOp .Mult) (rI CMul λi j=>.int (i*j)):=opI λ_ _ _ _ _ _ _ hc q=>mul_int q hc.ok
def Rv:OpR X (binaryOp .FloorDiv) (rI VT λi j=>.int (i/j)):=opI λi j _ _ _ _ _ hc q=>by
 have h1:(0:Int)<j:=hc.1;have h2:j<1073741824:=hc.2;exact floordiv_int (by omega) (by rw[Int.fdiv_eq_ediv_of_nonneg i (by omega)];exact q) (.inl (PyProof.noPylong_small (by omega)))
def Uj:OpR X (binaryOp .Mod) (rI (λ_ j=>0<j) λi j=>.int (i%j)):=opI λi j _ _ _ _ _ hc q=>by
 have h1:(0:Int)<j:=hc;exact mod_int' (by omega) (by rw[Int.fmod_eq_emod_of_nonneg i (by omega)];exact q)
def Uf:OpR X (binaryOp .Pow) (rI VS λi j=>.int (i^j.toNat)):=opI λ_ _ _ _ _ _ _ hc q=>pow_int_small hc.1 hc.2.1 hc.2.2 q
def unI{f:Value->Sem Value}{g:Int->Int}
 (rule:∀(i:Int) (t:Tok) (s:Shared) (Q:Value->Shared->Prop) (E:Value->Shared->Prop),Q (.int (g i) s.toks) { s with toks:=s.toks+1 }->wpAny (model X.prog X.w) X.A (f (.int i t)) Q E s):
 UnR X f (rU λi=>.int (g i)):=by
 intro pins s σ H x v Q I rx h;obtain⟨i,rfl,q⟩:=h;obtain⟨t,rfl⟩:=rx;exact rule i t s _ _ ⟨.int (g i),H,I.tok _,⟨_,rfl⟩,q⟩
def Sh:UnR X (unaryOp .USub) (rU λi=>.int (-i)):=unI λ_ _ _ _ _ q=>neg_int q
end
def JH:V->V->Bool
 |.non,.non=>true|.non,.int _=>true|.int _,.non=>true|.non,.bl _=>true|.bl _,.non=>true|.non,.str _=>true|.str _,.non=>true
 |.int _,.int _=>true|.bl _,.bl _=>true|.str _,.str _=>true|.byt _,.byt _=>true
 |.int _,.str _=>true|.str _,.int _=>true|.bl _,.str _=>true|.str _,.bl _=>true
 |_,_=>false
def rEq:R2:=λx y H Q=>JH x y=true/\Q (.bl (decide (x=y))) H
def rNe:R2:=λx y H Q=>JH x y=true/\Q (.bl (!decide (x=y))) H
def Ko{i j:Int}:decide (V.int i=V.int j)=(i==j):=by
 rw[Bool.eq_iff_iff];simp
def NC{i j:Bool}:decide (V.bl i=V.bl j)=(i==j):=by
 rw[Bool.eq_iff_iff];simp
def Km{i j:Str}:decide (V.str i=V.str j)=(i==j):=by
 rw[Bool.eq_iff_iff];simp
def Kp{i j:Array UInt8}:decide (V.byt i=V.byt j)=(i.toList==j.toList):=by
 rw[Bool.eq_iff_iff];cases i;cases j;simp
section
variable{X:Cx}{a b c:Expr}{ta tb tc:TE}{pos:Pos}
def AO{pins:List (Addr×Obj)}{σ:St}{H:Hp}{s:Shared}{Q:VK}{k k':Bool}(I:Inv X pins σ H s)(q:Q (.bl k) H)(e:k=k'):EP X pins σ Q (.bool k') s:=by
 subst e;exact⟨.bl k,H,I,rfl,q⟩
def Pj:OpR X (compareOp .Eq) rEq:=by
 intro pins s σ H x y v u Q I rx ry h;obtain⟨hs,q⟩:=h;cases x with
 |non=>
  cases rx;cases y with
  |non=>cases ry;exact PySem.EqNone.eq_none_none (AO I q (by simp))
  |bl j=>cases ry;exact PySem.EqNone.eq_none_bool (AO I q (by simp))
  |int j=>obtain⟨t',rfl⟩:=ry;exact PySem.EqNone.eq_none_int (AO I q (by simp))
  |str j=>obtain⟨t',rfl⟩:=ry;exact PySem.EqNone.eq_none_str (AO I q (by simp))
  |_=>exact absurd (show false=true from hs) Bool.false_ne_true
 |bl i=>
  cases rx;cases y with
  |non=>cases ry;exact PySem.EqNone.eq_bool_none (AO I q (by simp))
  |bl j=>cases ry;exact eq_bool (AO I q NC)
  |str j=>obtain⟨t',rfl⟩:=ry;exact PySem.EqMixed.eq_bool_str (AO I q (by simp))
  |_=>exact absurd (show false=true from hs) Bool.false_ne_true
 |int i=>
  obtain⟨t,rfl⟩:=rx;cases y with
  |non=>cases ry;exact PySem.EqNone.eq_int_none (AO I q (by simp))
  |int j=>obtain⟨t',rfl⟩:=ry;exact eq_int (AO I q Ko)
  |str j=>obtain⟨t',rfl⟩:=ry;exact PySem.EqMixed.eq_int_str (AO I q (by simp))
  |_=>exact absurd (show false=true from hs) Bool.false_ne_true
 |str i=>
  obtain⟨t,rfl⟩:=rx;cases y with
  |non=>cases ry;exact PySem.EqNone.eq_str_none (AO I q (by simp))
  |bl j=>cases ry;exact PySem.EqMixed.eq_str_bool (AO I q (by simp))
  |int j=>obtain⟨t',rfl⟩:=ry;exact PySem.EqMixed.eq_str_int (AO I q (by simp))
  |str j=>obtain⟨t',rfl⟩:=ry;exact eq_str (AO I q Km)
  |_=>exact absurd (show false=true from hs) Bool.false_ne_true
 |byt i=>
  obtain⟨t,rfl⟩:=rx;cases y with
  |byt j=>obtain⟨t',rfl⟩:=ry;exact PySem.W.eq_bytes (AO I q Kp)
  |_=>exact absurd (show false=true from hs) Bool.false_ne_true
 |_=>cases y<;>exact absurd (show false=true from hs) Bool.false_ne_true
def Pe:OpR X (compareOp .NotEq) rNe:=by
 intro pins s σ H x y v u Q I rx ry h;obtain⟨hs,q⟩:=h;cases x with
 |non=>
  cases rx;cases y with
  |non=>cases ry;exact PySem.EqNone.ne_none_none (AO I q (by simp))
  |bl j=>cases ry;exact PySem.EqNone.ne_none_bool (AO I q (by simp))
  |int j=>obtain⟨t',rfl⟩:=ry;exact PySem.EqNone.ne_none_int (AO I q (by simp))
  |str j=>obtain⟨t',rfl⟩:=ry;exact PySem.EqNone.ne_none_str (AO I q (by simp))
  |_=>exact absurd (show false=true from hs) Bool.false_ne_true
 |bl i=>
  cases rx;cases y with
  |non=>cases ry;exact PySem.EqNone.ne_bool_none (AO I q (by simp))
  |bl j=>cases ry;exact ne_bool (AO I q (congrArg not NC))
  |str j=>obtain⟨t',rfl⟩:=ry;exact PySem.EqMixed.ne_bool_str (AO I q (by simp))
  |_=>exact absurd (show false=true from hs) Bool.false_ne_true
 |int i=>
  obtain⟨t,rfl⟩:=rx;cases y with
  |non=>cases ry;exact PySem.EqNone.ne_int_none (AO I q (by simp))
  |int j=>obtain⟨t',rfl⟩:=ry;exact ne_int (AO I q (congrArg not Ko))
  |str j=>obtain⟨t',rfl⟩:=ry;exact PySem.EqMixed.ne_int_str (AO I q (by simp))
  |_=>exact absurd (show false=true from hs) Bool.false_ne_true
 |str i=>
  obtain⟨t,rfl⟩:=rx;cases y with
  |non=>cases ry;exact PySem.EqNone.ne_str_none (AO I q (by simp))
  |bl j=>cases ry;exact PySem.EqMixed.ne_str_bool (AO I q (by simp))
  |int j=>obtain⟨t',rfl⟩:=ry;exact PySem.EqMixed.ne_str_int (AO I q (by simp))
  |str j=>obtain⟨t',rfl⟩:=ry;exact ne_str (AO I q (congrArg not Km))
  |_=>exact absurd (show false=true from hs) Bool.false_ne_true
 |byt i=>
  obtain⟨t,rfl⟩:=rx;cases y with
  |byt j=>obtain⟨t',rfl⟩:=ry;exact PySem.W.ne_bytes (AO I q (congrArg not Kp))
  |_=>exact absurd (show false=true from hs) Bool.false_ne_true
 |_=>cases y<;>exact absurd (show false=true from hs) Bool.false_ne_true
def Pf:OpR X (compareOp .Lt) (rI0 λi j=>.bl (decide (i<j))):=Lg λ_ _ _ _ _ _ _ q=>lt_int q
def Ph:OpR X (compareOp .LtE) (rI0 λi j=>.bl (decide (i<=j))):=Lg λ_ _ _ _ _ _ _ q=>le_int q
def Vu:OpR X (compareOp .Gt) (rI0 λi j=>.bl (decide (j<i))):=Lg λ_ _ _ _ _ _ _ q=>gt_int q
def Pi:OpR X (compareOp .GtE) (rI0 λi j=>.bl (decide (j<=i))):=Lg λ_ _ _ _ _ _ _ q=>ge_int q
def OpR.or{f:Value->Value->Sem Value}{r r':R2}(h:OpR X f r)(h':OpR X f r'):OpR X f (λx y H Q=>r x y H Q∨r' x y H Q):=by
 intro pins s σ H x y v u Q I rx ry q;rcases q with q|q
 .exact h pins s σ H x y v u Q I rx ry q
 .exact h' pins s σ H x y v u Q I rx ry q
def Gg(b:Expr){op:CmpOp}(h:op≠.In:=by decide)(h2:op≠.NotIn:=by decide):behindInMarks op b=false:=by
 have e1:(op==CmpOp.In)=false:=by cases op<;>first|rfl|exact absurd rfl h
 have e2:(op==CmpOp.NotIn)=false:=by cases op<;>first|rfl|exact absurd rfl h2
 cases b<;>simp[behindInMarks,e1,e2]
def Kd{op:CmpOp}{r:R2}(ho:OpR X (compareOp op) r)(ha:PE X a ta)(hb:PE X b tb)(hm:behindInMarks op b=false):PE X (.Compare a [op] [b] pos) (tOp r ta tb):=by
 intro pins s σ H Q I h;exact wpAny_Compare1 (P6 ha hb I h λv u s2 x y H2 I2 rx ry q=>ho pins s2 σ H2 x y v u Q I2 rx ry q) hm
def Ic(t:TE):TT:=λσ H Q=>t σ H λx H'=>∃k,x=.bl k/\Q k H'
def Kc{op:CmpOp}{r:R2}(ho:OpR X (compareOp op) r)(ha:PE X a ta)(hb:PE X b tb)(hm:behindInMarks op b=false):PT X (.Compare a [op] [b] pos) (Ic (tOp r ta tb)):=by
 intro pins s σ H Q I h;refine wpAny_isTrue_Compare1 (thn (ha pins s σ H _ I h) λv s1 ⟨x,H1,I1,r1,q1⟩=>thn (hb pins s1 σ H1 _ I1 q1) λu s2 ⟨y,H2,I2,r2,q2⟩=>
  thn (ho pins s2 σ H2 x y v u _ I2 r1 r2 q2) λc s3 ⟨z,H3,I3,r3,k,e,q3⟩=>?_) hm
 subst e;cases r3;exact wpAny_truthy_bool ⟨H3,I3,q3⟩
def K3(K:PySem.W.Frag)(x:V)(H:Hp)(k:Bool):Prop:=
 match x with
 |.non=>k=false
 |.bl b=>k=b
 |.int i=>k=(i != 0)
 |.str y=>y.length<=sizeLine/\k=((y.length:Int) != 0)
 |.byt y=>y.size<=sizeLine/\k=((y.size:Int) != 0)
 |.ref p=>(∃xs,SqL K H p xs/\k=!xs.isEmpty)∨(∃xs,SqT K H p xs/\k=!xs.isEmpty)∨∃kvs,H p=some (.dK kvs)/\k=!kvs.isEmpty
 |_=>False
def Ln{κ:Type}{kvs:List (κ×V)}{vs:List (κ×Value)}(r:KV kvs vs):(!vs.isEmpty)=!kvs.isEmpty:=by
 cases r<;>rfl
def Gm{xs:List V}{its:List Value}(r:Vals xs its):(!its.toArray.isEmpty)=!xs.isEmpty:=by
 cases r<;>simp
def EN:(sizeLine:Nat)<2^63:=by rw[sizeLine_eq];decide
def Sl:X5 X (λx H Q=>∃k,K3 X.K x H k/\Q k H):=by
 intro pins s σ H x v Q I rx h;obtain⟨k,e,q⟩:=h;have hl:=EN;have hs:sizeLine=16777216:=sizeLine_eq;cases x with
 |non=>
  cases rx;have e':k=false:=e;subst e';exact truthy_none ⟨H,I,q⟩
 |bl b=>
  cases rx;have e':k=b:=e;subst e';exact wpAny_truthy_bool ⟨H,I,q⟩
 |int i=>
  obtain⟨t,rfl⟩:=rx;have e':k=(i != 0):=e;subst e';exact PySem.P.truthy_int ⟨H,I,q⟩
 |str y=>
  obtain⟨t,rfl⟩:=rx;obtain⟨hy,e'⟩:y.length<=sizeLine/\k=((y.length:Int) != 0):=e;subst e';exact PySem.P.truthy_str (by omega) ⟨H,I.tok _,q⟩
 |byt y=>
  obtain⟨t,rfl⟩:=rx;obtain⟨hy,e'⟩:y.size<=sizeLine/\k=((y.size:Int) != 0):=e;subst e';exact PySem.W.truthy_bytes (by omega) ⟨H,I.tok _,q⟩
 |ref p=>
  cases rx;have e':(∃xs,SqL X.K H p xs/\k=!xs.isEmpty)∨(∃xs,SqT X.K H p xs/\k=!xs.isEmpty)∨∃kvs,H p=some (.dK kvs)/\k=!kvs.isEmpty:=e;rcases e' with⟨xs,hx,e'⟩|⟨xs,hx,e'⟩|⟨kvs,hx,e'⟩
  .subst e';obtain⟨its,r,pl,hz⟩:=I.list hx;have hlen:=r.length;exact wpAny_truthy_list pl.isList (by simp only[size_toArray];omega) ⟨H,I.tok _,by rw[Gm r];exact q⟩
  .subst e';obtain⟨its,r,pl,hz⟩:=I.tuple hx;have hlen:=r.length;exact truthy_tuple pl (by simp only[size_toArray];omega) ⟨H,I.tok _,by rw[Gm r];exact q⟩
  .subst e';obtain⟨hz,hS,vs,r,m⟩:kvs.length<=sizeLine/\(p==sysModules)=false/\∃vs,KV kvs vs/\s.heap.DictOf (An X.prog X.w) p vs:=I.hok p _ hx;have hlen:kvs.length=vs.length:=Paired.length r;exact wpAny_truthy_dict hS m (by omega) ⟨H,I.tok _,by rw[Ln r];exact q⟩
 |_=>exact(show False from e).elim
def ON(ha:PE X a ta)(he:∀whole,isTrue a X.env whole=(do let v <- whole;standAt a.pos;holding [v] (truthy v))):
 PT X a (λσ H Q=>ta σ H λx H'=>∃k,K3 X.K x H' k/\Q k H'):=by
 intro pins s σ H Q I h;exact isTrue_plain (thn (ha pins s σ H _ I h) λv s1 ⟨x,H1,I1,r1,q1⟩=>Sl pins s1 σ H1 x v Q I1 r1 q1) (he _)
def CG{x:V}{us:List Value}(r:Vals [x] us):∃u,us=[u]/\RelV x u:=by
 cases r with
 |cons r1 r2=>cases r2;exact⟨_,rfl,r1⟩
def PD{x y:V}{us:List Value}(r:Vals [x,y] us):∃u w',us=[u,w']/\RelV x u/\RelV y w':=by
 cases r with
 |cons r1 r2=>
  cases r2 with
  |cons r3 r4=>cases r4;exact⟨_,_,rfl,r1,r3⟩
def NG(hc:X.calm=true):CallR X (.builtin "max") (λxs H Q=>∃i j,xs=[.int i,.int j]/\Q (.int (if j>i then j else i)) H):=by
 intro pins s σ H xs us Q I r h;obtain⟨i,j,rfl,q⟩:=h;obtain⟨u,w',rfl,⟨t,rfl⟩,⟨t',rfl⟩⟩:=PD r;refine max_two_ints (I.ok.hd hc) λh' tk k=>⟨_,H,I.kept k,?_,q⟩
 by_cases hj:j>i
 .rw[if_pos hj,if_pos hj];exact⟨_,rfl⟩
 .rw[if_neg hj,if_neg hj];exact⟨_,rfl⟩
end
def RelO.some_of{v:V}{o:Option Value}(r:RelO (some v) o):∃u,o=some u/\RelV v u:=by
 cases o with
 |none=>exact(show False from r).elim
 |some u=>exact⟨u,rfl,r⟩
structure Room(k:Nat)(A:Around):Prop where
 hd:A.handled=none
 dp:A.depth+3*k+5<recursionLimit
 un:A.units+16*k+200<cLine
 gd:A.guards=some []
def Room.mono{j k:Nat}{A:Around}(r:Room k A)(h:j<=k):Room j A:=⟨r.hd,by have:=r.dp;omega,by have:=r.un;omega,r.gd⟩
theorem Room.deeper{k:Nat}{A:Around}(r:Room (k+1) A)(env:Env):Room k (A.deeper env):=
 ⟨r.hd,by have:=r.dp;show A.depth+1+3*k+5<_;omega,by have:=r.un;show A.units+3+16*k+200<_;omega,by first|exact r.gd|(simpa [Around.deeper,Around.under,Code.guards,Code.isGuard,pushGuards]using r.gd)⟩
theorem Room.in1{k:Nat}{A:Around}(r:Room (k+1) A):Room k A.in1:=
 ⟨r.hd,by have:=r.dp;show A.depth+3*k+5<_;omega,by have:=r.un;show A.units+1+16*k+200<_;omega,r.gd⟩
theorem Room.depth{k:Nat}{A:Around}(r:Room k A):A.depth<recursionLimit:=by have:=r.dp;omega
theorem Room.units{k:Nat}{A:Around}(r:Room k A):A.units+64<cLine:=by have:=r.un;omega
def Room.units0{k:Nat}{A:Around}(r:Room k A):A.units<cLine:=by have:=r.un;omega
def C6:TA:=λ_ H Q=>Q [] H
def BF(ta:TE)(tr:TA):TA:=λσ H Q=>ta σ H λx H1=>tr σ H1 λxs H2=>Q (x::xs) H2
section
variable{X:Cx}{e:Expr}{es:List Expr}{te:TE}{t:TA}{pos:Pos}
def D9:PA X [] C6:=λ_ _ _ _ H Q I h=>Calls.spliced_nil ⟨[],H,I,.nil,h⟩
def C0(ha:PE X e te)(hr:PA X es t)(hs:starEach (e::es) X.env=(false,eval e X.env)::starEach es X.env:=by rfl):PA X (e::es) (BF te t):=by
 intro pos pins s σ H Q I h;rw[hs];show wpAny _ _ (spliced ((false,eval e X.env)::backTo pos (starEach es X.env))) _ _ s;refine Calls.spliced_cons (thn (ha pins s σ H _ I h) λu s1 ⟨x,H1,I1,r1,q1⟩=>?_);exact thn (hr pos pins s1 σ H1 _ I1 q1) λus s2 ⟨xs,H2,I2,r2,q2⟩=>⟨x::xs,H2,I2,.cons r1 r2,q2⟩
def Nc(t:TA):TE:=λσ H Q=>t σ H λxs H1=>xs.length<=sizeLine/\∀p,H1 p=none->Q (.ref p) (upd H1 p (.tup xs))
def Nh(t:TA):TE:=λσ H Q=>t σ H λxs H1=>xs.length<=sizeLine/\∀p,H1 p=none->Q (.ref p) (upd H1 p (.lst xs))
def UV{x1}(h:PA X es t):PE X (.Tuple es x1 pos) (Nc t):=by
 intro pins s σ H Q I hq;refine wpAny_Tuple_spliced (thn (h pos pins s σ H _ I hq) λus s1 ⟨xs,H1,I1,r,z,q⟩=>⟨by rw[<- r.length];exact z,?_⟩);have hf:H1 s1.heap.objs.size=none:=I1.hok.fresh (le_refl _);refine⟨.ref s1.heap.objs.size,upd H1 s1.heap.objs.size (.tup xs),I1.laid (t':=s1.toks) (λb u e=>Heap.get?_push_of_some _ e) (le_refl _) ?_,rfl,q _ hf⟩;exact⟨z,us,r,⟨_,Heap.get?_push_size _ rfl,rfl,⟨_,rfl⟩,rfl⟩⟩
def UZ(h:PA X es t):PE X (.List es pos) (Nh t):=by
 intro pins s σ H Q I hq;refine wpAny_List_spliced (thn (h pos pins s σ H _ I hq) λus s1 ⟨xs,H1,I1,r,z,q⟩=>⟨by rw[<- r.length];exact z,?_⟩);have hf:H1 s1.heap.objs.size=none:=I1.hok.fresh (le_refl _);refine⟨.ref s1.heap.objs.size,upd H1 s1.heap.objs.size (.lst xs),I1.laid (t':=s1.toks) (λb u e=>Heap.get?_push_of_some _ e) (le_refl _) ?_,rfl,q _ hf⟩;exact⟨z,us,0,r,Heap.get?_push_size _ rfl⟩
end
abbrev Sp:=List V->Hp->VK->XK->Prop
abbrev CXT:=List Env->Hp->Shared->XK->Value->Shared->Prop
structure Env0(P:Program)(w:World)(K:PySem.W.Frag)(mg:Str->Option Value)(base:Heap)(A:Around)(outer:List Env)(s:Shared)(H:Hp):Prop where
 frames:A.frames=some outer
 mod:Mod K mg base
 bs:∀b o,base.get? b=some o->s.heap.get? b=some o/\H b=none
 bsz:base.objs.size<=s.heap.objs.size
 funs:s.heap.FunFrames base outer
 frf:∀b∈frs outer,H b=none
 hok:HOk P w H s.heap
 bare:AllBare s.gens
def CE(outer:List Env)(P:Program)(w:World)(H:Hp)(s:Shared)(Q:VK)(u:Value)(s':Shared):Prop:=
 ∃v H',s'.os=s.os/\AllBare s'.gens/\Un (frs outer) [] H H' s.heap s'.heap/\HOk P w H' s'.heap/\RelV v u/\Q v H'
def CR(CX:CXT)(outer:List Env)(P:Program)(w:World)(H:Hp)(s:Shared)(Q:VK)(E:XK)(r:Result)(s':Shared):Prop:=
 match r with
 |.ok (.ret u)=>CE outer P w H s Q u s'
 |.ok _=>False
 |.error e=>CX outer H s E e s'
structure FnOk(P:Program)(w:World)(K:PySem.W.Frag)(mg:Str->Option Value)(base:Heap)(CX:CXT)(k:Nat)(f:Addr)(fd:FuncData)(ps:List Str)(sp:Sp):Prop where
 len:∀vs H Q E,sp vs H Q E->vs.length=ps.length
 run:∀(A:Around) (outer:List Env) (s:Shared) (H:Hp) (args:Args) (us:List Value) (vs:List V) (Q:VK) (E:XK),Room k A->Env0 P w K mg base A outer s H->BindsTo s fd args (ps.zip us)->Vals vs us->sp vs H Q E ->
  codeAny (model P w) A (.call (.ref f) args) (CR CX outer P w H s Q E) s
theorem FnOk.mono{P:Program}{w:World}{K:PySem.W.Frag}{mg:Str->Option Value}{base:Heap}{CX:CXT}{j k:Nat}{f:Addr}{fd:FuncData}{ps:List Str}{sp:Sp}(F:FnOk P w K mg base CX j f fd ps sp)(h:j<=k):
 FnOk P w K mg base CX k f fd ps sp:=⟨F.len,λA outer s H args us vs Q E hr=>F.run A outer s H args us vs Q E (hr.mono h)⟩
section
variable{X:Cx}{pins:List (Addr×Obj)}{σ:St}{H:Hp}{s s':Shared}
def Inv.env0(I:Inv X pins σ H s):Env0 X.prog X.w X.K X.mg X.base X.A X.stack s H:=
 ⟨I.ok.frames,I.ok.mod,I.bs,le_trans I.ok.bsz I.sz,I.stack,I.stkFree,I.hok,I.bare⟩
def Inv.after{Q:VK}{u:Value}(I:Inv X pins σ H s)(h:CE X.stack X.prog X.w H s Q u s'):EP X pins σ Q u s':=by
 obtain⟨v,H',os,bare,un,hok,r,q⟩:=h;obtain⟨hh,g,d,t,os'⟩:=s';obtain rfl:os'=s.os:=os;exact⟨v,H',I.call (h':=hh) (g':=g) (d':=d) (t':=t) (ch:=[]) un hok bare (λb z=>absurd z (by simp)),r,q⟩
end
def Dj(sp:Sp)(dvs:List V)(E:XK)(t:TA):TE:=λσ H Q=>t σ H λvs H1=>sp (vs++dvs) H1 Q E
def Binds(K:PySem.W.Frag)(fd:FuncData)(ps:List Str)(ds:List Value):Prop:=
 ∀(s:Shared) (us:List Value),K.In s.heap->(us++ds).length=ps.length->BindsTo s fd ⟨us,[]⟩ (ps.zip (us++ds))
def Binds.all{K:PySem.W.Frag}{fd:FuncData}{ps:List Str}(h:∀us:List Value,us.length=ps.length->bindArgs fd ⟨us,[]⟩=pure (ps.zip us)):Binds K fd ps []:=λs us _ hl=>by
 rw[append_nil]at hl ⊢;exact .of_eq (h us hl)
def K6(CX:CXT)(X:Cx)(E:XK):Prop:=∀(pins:List (Addr×Obj)) (σ:St) (H:Hp) (s:Shared) (e:Value) (s':Shared),Inv X pins σ H s->CX X.stack H s E e s'->X.xe e s'
section
variable{X:Cx}{CX:CXT}{k:Nat}{f C:Addr}{fd:FuncData}{ps:List Str}{sp:Sp}{dvs:List V}{ds:List Value}{E:XK}{x m:Str}{p pos apos:Pos}{e o:Expr}{es:List Expr}{ta:TE}{t:TA}
def Sz{pins:List (Addr×Obj)}{σ:St}{H:Hp}{s:Shared}{Q:VK}{us:List Value}{vs:List V}(F:FnOk X.prog X.w X.K X.mg X.base CX k f fd ps sp)(hr:Room k X.A)(hb:Binds X.K fd ps ds)(hd:Vals dvs ds)(hx:K6 CX X E)
 (I:Inv X pins σ H s) (r:Vals vs us) (h:sp (vs++dvs) H Q E):wpAny (model X.prog X.w) X.A (call (.ref f) us) (EP X pins σ Q) X.xe s:=by
 have r2:Vals (vs++dvs) (us++ds):=r.append hd;have hl:(us++ds).length=ps.length:=by rw[<- r2.length];exact F.len _ _ _ _ h
 refine wpAny_call (codeAny_mono (F.run X.A X.stack s H ⟨us,[]⟩ (us++ds) (vs++dvs) Q E hr I.env0 (hb s us I.kIn hl) r2 h) λr s' hq=>?_);cases r with
 |error e=>exact hx pins σ H s e s' I hq
 |ok fl=>
  cases fl with
  |ret u=>exact I.after hq
  |next=>exact False.elim hq
  |brk=>exact False.elim hq
  |cont=>exact False.elim hq
def Rt(F:FnOk X.prog X.w X.K X.mg X.base CX k f fd ps sp)(hr:Room k X.A)(hg:Gl X x)(hm:X.mg x=some (.ref f))(hk:PySem.W.keepIn X.K (.ref f)=true)(hb:Binds X.K fd ps ds)(hd:Vals dvs ds)(hx:K6 CX X E)
 (ha:PA X (e::es) t) (hdb:(x==("__debug__":Str))=false:=by decide) (he:starEach (e::es) X.env=(false,eval e X.env)::starEach es X.env:=by rfl) (hpl:(backTo pos (starEach es X.env)).any (·.1)=false:=by rfl):
 PE X (.Call (.Name x p) (e::es) [] pos) (Dj sp dvs E t):=by
 intro pins s σ H Q I h;refine wpAny_Call_Name_kw (SD I hg hm ?_ hdb);refine PySem.W.callWith_K (h₀:=X.base) I.ok.mod.kin hk (thn (ha pos pins s σ H _ I h) λus s1 ⟨vs,H1,I1,r,q⟩=>⟨I1.kIn,?_⟩) he hpl;exact Sz F hr hb hd hx I1 r q
end
structure FnScope(N P:List Str)(sc:Scope):Prop where
 kind:sc.kind=.function
 co:sc.isCoroutine=false
 gen:sc.isGenerator=false
 nd:N.Nodup
 pre:N.take P.length=P
 par:∀x∈P,sc.names.lookup x=some .local∨sc.names.lookup x=some .cell
 nofree:∀y∈sc.names,y.2≠.free
theorem IK{kindOf:Str->Option NameKind}{x:Str}:∀{binds:List (Str×Value)} {m:Str->Option Value},(∀v,(x,v)∉binds)->bindL kindOf binds m x=m x
 |[],_,_=>rfl
 |(n,v)::r,m,h=>by
   unfold bindL;rw[IK λw hw=>h w (mem_cons_of_mem _ hw)];split
   .have:x≠n:=by rintro rfl;exact h v mem_cons_self
    simp[this]
   .rfl
theorem IM{kindOf:Str->Option NameKind}{x:Str}:∀{binds:List (Str×Value)} {m:Str->Option Value},(∀v,(x,v)∉binds)->bindC kindOf binds m x=m x
 |[],_,_=>rfl
 |(n,v)::r,m,h=>by
   unfold bindC;rw[IM λw hw=>h w (mem_cons_of_mem _ hw)];split
   .rfl
   .have:x≠n:=by rintro rfl;exact h v mem_cons_self
    simp[this]
theorem IL{kindOf:Str->Option NameKind}{x:Str}{v:Value}:∀{P:List Str} {vs:List Value} {i:Nat} {m:Str->Option Value},P.Nodup->P[i]?=some x->vs[i]?=some v->kindOf x=some .local ->
 bindL kindOf (P.zip vs) m x=some v
 |[],_,_,_,_,h,_,_=>by simp at h
 |_::_,[],_,_,_,_,h,_=>by simp at h
 |p::P,w::vs,0,m,nd,h1,h2,hk=>by
  simp at h1 h2;subst h1;subst h2;show bindL kindOf ((p,w)::P.zip vs) m p=_;unfold bindL;rw[IK λv hv=>(nodup_cons.mp nd).1 (List.of_mem_zip hv).1,if_pos hk];simp
 |p::P,w::vs,i+1,m,nd,h1,h2,hk=>by
  show bindL kindOf ((p,w)::P.zip vs) m x=_;unfold bindL;exact IL (i:=i) (nodup_cons.mp nd).2 (by simpa using h1) (by simpa using h2) hk
theorem IN{kindOf:Str->Option NameKind}{x:Str}{v:Value}:∀{P:List Str} {vs:List Value} {i:Nat} {m:Str->Option Value},P.Nodup->P[i]?=some x->vs[i]?=some v->kindOf x≠some .local ->
 bindC kindOf (P.zip vs) m x=some v
 |[],_,_,_,_,h,_,_=>by simp at h
 |_::_,[],_,_,_,_,h,_=>by simp at h
 |p::P,w::vs,0,m,nd,h1,h2,hk=>by
  simp at h1 h2;subst h1;subst h2;show bindC kindOf ((p,w)::P.zip vs) m p=_;unfold bindC;rw[IM λv hv=>(nodup_cons.mp nd).1 (List.of_mem_zip hv).1,if_neg hk];simp
 |p::P,w::vs,i+1,m,nd,h1,h2,hk=>by
  show bindC kindOf ((p,w)::P.zip vs) m x=_;unfold bindC;exact IN (i:=i) (nodup_cons.mp nd).2 (by simpa using h1) (by simpa using h2) hk
def start(N:List Str)(vs:List V):St:=vs.map some++List.replicate (N.length-vs.length) none
def E2(CX:CXT)(P:Program)(w:World)(K:PySem.W.Frag)(mg:Str->Option Value)(base:Heap)(N:List Str)(qual:Str)(scope:Scope)(f:Addr)(cd:Value)(A:Around)(outer:List Env)(s:Shared)(H:Hp)(E:XK):Cx where
 prog:=P
 w:=w
 K:=K
 mg:=mg
 base:=base
 A:=A.deeper (envOfC qual scope s.heap.objs.size f cd)
 N:=N
 s₀:=s
 H₀:=H
 env:=envOfC qual scope s.heap.objs.size f cd
 outer:=outer
 stack:=envOfC qual scope s.heap.objs.size f cd::outer
 ex:=[]
 calm:=true
 fn:=λ_=>true
 pn:=[]
 xe:=λe s'=>wpAny (model P w) (A.deeper (envOfC qual scope s.heap.objs.size f cd)) (leaving (envOfC qual scope s.heap.objs.size f cd) e) (λ_ s''=>CX outer H s E e s'') (λe' s''=>CX outer H s E e' s'') s'
def Jt{sc:Scope}{n:Nat}{x:Str}(h:sc.names.lookup x=some .cell):∃c,(cellsFrom n sc.names []).lookup x=some c:=by
 have q:=PySem.W.cellsFrom_some sc.names n [] (.inl h);exact isSome_iff_exists.mp q
def N5{CX:CXT}{P:Program}{w:World}{K:PySem.W.Frag}{mg:Str->Option Value}{base:Heap}{N ps:List Str}{qual:Str}{scope:Scope}{f:Addr}{cd:Value}{A:Around}{outer:List Env}{s s1:Shared}{H:Hp}{E:XK}{us:List Value}{vs:List V}
 (S:FnScope N ps scope) (hd:A.handled=none) (e0:Env0 P w K mg base A outer s H) (hl:vs.length=ps.length) (r:Vals vs us)
 (x:InCallC s s.heap.objs.size (bindL (envOfC qual scope s.heap.objs.size f cd).kindOf (ps.zip us) λ_=>none) (cellsFrom (s.heap.objs.size+1) scope.names []) (bindC (envOfC qual scope s.heap.objs.size f cd).kindOf (ps.zip us) λ_=>none) s1):
 Inv (E2 CX P w K mg base N qual scope f cd A outer s H E) [] (start N vs) H s1:=by
 have hpl:ps.length<=N.length:=by have:=congrArg List.length S.pre;rw[length_take]at this;omega
 obtain⟨h1,tk,rfl,hk⟩:=x.done;have noA:∀b:Addr,b∉(E2 CX P w K mg base N qual scope f cd A outer s H E).ex:=λb z=>absurd (show b∈([]:List Addr)from z) (by simp);refine⟨⟨e0.mod,S.kind,rfl,rfl,le_refl _,λy z c h1 h2=>?_,λy hy=>?_,λy c _ h=>?_,λ_=>hd,Around.frames_deeper e0.frames,.inr ⟨rfl,rfl⟩,λb z=>absurd z (noA b),e0.bs,e0.bsz,λb _ _=>noA b,λb z=>absurd z (noA b),e0.funs,e0.frf⟩,
  rfl,e0.bare,Un.kept hk,⟨_,x.toInCall.ns,λi y v h1 h2 h3=>?_⟩,λy c h=>⟨_,x.cell y c h⟩,e0.hok.fresh (le_refl _),λy c h=>?_,λp hp=>absurd (show p∈([]:List (Addr×Obj))from hp) (by simp),e0.hok.kept hk,?_⟩
 .exact name_of_addr x.apart (PySem.mem_of_lookup h1) (PySem.mem_of_lookup h2)
 .have hy:scope.names.lookup y=some .cell∨scope.names.lookup y=some .free:=hy;rcases hy with hy|hy
  .exact Jt hy
  .exact absurd rfl (S.nofree _ (PySem.mem_of_lookup hy))
 .exact le_of_lt (x.above y c (PySem.mem_of_lookup h))
 .have hi:i<vs.length:=by
   unfold start at h2;by_cases hi:i<vs.length
   .exact hi
   .rw[List.getElem?_append_right (by simpa using hi)]at h2;rw[List.getElem?_replicate]at h2;split at h2<;>cases h2
  have ha:vs[i]?=some v:=by
   unfold start at h2;rw[List.getElem?_append_left (by simpa using hi),List.getElem?_map]at h2;cases e:vs[i]? with
   |none=>rw[e]at h2;cases h2
   |some a=>rw[e]at h2;cases h2;rfl
  obtain⟨u,hu,rv⟩:=r.get ha;have hp:ps[i]?=some y:=by
   rw[<- S.pre,List.getElem?_take_of_lt (by omega)];exact h1
  have ndP:ps.Nodup:=by rw[<- S.pre];exact S.nd.sublist (List.take_sublist _ _)
  refine⟨u,rv,?_⟩;rcases S.par y (mem_of_getElem? hp)with k|k
  .exact .inl ⟨k,IL ndP hp hu k⟩
  .obtain⟨c,e⟩:=Jt (n:=s.heap.objs.size+1) k;refine .inr ⟨.inl k,c,e,?_⟩;have q:=x.cell y c e;rw[IN ndP hp hu (by show scope.names.lookup y≠_;rw[k];decide)]at q;exact q
 .exact e0.hok.fresh (le_of_lt (x.above y c (PySem.mem_of_lookup h)))
 .unfold start;show _=N.length;rw[length_append,length_map,List.length_replicate];omega
def Pm{CX:CXT}{P:Program}{w:World}{K:PySem.W.Frag}{mg:Str->Option Value}{base:Heap}{k:Nat}{f:Addr}{name qual:Str}{params:Arguments}{body:List Stmt}{scope:Scope}{dV kV doc pm cdv ct oc:Value}{an od:Option Addr}
 {osl:Array (Option Value)} {N ps:List Str} {sp:Sp} (lk:K.lookup f=some ⟨oc,od,.func (PySem.W.fnOf name qual params body scope dV kV doc pm an cdv ct),osl⟩) (hcd:PySem.W.codeIn K cdv qual=true) (S:FnScope N ps scope)
 (len:∀vs H Q E,sp vs H Q E->vs.length=ps.length)
 (hbody:∀(A:Around) (outer:List Env) (s:Shared) (H:Hp) (vs:List V) (Q:VK) (E:XK),Room k (A.deeper (envOfC qual scope s.heap.objs.size f cdv))->sp vs H Q E ->
  ∃t,PSs (E2 CX P w K mg base N qual scope f cdv A outer s H E) body t/\t { nx:=λ_ H'=>Q .non H',rt:=Q } (start N vs) H):
 FnOk P w K mg base CX (k+1) f (PySem.W.fnOf name qual params body scope dV kV doc pm an cdv ct) ps sp:=by
 refine⟨len,λA outer s H args us vs Q E hr e0 hb r hsp=>?_⟩;have hl:=len _ _ _ _ hsp;have KX:K.In s.heap:=e0.mod.kin.keeps λb o e=>(e0.bs b o e).1;have lim:s.heap.NoLimit:=e0.mod.nolimit.keeps λb o e=>(e0.bs b o e).1;have hkind:∀y∈ps.zip us,scope.names.lookup y.1=some .local∨(scope.names.lookup y.1=some .cell/\((cellsFrom (s.heap.objs.size+1) scope.names []).lookup y.1).isSome=true):=λ⟨n,v⟩ hy=>by
  rcases S.par n (List.of_mem_zip hy).1 with q|q
  .exact .inl q
  .exact .inr ⟨q,PySem.W.cellsFrom_some _ _ _ (.inl q)⟩
 refine codeAny_call_function hr.depth (KX _ _ lk) rfl S.co S.gen rfl (PySem.W.codeRec_of KX hcd) (hb _ _ _ _ ?_);refine wpAny_newFunctionEnv_cells S.kind hkind λenv he s1 x=>?_;subst he;refine⟨lim.keeps x.toInCall.keep,codeAny_func ?_⟩;obtain⟨t,ht,hq⟩:=hbody A outer s H vs Q E (hr.deeper _) hsp;have I:Inv (E2 CX P w K mg base N qual scope f cdv A outer s H E) [] (start N vs) H s1:=N5 S hr.hd e0 hl r x;refine wpAny_mono (ht [] s1 (start N vs) H _ I hq) (λfl s' hs=>?_) λe s' hs=>hs;have fin:∀{σ':St} {H':Hp} {v:V} {u:Value},Inv (E2 CX P w K mg base N qual scope f cdv A outer s H E) [] σ' H' s'->RelV v u->Q v H'->CE outer P w H s Q u s':=
  λ{σ' H' v u} J rv q=>⟨v,H',J.os,J.bare,J.base,J.hok,rv,q⟩
 cases fl with
 |ret u=>
  obtain⟨v,σ',H',J,rv,q⟩:=hs;exact fin J rv q
 |next=>
  obtain⟨σ',H',J,q⟩:=hs;exact fin (v:=V.non) (u:=Value.none) J rfl q
 |brk=>
  obtain⟨_,_,_,q⟩:=hs;exact False.elim q
 |cont=>
  obtain⟨_,_,_,q⟩:=hs;exact False.elim q
section
variable{X:Cx}{x:Str}{p pos:Pos}{e:Expr}{es:List Expr}{t:TA}{id T:String}{r:List V->Hp->VK->Prop}
def tCB(r:List V->Hp->VK->Prop)(t:TA):TE:=λσ H Q=>t σ H λvs H1=>r vs H1 Q
def Ee(hc:CallR X (.builtin id) r)(hg:Gl X x)(hm:X.mg x=none)(hv:bootBuiltins x=some (.builtin id))(ha:PA X (e::es) t)(hn:x≠"__name__":=by decide)(hdb:(x==("__debug__":Str))=false:=by decide)
 (he:starEach (e::es) X.env=(false,eval e X.env)::starEach es X.env:=by rfl) (hpl:(backTo pos (starEach es X.env)).any (·.1)=false:=by rfl):PE X (.Call (.Name x p) (e::es) [] pos) (tCB r t):=by
 intro pins s σ H Q I h;refine wpAny_Call_Name_kw (DD I hg hm hv ?_ hn hdb);exact PyProof.Rows.callWith_builtin1 (thn (ha pos pins s σ H _ I h) λus s1 ⟨vs,H1,I1,r1,q1⟩=>hc pins s1 σ H1 vs us Q I1 r1 q1) he hpl
def Hs(hc:CallR X (.type T) r)(hg:Gl X x)(hm:X.mg x=none)(hv:bootBuiltins x=some (.type T))(ha:PA X (e::es) t)(hn:x≠"__name__":=by decide)(hdb:(x==("__debug__":Str))=false:=by decide)
 (he:starEach (e::es) X.env=(false,eval e X.env)::starEach es X.env:=by rfl) (hpl:(backTo pos (starEach es X.env)).any (·.1)=false:=by rfl):PE X (.Call (.Name x p) (e::es) [] pos) (tCB r t):=by
 intro pins s σ H Q I h;refine wpAny_Call_Name_kw (DD I hg hm hv ?_ hn hdb);exact PyProof.Rows.callWith_type1 (thn (ha pos pins s σ H _ I h) λus s1 ⟨vs,H1,I1,r1,q1⟩=>hc pins s1 σ H1 vs us Q I1 r1 q1) he hpl
end
end L2
namespace HT
open PySem PyProof.Rows
section
variable{prog:Program}{w:World}{A:Around}{E:Value->Shared->Prop}{s:Shared}
def cat_tup{t b:Addr}{vs ws:List Value}{Q:Value->Shared->Prop}(ht:IsTup s.heap t vs.toArray)(hb:IsTup s.heap b ws.toArray)(hv:vs≠[])
 (h1:ws=[]->Q (.ref t) s) (h2:ws≠[]->Q (.ref s.heap.objs.size) { s with heap:=s.heap.push { cls:=.type "tuple",data:=.seq (vs++ws).toArray } })
 (hsz:vs.length+ws.length<=sizeLine):wpAny (model prog w) A (binaryOp .Add (.ref t) (.ref b)) Q E s:=by
 obtain⟨⟨cls,dd,data,sl⟩,ho,hc,n,hd⟩:=id ht;obtain⟨⟨cls2,dd2,data2,sl2⟩,ho2,hc2,n2,hd2⟩:=id hb;simp only at hc hd hc2 hd2;subst hc hd hc2 hd2;have e:vs.toArray++ws.toArray=(vs++ws).toArray:=by simp
 by_cases hw:ws=[]
 .exact concat_meets ⟨_,ho,rfl⟩ ⟨_,ho2,rfl⟩ noFill_tuple_add seq_tuple_add PySem.F.slot_tuple_add PySem.F.entry_tuple_add (PySem.F.args_tuple_add_2 _ _)
   (tuple_addW1 t b vs.toArray ws.toArray n n2 dd dd2 sl sl2 (by simpa using hv) (by simp[hw])) ⟨ho,ho2,h1 hw⟩
 .refine concat_meets ⟨_,ho,rfl⟩ ⟨_,ho2,rfl⟩ noFill_tuple_add seq_tuple_add PySem.F.slot_tuple_add PySem.F.entry_tuple_add (PySem.F.args_tuple_add_2 _ _)
   (tuple_addW2 t b vs.toArray ws.toArray n n2 dd dd2 sl sl2 (by simpa using hv) (by simpa using hw) (by rw[size_toArray,size_toArray];exact hsz)) ⟨ho,ho2,?_⟩
  rw[e];exact h2 hw
def sIx(n d:Nat):Option Int->Nat
 |none=>d
 |some v=>if v<0 then(v+(n:Int)).toNat else min v.toNat n
def Sw(n d:Nat)(hd:d<=n)(o:Option Int):sIx n d o<=n:=by
 cases o with
 |none=>exact hd
 |some v=>
  show(if v<0 then(v+(n:Int)).toNat else min v.toNat n)<=n;by_cases hv:v<0
  .rw[if_pos hv];omega
  .rw[if_neg hv];exact Nat.min_le_right _ _
def Kr(v:Int)(n d:Nat):(if v<0 then max (v+(n:Int)) 0 else min v (n:Int))=((sIx n d (some v):Nat):Int):=by
 show(if v<0 then max (v+(n:Int)) 0 else min v (n:Int))=(((if v<0 then(v+(n:Int)).toNat else min v.toNat n):Nat):Int);by_cases hv:v<0
 .simp only[if_pos hv];omega
 .simp only[if_neg hv];omega
def MC(lo hi:Option Int)(n:Nat):Builtin.Slice.sliceAdjust lo hi 1 (n:Int)=(((sIx n 0 lo:Nat):Int),((sIx n n hi:Nat):Int)):=by
 have h1:¬ ((1:Int)<0):=by omega
 unfold Builtin.Slice.sliceAdjust;simp only[h1,if_false];refine Prod.ext ?_ ?_
 .cases lo with
  |none=>rfl
  |some v=>exact Kr v n 0
 .cases hi with
  |none=>rfl
  |some v=>exact Kr v n n
def Lb(i j:Nat):Builtin.Slice.slicePlaces (i:Int) (j:Int) 1=j-i:=by
 unfold Builtin.Slice.slicePlaces;have h1:(1:Int)>0:=by omega
 simp only[h1,if_true,Int.ediv_one];split<;>omega
def GT{v:Value}{o:Option Int}{Q:Option Int->Shared->Prop}(p:IsPart v o)(h:Q o s):wpAny (model prog w) A (Builtin.Slice.slicePartIndex v) Q E s:=by
 cases p with
 |none=>exact slicePart_none h
 |int i t=>exact slicePart_int h
def DU{sl:Addr}{vl vu:Value}{lo hi:Option Int}{n:Nat}{Q:Int×Int×Nat->Shared->Prop}(hs:s.heap.IsSliceOf sl vl vu .none)(pl:IsPart vl lo)(pu:IsPart vu hi)
 (h:Q (((sIx n 0 lo:Nat):Int),1,sIx n n hi-sIx n 0 lo) s):wpAny (model prog w) A (Builtin.Slice.sliceApplied (.ref sl) (pure (n:Int))) Q E s:=by
 obtain⟨os,hos,hcs,hds⟩:=id hs;unfold Builtin.Slice.sliceApplied Builtin.Slice.sliceFields;refine wpAny_bind (wpAny_bind (wpAny_field hos hds (x:=vl) rfl (wpAny_bind (wpAny_field hos hds (x:=vu) rfl (wpAny_bind (wpAny_field hos hds (x:=.none) rfl (wpAny_pure ?_)))))));refine wpAny_bind (slicePart_none ?_);show wpAny _ _ (if((1:Int)==0)=true then _ else _) _ _ s;rw[if_neg (by decide)];refine wpAny_bind (GT pl (wpAny_bind (GT pu (wpAny_bind (wpAny_pure ?_)))));show wpAny _ _ (match Builtin.Slice.sliceAdjust lo hi 1 (n:Int)with|(lo,hi)=>pure (lo,(1:Int),Builtin.Slice.slicePlaces lo hi 1)) _ _ s;rw[MC lo hi n];show wpAny _ _ (pure (((sIx n 0 lo:Nat):Int),(1:Int),Builtin.Slice.slicePlaces ((sIx n 0 lo:Nat):Int) ((sIx n n hi:Nat):Int) 1)) _ _ s;rw[Lb];exact wpAny_pure h
def OU(xs:Array Value)(i k:Nat):((List.range k).filterMap λ(m:Nat)=>xs[((i:Int)+(m:Int)*1).toNat]?).toArray=((xs.toList.drop i).take k).toArray:=by
 have e:(λ(m:Nat)=>xs[((i:Int)+(m:Int)*1).toNat]?)=λm=>xs[i+m]? := by
  funext m
  have:((i:Int)+(m:Int)*1).toNat=i+m:=by omega
  rw[this]
 rw[e];have:=pick_run xs i k;rw[List.filterMap_map]at this;have e2:((λx=>xs[x]?) ∘ λx=>i+x)=λm=>xs[i+m]? := rfl;rw[e2]at this;rw[this]
def getItem_tuple_cut{t sl:Addr}{items:Array Value}{vl vu:Value}{lo hi:Option Int}{Q:Value->Shared->Prop}(ht:IsTup s.heap t items)(hs:s.heap.IsSliceOf sl vl vu .none)(pl:IsPart vl lo)(pu:IsPart vu hi)
 (hw:¬ (sIx items.size 0 lo=0/\sIx items.size items.size hi=items.size))
 (h:Q (.ref s.heap.objs.size) { s with heap:=s.heap.push { cls:=.type "tuple",data:=.seq ((items.toList.drop (sIx items.size 0 lo)).take (sIx items.size items.size hi-sIx items.size 0 lo)).toArray } })
 (hsz:items.size<=sizeLine):wpAny (model prog w) A (getItem (.ref t) (.ref sl)) Q E s:=by
 have htake:sizeOk (.seq ((items.toList.drop (sIx items.size 0 lo)).take (sIx items.size items.size hi-sIx items.size 0 lo)).toArray):=by
  show((items.toList.drop (sIx items.size 0 lo)).take (sIx items.size items.size hi-sIx items.size 0 lo)).toArray.size<=sizeLine;rw[size_toArray,length_take,length_drop,Array.length_toList];omega
 have hj:sIx items.size items.size hi<=items.size:=Sw _ _ (le_refl _) hi;obtain⟨os,hos,hcs,hds⟩:=id hs;have hTs:s.TypeIs (.ref sl) "slice":=⟨os,hos,hcs⟩
 unfold getItem
 try with_reducible refine wpAny_holding ?_
 first|refine wpAny_bind (wpAny_pure ?_)|skip
 refine wpAny_bind (wpAny_sequenceKey ht.typeIs (by decide) ?_);refine wpAny_bind (wpAny_callSpecial?_slot (name:=Str.ofString "__getitem__") ht.typeIs PyProof.Rows.slot_tuple_getitem
  (wpAny_call_entry PyProof.Rows.slot_tuple_getitem ht.typeIs entry_tuple_getitem ?_ (args_tuple_getitem _ _)))
 show wpAny _ _ (Builtin.Tuple.tupleItemsOf (.ref t) >>= _) _ _ s;refine wpAny_bind (tupleItemsOf_ ht ?_);refine wpAny_bind (wpAny_typeOf hTs ?_);rw[if_pos (by decide)];refine wpAny_bind (DU hs pl pu ?_);have hno:¬ ((((sIx items.size 0 lo:Nat):Int)==0&&(1:Int)==1&&(sIx items.size items.size hi-sIx items.size 0 lo)==items.size)=true):=by
  intro q;rw[Bool.and_eq_true,Bool.and_eq_true]at q;have q1:((sIx items.size 0 lo:Nat):Int)=0:=eq_of_beq q.1.1;have q2:sIx items.size items.size hi-sIx items.size 0 lo=items.size:=eq_of_beq q.2;exact hw ⟨by omega,by omega⟩
 show wpAny _ _ (if(((sIx items.size 0 lo:Nat):Int)==0&&(1:Int)==1&&(sIx items.size items.size hi-sIx items.size 0 lo)==items.size)=true then _ else _) _ _ s;rw[if_neg hno,OU]
 first
  |exact wpAny_bind (m:=Builtin.Tuple.tupleExact _) (wpAny_newObj_type (wpAny_pure ⟨_,rfl,wpAny_pure h⟩) htake)
  |exact wpAny_bind (m:=Builtin.Tuple.tupleExact _) (wpAny_newObj_type (wpAny_bind (wpAny_pure (wpAny_pure ⟨_,rfl,wpAny_pure h⟩))) htake)
  |exact wpAny_bind (wpAny_bind (m:=Builtin.Tuple.tupleExact _) (wpAny_newObj_type (wpAny_pure (wpAny_pure ⟨_,rfl,wpAny_pure h⟩)) htake))
  |exact wpAny_bind (wpAny_bind (m:=Builtin.Tuple.tupleExact _) (wpAny_newObj_type (wpAny_pure ⟨_,rfl,wpAny_pure h⟩) htake))
end
end HT
namespace L2
open PySem PySem.Spec PyProof.Rows
abbrev TO:=St->Hp->(Option Int->Hp->Prop)->Prop
def PO(X:Cx)(e:Option Expr)(t:TO):Prop:=
 ∀(pins:List (Addr×Obj)) (s:Shared) (σ:St) (H:Hp) (Q:Option Int->Hp->Prop),Inv X pins σ H s->t σ H Q ->
   wpAny (model X.prog X.w) X.A (evalPart e X.env) (λu s'=>∃o H',Inv X pins σ H' s'/\IsPart u o/\Q o H') X.xe s
def HB:TO:=λ_ H Q=>Q none H
def L9(t:TE):TO:=λσ H Q=>t σ H λx H1=>∃i,x=.int i/\Q (some i) H1
section
variable{X:Cx}{e:Expr}{te:TE}{lo hi:Option Expr}{tl th:TO}{pos p2:Pos}
def Re:PO X none HB:=by
 intro pins s σ H Q I h;rw[evalPart_none];exact wpAny_pure ⟨none,H,I,.none,h⟩
def Rc(h:PE X e te):PO X (some e) (L9 te):=by
 intro pins s σ H Q I hw;rw[evalPart_some];refine thn (h pins s σ H _ I hw) λu s1 ⟨x,H1,I1,r1,q1⟩=>?_;obtain⟨i,rfl,q⟩:=q1;obtain⟨t,rfl⟩:=r1;exact⟨some i,H1,I1,.int i t,q⟩
def SlR(X:Cx)(r:V->Option Int->Option Int->Hp->VK->Prop):Prop:=
 ∀(pins:List (Addr×Obj)) (s:Shared) (σ:St) (H:Hp) (x:V) (v vl vu:Value) (lo hi:Option Int) (sl:Addr) (Q:VK),Inv X pins σ H s->RelV x v->s.heap.IsSliceOf sl vl vu .none->IsPart vl lo->IsPart vu hi->r x lo hi H Q ->
   ∃T id,typeLookup (.type T) "__getitem__"=pure (some (.builtin id))/\s.TypeIs v T/\wpAny (model X.prog X.w) X.A (getItem v (.ref sl)) (EP X pins σ Q) X.xe s
def tSl(r:V->Option Int->Option Int->Hp->VK->Prop)(te:TE)(tl th:TO):TE:=λσ H Q=>te σ H λx H1=>tl σ H1 λl H2=>th σ H2 λu H3=>r x l u H3 Q
def JX{r:V->Option Int->Option Int->Hp->VK->Prop}(hr:SlR X r)(he:PE X e te)(hl:PO X lo tl)(hu:PO X hi th):PE X (.Subscript e (.Slice lo hi none p2) pos) (tSl r te tl th):=by
 intro pins s σ H Q I h;refine Subscript_ (thn (he pins s σ H _ I h) λv s1 ⟨x,H1,I1,r1,q1⟩=>?_);refine wpAny_Slice (thn (hl pins s1 σ H1 _ I1 q1) λvl s2 ⟨l,H2,I2,pl,q2⟩=>thn (hu pins s2 σ H2 _ I2 q2) λvu s3 ⟨u,H3,I3,pu,q3⟩=>?_);rw[evalPart_none];refine wpAny_pure ?_;have I4:Inv X pins σ H3 { s3 with heap:=s3.heap.push { cls:=.type "slice",data:=.fields #[vl,vu,.none] } }:=I3.kept (t':=s3.toks) λb ob q=>Heap.get?_push_of_some _ q;obtain⟨T,id,hT,ht,hg⟩:=hr pins { s3 with heap:=s3.heap.push { cls:=.type "slice",data:=.fields #[vl,vu,.none] } } σ H3 x v vl vu l u s3.heap.objs.size Q I4 r1 (Heap.IsSliceOf.new ..) pl pu q3;show wpAny (model X.prog X.w) X.A (subscriptTail e (.Slice lo hi none p2) v (.ref s3.heap.objs.size)) (EP X pins σ Q) X.xe { s3 with heap:=s3.heap.push { cls:=.type "slice",data:=.fields #[vl,vu,.none] } };exact tail_any (ops:=[.ref s3.heap.objs.size,v]) ht hT hg (by with_unfolding_all rfl)
def E3(xs:List V)(lo hi:Option Int):List V:=(xs.drop (HT.sIx xs.length 0 lo)).take (HT.sIx xs.length xs.length hi-HT.sIx xs.length 0 lo)
def Fw(xs:List V)(lo hi:Option Int):(E3 xs lo hi).length<=xs.length:=by
 unfold E3;rw[length_take,length_drop];omega
def Tg(K:PySem.W.Frag):V->Option Int->Option Int->Hp->VK->Prop:=λx lo hi H Q=>∃a xs,x=.ref a/\SqT K H a xs /\
 ¬ (HT.sIx xs.length 0 lo=0/\HT.sIx xs.length xs.length hi=xs.length)/\∀p,H p=none->Q (.ref p) (upd H p (.tup (E3 xs lo hi)))
def Sq:SlR X (Tg X.K):=by
 intro pins s σ H x v vl vu lo hi sl Q I rx hs pl pu h;obtain⟨a,xs,rfl,hx,hw,q⟩:=h;cases rx;obtain⟨its,r,ht,hz⟩:=I.tuple hx;have hlen:its.toArray.size=xs.length:=by rw[size_toArray];exact r.length.symm
 refine⟨"tuple",_,PyProof.Rows.slot_tuple_getitem.lookup,ht.typeIs,?_⟩;refine HT.getItem_tuple_cut ht hs pl pu (by rw[hlen];exact hw) ?_ (by rw[hlen];exact hz);rw[hlen];refine⟨.ref s.heap.objs.size,_,I.laid (t':=s.toks) (o:=.tup (E3 xs lo hi)) (λb ob q=>Heap.get?_push_of_some _ q) (le_refl _) ?_,rfl,q _ (I.hok.fresh (le_refl _))⟩;exact⟨le_trans (Fw xs lo hi) hz,_,(r.drop (HT.sIx xs.length 0 lo)).take (HT.sIx xs.length xs.length hi-HT.sIx xs.length 0 lo),IsTupD.new _ _⟩
def LW(K:PySem.W.Frag):R2:=λx y H Q=>∃a b xs ys,x=.ref a/\y=.ref b/\SqT K H a xs/\SqT K H b ys/\xs≠[]/\xs.length+ys.length<=sizeLine /\
 (ys=[]->Q (.ref a) H)/\(ys≠[]->∀p,H p=none->Q (.ref p) (upd H p (.tup (xs++ys))))
def Vals.nil_iff{xs:List V}{us:List Value}(r:Vals xs us):us=[]↔xs=[]:=by
 cases r with
 |nil=>simp
 |cons _ _=>simp
def Rx:OpR X (binaryOp .Add) (LW X.K):=by
 intro pins s σ H x y v u Q I rx ry h;obtain⟨a,b,xs,ys,rfl,rfl,ha,hb,hx,hz,q1,q2⟩:=h;cases rx;cases ry;obtain⟨its,r1,p1,_⟩:=I.tuple ha;obtain⟨its2,r2,p2,_⟩:=I.tuple hb;refine HT.cat_tup p1 p2 (λz=>hx (r1.nil_iff.mp z)) (λz=>⟨.ref a,H,I,rfl,q1 (r2.nil_iff.mp z)⟩) (λz=>?_) (by rw[<- r1.length,<- r2.length];exact hz);refine⟨.ref s.heap.objs.size,_,I.laid (t':=s.toks) (o:=.tup (xs++ys)) (λb ob q=>Heap.get?_push_of_some _ q) (le_refl _) ?_,rfl,q2 (λw=>z (r2.nil_iff.mpr w)) _ (I.hok.fresh (le_refl _))⟩;exact⟨by rw[length_append];exact hz,_,r1.append r2,IsTupD.new _ _⟩
end
def ixN(n:Nat)(i:Int):Option Nat:=if 0<=i then(if i<n then some i.toNat else none)else if -(n:Int)<=i then some (i+n).toNat else none
def atI{α:Type}(xs:List α)(i:Int):Option α:=(ixN xs.length i).bind λj=>xs[j]?
def Kk{n:Nat}{i:Int}{j:Nat}(h:ixN n i=some j):seqIndex? i n=some j/\j<n/\-(n:Int)<=i/\i<n:=by
 unfold ixN at h;by_cases h0:0<=i
 .rw[if_pos h0]at h;by_cases h1:i<n
  .rw[if_pos h1]at h;have e:i.toNat=j:=Option.some.inj h;exact⟨by rw[seqIndex_of h0 h1,e],by omega,by omega,h1⟩
  .rw[if_neg h1]at h;cases h
 .rw[if_neg h0]at h;by_cases h1:-(n:Int)<=i
  .rw[if_pos h1]at h;have e:(i+n).toNat=j:=Option.some.inj h;exact⟨by rw[seqIndex_neg (by omega) h1,e],by omega,h1,by omega⟩
  .rw[if_neg h1]at h;cases h
def Hh{α:Type}{xs:List α}{i:Int}{v:α}(h:atI xs i=some v):∃j,seqIndex? i xs.length=some j/\xs[j]?=some v/\j<xs.length/\-(xs.length:Int)<=i/\i<xs.length:=by
 unfold atI at h;cases e:ixN xs.length i with
 |none=>rw[e]at h;cases h
 |some j=>
  rw[e]at h;obtain⟨h1,h2,h3,h4⟩:=Kk e;exact⟨j,h1,h,h2,h3,h4⟩
def Fk{α:Type}{xs:List α}{j:Nat}{v:α}(h:xs[j]?=some v):atI xs (j:Int)=some v:=by
 have hj:j<xs.length:=(List.getElem?_eq_some_iff.mp h).1;have e:ixN xs.length (j:Int)=some j:=by
  unfold ixN;rw[if_pos (by omega),if_pos (by omega)];simp
 unfold atI;rw[e];exact h
def P7{α:Type}(xs:List α)(v:α):atI (xs++[v]) (-1)=some v:=by
 have hl:(xs++[v]).length=xs.length+1:=by simp
 have e:ixN (xs++[v]).length (-1)=some xs.length:=by
  unfold ixN;rw[hl,if_neg (by decide),if_pos (by omega)]
  congr 1
  omega
 unfold atI;rw[e];show(xs++[v])[xs.length]?=some v;simp
def Hi(b:Expr):Prop:=∀o i,subscripted b false o i=operate [o,i] (getItem o i)
def IxR(X:Cx)(r:R2):Prop:=
 ∀(value slice:Expr) (pins:List (Addr×Obj)) (s:Shared) (σ:St) (H:Hp) (x y:V) (v u:Value) (Q:VK),Inv X pins σ H s->RelV x v->RelV y u->r x y H Q ->
   subscripted slice false v u=operate [v,u] (getItem v u)->wpAny (model X.prog X.w) X.A (subscriptTail value slice v u) (EP X pins σ Q) X.xe s
def MtR(X:Cx)(id:String)(r:V->List V->Hp->VK->Prop):Prop:=
 ∀(pins:List (Addr×Obj)) (s:Shared) (σ:St) (H:Hp) (x:V) (xs:List V) (v:Value) (us:List Value) (Q:VK),Inv X pins σ H s->RelV x v->Vals xs us->r x xs H Q ->
   wpAny (model X.prog X.w) X.A (call (.builtin id) (v::us)) (EP X pins σ Q) X.xe s
section
variable{X:Cx}{a b:Expr}{ta tb:TE}{pos:Pos}
def IxR.or{r r':R2}(h:IxR X r)(h':IxR X r'):IxR X (λx y H Q=>r x y H Q∨r' x y H Q):=by
 intro value slice pins s σ H x y v u Q I rx ry q hs;rcases q with q|q
 .exact h value slice pins s σ H x y v u Q I rx ry q hs
 .exact h' value slice pins s σ H x y v u Q I rx ry q hs
def Pb{r:R2}(hr:IxR X r)(ha:PE X a ta)(hb:PE X b tb)(hs:Hi b):PE X (.Subscript a b pos) (tOp r ta tb):=by
 intro pins s σ H Q I h;exact Subscript_ (P6 ha hb I h λv u s2 x y H2 I2 rx ry q=>hr a b pins s2 σ H2 x y v u Q I2 rx ry q (hs _ _))
def HH(K:PySem.W.Frag):R2:=λx y H Q=>∃p xs i v,x=.ref p/\y=.int i/\SqL K H p xs/\atI xs i=some v/\Q v H
def O8(K:PySem.W.Frag):R2:=λx y H Q=>∃p xs i v,x=.ref p/\y=.int i/\SqT K H p xs/\atI xs i=some v/\Q v H
def SF:IxR X (HH X.K):=by
 intro value slice pins s σ H x y v u Q I rx ry h hs;obtain⟨p,xs,i,z,rfl,rfl,hq,he,q⟩:=h;cases rx;obtain⟨t,rfl⟩:=ry;obtain⟨its,r,pl,hz⟩:=I.list hq;obtain⟨j,h1,h2,h3,h4,h5⟩:=Hh he;obtain⟨w,ew,rw'⟩:=r.get h2;have hl:=r.length;have hn:=EN;have fin:EP X pins σ Q w s:=⟨z,H,I,rw',q⟩
 by_cases h0:0<=i
 .have hj:i.toNat=j:=by
   rw[seqIndex_of h0 h5]at h1;exact Option.some.inj h1
  exact item_listR pl.isList h0 (by omega) (by rw[hj];simpa using ew) fin hs
 .have hj:(i+(its.toArray.size:Int)).toNat=j:=by
   rw[seqIndex_neg (by omega) h4]at h1;rw[size_toArray,<- hl];exact Option.some.inj h1
  exact subscriptTail_builtinR (x:=w) pl.isList.typeIs slot_list_getitem.lookup
   (wpAny_getItem_list_neg (Q:=λr s'=>r=w/\EP X pins σ Q r s') pl.isList (by omega) (by rw[size_toArray]<;>omega) (by omega) (by rw[hj];simpa using ew) ⟨rfl,fin⟩) hs
def Uz:IxR X (O8 X.K):=by
 intro value slice pins s σ H x y v u Q I rx ry h hs;obtain⟨p,xs,i,z,rfl,rfl,hq,he,q⟩:=h;cases rx;obtain⟨t,rfl⟩:=ry;obtain⟨its,r,pl,hz⟩:=I.tuple hq;obtain⟨j,h1,h2,h3,h4,h5⟩:=Hh he;obtain⟨w,ew,rw'⟩:=r.get h2;have hl:=r.length;have hn:=EN;have fin:EP X pins σ Q w s:=⟨z,H,I,rw',q⟩
 exact subscriptTail_builtinR (x:=w) pl.typeIs slot_tuple_getitem.lookup
  (getItem_tuple (j:=j) (Q:=λr s'=>r=w/\EP X pins σ Q r s') pl (by omega) (by omega) (by rw[size_toArray,<- hl];exact h1) (by simpa using ew) ⟨rfl,fin⟩) hs
def Li(its:List Value)(n j:Nat)(u:Value):Obj.mapSeq (·.setIfInBounds j u) { cls:=.type "list",data:=.seq its.toArray n }={ cls:=.type "list",data:=.seq (its.set j u).toArray n }:=by
 simp[Obj.mapSeq]
theorem Inv.lst{pins:List (Addr×Obj)}{σ:St}{H:Hp}{s:Shared}{p:Addr}{xs:List V}(I:Inv X pins σ H s)(h:H p=some (.lst xs)):
 ∃(its:List Value) (n:Nat),Vals xs its/\s.heap.get? p=some { cls:=.type "list",data:=.seq its.toArray n }/\xs.length<=sizeLine:=by
 obtain⟨z,its,n,r,e⟩:=I.hok p _ h;exact⟨its,n,r,e,z⟩
def Inv.lstUpd{pins:List (Addr×Obj)}{σ:St}{H:Hp}{s:Shared}{p:Addr}{xs ys:List V}{its its':List Value}{n n':Nat}{f:Obj->Obj}(I:Inv X pins σ H s)(h:H p=some (.lst xs))
 (ho:s.heap.get? p=some { cls:=.type "list",data:=.seq its.toArray n }) (hf:f { cls:=.type "list",data:=.seq its.toArray n }={ cls:=.type "list",data:=.seq its'.toArray n' }) (r:Vals ys its') (hz:ys.length<=sizeLine) (t:Nat):
 Inv X pins σ (upd H p (.lst ys)) { s with heap:=s.heap.update p f,toks:=t }:=by
 have e:(s.heap.update p f).get? p=some { cls:=.type "list",data:=.seq its'.toArray n' }:=by
  rw[Heap.get?_update_self f ho (by rw[hf]<;>rfl),hf]
 refine I.write (x:=p) (e:=p) (by rw[h];trivial) (.inl rfl) (λb u hb q=>(Heap.get?_update_other _ _ (Ne.symm hb)).trans q) ⟨_,e⟩ ?_;exact⟨hz,its',n',r,e⟩
def Gf:V->V->V->Hp->(Hp->Prop)->Prop:=λo i v H Q=>∃p xs k j,o=.ref p/\i=.int k/\H p=some (.lst xs)/\ixN xs.length k=some j/\Q (upd H p (.lst (xs.set j v)))
def JG:P8 X Gf:=by
 intro pins s σ H o i v ov iv u Q I ro ri rv h;obtain⟨p,xs,k,j,rfl,rfl,hp,hj,q⟩:=h;cases ro;obtain⟨t,rfl⟩:=ri;obtain⟨its,n,r,ho,hz⟩:=I.lst hp;obtain⟨h1,h2,h3,h4⟩:=Kk hj;have hl:=r.length;have hn:=EN;have I':Inv X pins σ (upd H p (.lst (xs.set j v))) { s with heap:=s.heap.update p (Obj.mapSeq (·.setIfInBounds j u)) }:=
  I.lstUpd hp ho (Li its n j u) (r.set rv j) (by rw[List.length_set];exact hz) s.toks
 by_cases h0:0<=k
 .have hk:k.toNat=j:=by
   rw[seqIndex_of h0 h4]at h1;exact Option.some.inj h1
  exact PySem.W.ki_setAt ho h0 (by omega) (by rw[size_toArray,<- hl];exact h4) (by rw[hk];exact⟨_,I',q⟩)
 .have hk:(k+(its.toArray.size:Int)).toNat=j:=by
   rw[seqIndex_neg (by omega) h3]at h1;rw[size_toArray,<- hl];exact Option.some.inj h1
  exact PySem.W.ki_setBack ho (by omega) (by rw[size_toArray,<- hl];exact h3) (by omega) (by rw[hk];exact⟨_,I',q⟩)
def JE(lo hi:Option Int)(n:Nat):(sliceBounds lo hi none n).1=((HT.sIx n 0 lo:Nat):Int)/\(sliceBounds lo hi none n).2.1=((HT.sIx n n hi:Nat):Int)/\(sliceBounds lo hi none n).2.2=1:=by
 refine⟨?_,?_,rfl⟩
 .cases lo with
  |none=>simp[sliceBounds,HT.sIx]
  |some i=>
   simp only[sliceBounds,HT.sIx,Option.getD_none,show(1:Int)>0 by decide,if_true];by_cases h:i<0
   .simp only[h,if_true]<;>omega
   .simp only[h,if_false]<;>omega
 .cases hi with
  |none=>simp[sliceBounds,HT.sIx]
  |some i=>
   simp only[sliceBounds,HT.sIx,Option.getD_none,show(1:Int)>0 by decide,if_true];by_cases h:i<0
   .simp only[h,if_true]<;>omega
   .simp only[h,if_false]<;>omega
def IQ(its:List Value)(lo hi:Option Int):slicePick its.toArray lo hi none=((its.drop (HT.sIx its.length 0 lo)).take (HT.sIx its.length its.length hi-HT.sIx its.length 0 lo)).toArray:=by
 obtain⟨h1,h2,h3⟩:=JE lo hi its.toArray.size;unfold slicePick;rw[h1,h2,h3];simp only[sliceRange_one,pick_run,size_toArray]<;>rfl
def LU(K:PySem.W.Frag):V->Option Int->Option Int->Hp->VK->Prop:=λx lo hi H Q=>∃a xs,x=.ref a/\SqL K H a xs/\∀p,H p=none->Q (.ref p) (upd H p (.lst (E3 xs lo hi)))
def Q6:SlR X (LU X.K):=by
 intro pins s σ H x v vl vu lo hi sl Q I rx hs pl pu h;obtain⟨a,xs,rfl,hx,q⟩:=h;cases rx;obtain⟨its,r,ht,hz⟩:=I.list hx;have hlen:=r.length;refine⟨"list",_,slot_list_getitem.lookup,ht.isList.typeIs,?_⟩;refine wpAny_getItem_list_slice ht.isList hs pl pu .none (by simp) ?_ (by rw[size_toArray]<;>omega);rw[IQ,<- hlen];refine⟨.ref s.heap.objs.size,_,I.laid (t':=s.toks) (o:=.lst (E3 xs lo hi)) (λb ob q=>Heap.get?_push_of_some _ q) (le_refl _) ?_,rfl,q _ (I.hok.fresh (le_refl _))⟩;exact⟨le_trans (Fw xs lo hi) hz,_,0,(r.drop (HT.sIx xs.length 0 lo)).take (HT.sIx xs.length xs.length hi-HT.sIx xs.length 0 lo),Heap.get?_push_size _ rfl⟩
def eqV:V->V->Bool
 |.non,.non=>true
 |.bl a,.bl b=>a==b
 |.bl a,.int b=>(if a then 1 else 0)==b
 |.int a,.bl b=>a==(if b then 1 else 0)
 |.int a,.int b=>a==b
 |.str a,.str b=>a==b
 |_,_=>false
def inV(x:V)(xs:List V):Bool:=xs.any λy=>eqV y x
def Jx:CallR X (.builtin "len") (λxs H Q=>∃p ys,xs=[.ref p]/\(SqL X.K H p ys∨SqT X.K H p ys)/\Q (.int ys.length) H):=by
 intro pins s σ H xs us Q I r h;obtain⟨p,ys,rfl,hq,q⟩:=h;obtain⟨u,rfl,rx⟩:=CG r;cases rx;have hn:=EN;rcases hq with hq|hq
 .obtain⟨its,r',pl,hz⟩:=I.list hq;have hlen:=r'.length;exact Calls.call_len_list pl.isList (by simp only[size_toArray]<;>omega) ⟨.int ys.length,H,I.tok _,⟨s.toks+1,by rw[size_toArray,hlen]⟩,q⟩
 .obtain⟨its,r',pl,hz⟩:=I.tuple hq;have hlen:=r'.length;exact len_tuple pl (by simp only[size_toArray]<;>omega) ⟨.int ys.length,H,I.tok _,⟨s.toks+1,by rw[size_toArray,hlen]⟩,q⟩
def CallR.or{f:Value}{r r':List V->Hp->VK->Prop}(h:CallR X f r)(h':CallR X f r'):CallR X f (λxs H Q=>r xs H Q∨r' xs H Q):=by
 intro pins s σ H xs us Q I rs q;rcases q with q|q
 .exact h pins s σ H xs us Q I rs q
 .exact h' pins s σ H xs us Q I rs q
def Jw:CallR X (.type "list") (λxs H Q=>∃p ys,xs=[.ref p]/\(SqL X.K H p ys∨SqT X.K H p ys)/\∀l,H l=none->Q (.ref l) (upd H l (.lst ys))):=by
 intro pins s σ H xs us Q I r h;obtain⟨p,ys,rfl,hq,q⟩:=h;obtain⟨u,rfl,rx⟩:=CG r;cases rx;have fin:∀(its:List Value),Vals ys its->ys.length<=sizeLine->∀(h':Heap) (c':Nat),(∀b o',s.heap.get? b=some o'->h'.get? b=some o') ->
  h'.get? s.heap.objs.size=some { cls:=.type "list",dict:=none,data:=.seq its.toArray c',slots:=#[] }->EP X pins σ Q (.ref s.heap.objs.size) { s with heap:=h' }:=λits r' hz h' c' kp e=>
  ⟨.ref s.heap.objs.size,_,I.laid (t':=s.toks) kp (le_refl _) (show ObjOk X.prog X.w _ h' _ (.lst ys)from⟨hz,its,c',r',e⟩),rfl,q _ (I.hok.fresh (le_refl _))⟩
 rcases hq with hq|hq
 .obtain⟨its,r',pl,hz⟩:=I.list hq;have hlen:=r'.length;obtain⟨o,ho,hc,n,hd⟩:=pl.isList;exact call_list_seq p (.inl rfl) ho hc hd (λh' c' kp e=>fin its r' hz h' c' kp e) (by simp only[size_toArray]<;>omega)
 .obtain⟨its,r',pl,hz⟩:=I.tuple hq;have hlen:=r'.length;obtain⟨o,ho,hc,n,hd⟩:=pl;exact call_list_seq p (.inr rfl) ho hc hd (λh' c' kp e=>fin its r' hz h' c' kp e) (by simp only[size_toArray]<;>omega)
def IW:CallR X (.type "tuple") (λxs H Q=>∃p ys,xs=[.ref p]/\((SqL X.K H p ys/\∀l,H l=none->Q (.ref l) (upd H l (.tup ys)))∨(SqT X.K H p ys/\Q (.ref p) H))):=by
 intro pins s σ H xs us Q I r h;obtain⟨p,ys,rfl,h⟩:=h;obtain⟨u,rfl,rx⟩:=CG r;cases rx;rcases h with⟨hq,q⟩|⟨hq,q⟩
 .obtain⟨its,r',pl,hz⟩:=I.list hq;have hlen:=r'.length;refine call_tuple_list pl.isList (λh' kp=>?_) (by simp only[size_toArray]<;>omega);have I1:Inv X pins σ H { s with heap:=h' }:=I.kept (t':=s.toks) kp;have I2:Inv X pins σ (upd H h'.objs.size (.tup ys)) { s with heap:=h'.push { cls:=.type "tuple",data:=.seq its.toArray } }:=
   I1.laid (t':=s.toks) (λb o e=>Heap.get?_push_of_some _ e) (le_refl _) (show ObjOk X.prog X.w _ _ _ (.tup ys)from⟨hz,its,r',IsTupD.new _ _⟩)
  exact⟨.ref h'.objs.size,_,I2,rfl,q _ (I1.hok.fresh (le_refl _))⟩
 .obtain⟨its,r',pl,hz⟩:=I.tuple hq;exact call_tuple_same pl ⟨.ref p,H,I,rfl,q⟩
def tyV(K:PySem.W.Frag)(T:String)(x:V)(H:Hp):Prop:=match x with
 |.str _=>T="str"
 |.int _=>T="int"
 |.ref p=>(T="list"/\∃xs,SqL K H p xs)∨(T="tuple"/\∃o,K.lookup p=some o/\o.cls=.type "tuple"/\o.dict=none) ∨
  (T="dict"/\((∃kvs,H p=some (.dK kvs))∨∃kvs,H p=some (.dT kvs)))∨(T="set"/\∃S n,H p=some (.set S n))
 |_=>False
def Si{pins:List (Addr×Obj)}{σ:St}{H:Hp}{s:Shared}{T:String}{x:V}{v:Value}(I:Inv X pins σ H s)(r:RelV x v)(ty:tyV X.K T x H):
 s.TypeIs v T/\∀a,v=.ref a->∃ob,s.heap.get? a=some ob/\ob.dict=none:=by
 cases x with
 |str z=>
  obtain⟨t,rfl⟩:=r;cases(show T="str" from ty);exact⟨typeIs_str s z t,λ_ e=>nomatch e⟩
 |int i=>
  obtain⟨t,rfl⟩:=r;cases(show T="int" from ty);exact⟨typeIs_int s i t,λ_ e=>nomatch e⟩
 |ref p=>
  cases r;rcases ty with⟨rfl,xs,hq⟩|⟨rfl,o,hk,hc,hd⟩|⟨rfl,hk⟩|⟨rfl,S,n,hk⟩
  .obtain⟨its,_,pl,_⟩:=I.list hq;refine⟨pl.isList.typeIs,λa e=>?_⟩;cases e;obtain⟨o,n,e,c,hd,_⟩:=pl;exact⟨o,e,hd⟩
  .refine⟨⟨o,I.kIn p o hk,hc⟩,λa e=>?_⟩;cases e;exact⟨o,I.kIn _ o hk,hd⟩
  .have z:∃o,s.heap.get? p=some o/\o.ExactDict:=by
    rcases hk with⟨kvs,hk⟩|⟨kvs,hk⟩
    .obtain⟨_,_,_,_,o,_,_,e,ex,_⟩:=I.hok p _ hk;exact⟨o,e,ex⟩
    .obtain⟨_,_,_,_,o,_,_,e,ex,_⟩:=I.hok p _ hk;exact⟨o,e,ex⟩
   obtain⟨o,e,ex⟩:=z;refine⟨⟨o,e,ex.1⟩,λa e2=>?_⟩;cases e2;exact⟨o,e,ex.2.1⟩
  .obtain⟨o,_,_,_,e,ex,_⟩:=I.hok p _ hk;refine⟨⟨o,e,ex.1⟩,λa e2=>?_⟩;cases e2;exact⟨o,e,ex.2.1⟩
 |_=>exact False.elim ty
def tBM(K:PySem.W.Frag)(T:String)(r:V->List V->Hp->VK->Prop)(to:TE)(t:TA):TE:=λσ H Q=>to σ H λx H1=>tyV K T x H1/\t σ H1 λxs H2=>r x xs H2 Q
variable{o e:Expr}{es:List Expr}{to:TE}{t:TA}{name:Str}{apos cpos:Pos}{T id:String}{r:V->List V->Hp->VK->Prop}
def Vr(pa:PlainAttrs T)(slot:Slot T name id)(hty:typeOf (.builtin id)=pure (.type "method_descriptor"))(hm:MtR X id r)(ho:PE X o to)(ha:PA X (e::es) t)
 (hbase:attributeBase o name X.env (eval o X.env)=eval o X.env:=by rfl)
 (hfew:((backTo cpos (starEach (e::es) X.env)).all (λx=>!x.1)&&(backToKw cpos (keywordEach [] X.env)).all (λx=>x.1.isSome)
  && decide ((e::es).length+([]:List Keyword).length+(if([]:List Keyword).isEmpty then 0 else 1)<30))=true:=by rfl)
 (hline:(apos.endLine==cpos.line)=true:=by rfl) (hs:starEach (e::es) X.env=(false,eval e X.env)::starEach es X.env:=by rfl) (hplain:(backTo cpos (starEach es X.env)).any (·.1)=false:=by rfl):
 PE X (.Call (.Attribute o name apos) (e::es) [] cpos) (tBM X.K T r to t):=by
 intro pins s σ H Q I h;refine wpAny_Call_method_late hbase hfew hline rfl (thn (ho pins s σ H _ I h) λv s1 ⟨x,H1,I1,r1,ty,q1⟩=>?_);obtain⟨h1,h2⟩:=Si I1 r1 ty;refine⟨T,id,pa,slot,hty,h1,h2,?_⟩;have hA:=ha cpos pins s1 σ H1 _ I1 q1;rw[hs]at hA ⊢;refine Calls.callWith_builtin (by show(false||(backTo cpos (starEach es X.env)).any (·.1))=false;rw[hplain]<;>rfl) (Calls.evalArgs_plain ?_);exact thn hA λus s2 ⟨vs,H2,I2,r2,q2⟩=>hm pins s2 σ H2 x vs v us Q I2 r1 r2 q2
end
def MtM(X:Cx)(id:String)(r:V->List V->Hp->VK->Prop):Prop:=
 ∀(pins:List (Addr×Obj)) (s:Shared) (σ:St) (H:Hp) (x:V) (xs:List V) (v:Value) (us:List Value) (Q:VK),Inv X pins σ H s->RelV x v->Vals xs us->r x xs H Q ->
   wpAny (model X.prog X.w) X.A (call (.builtin id) (v::us)) (EP X pins σ Q) X.xe s
def Vals.one:∀{x:V} {us:List Value},Vals [x] us->∃u,us=[u]/\RelV x u
 |_,_,.cons r .nil=>⟨_,rfl,r⟩
theorem Vals.rep{xs:List V}{us:List Value}(h:Vals xs us):∀k:Nat,Vals (List.replicate k xs).flatten (List.replicate k us).flatten
 |0=>.nil
 |k+1=>by
  rw[replicate_succ,replicate_succ,flatten_cons,flatten_cons];exact Vals.append h (Vals.rep h k)
theorem I0(its:List Value):∀(k:Nat) (acc:List Value),
 List.foldl (λx1 x2=>x1++x2) acc.toArray (List.replicate k its.toArray)=(acc++(List.replicate k its).flatten).toArray
 |0,acc=>by simp
 |k+1,acc=>by
  have e:acc.toArray++its.toArray=(acc++its).toArray:=by simp
  have e2:(acc++its)++(List.replicate k its).flatten=acc++(List.replicate (k+1) its).flatten:=by
   rw[replicate_succ,flatten_cons,append_assoc]
  rw[<- e2,<- I0 its k (acc++its),<- e,replicate_succ,List.foldl_cons]
section
variable{X:Cx}{pins:List (Addr×Obj)}{σ:St}{H:Hp}{s:Shared}{l b:Addr}{xs ys zs:List V}
def Inv.lset{its its':List Value}{n:Nat}{f:Array Value->Array Value}{t':Nat}(I:Inv X pins σ H s)(hH:H l=some (.lst xs))
 (e:s.heap.get? l=some { cls:=.type "list",data:=.seq its.toArray n }) (hf:f its.toArray=its'.toArray) (hv:Vals ys its') (hz:ys.length<=sizeLine):
 Inv X pins σ (upd H l (.lst ys)) { s with heap:=s.heap.update l (Obj.mapSeq f),toks:=t' }:=by
 have q:=PySem.IsL.update e f;rw[hf]at q;refine I.write (x:=l) (e:=l) (by rw[hH];exact trivial) (.inl rfl) (λb' u hb hu=>(Heap.get?_update_other s.heap (Obj.mapSeq f) (Ne.symm hb)).trans hu) ⟨_,q⟩ ?_;exact⟨hz,its',_,hv,q⟩
def Inv.lnew{its:List Value}{t':Nat}(I:Inv X pins σ H s)(hv:Vals ys its)(hz:ys.length<=sizeLine):
 Inv X pins σ (upd H s.heap.objs.size (.lst ys)) { s with heap:=s.heap.push { cls:=.type "list",data:=.seq its.toArray },toks:=t' }:=
 I.laid (λ_ _ q=>Heap.get?_push_of_some _ q) (le_refl _) ⟨hz,its,0,hv,Heap.get?_push_size _ rfl⟩
theorem Inv.fresh(I:Inv X pins σ H s):H s.heap.objs.size=none:=I.hok.fresh (le_refl _)
def Inv.lstM(I:Inv X pins σ H s)(hH:H l=some (.lst xs)):xs.length<=sizeLine/\∃(its:List Value) (n:Nat),Vals xs its/\xs.length=its.length/\s.heap.get? l=some { cls:=.type "list",data:=.seq its.toArray n }:=by
 obtain⟨z,its,n,r,e⟩:=I.hok l _ hH;exact⟨z,its,n,r,r.length,e⟩
def JZ{n:Nat}(h:n<=sizeLine):Builtin.List.listTooLong n=false:=by
 unfold Builtin.List.listTooLong;exact decide_eq_false (by omega)
end
section
variable{X:Cx}
def Ka:V->List V->Hp->VK->Prop:=λx vs H Q=>∃l xs y,x=.ref l/\vs=[y]/\H l=some (.lst xs)/\xs.length<sizeLine/\Q .non (upd H l (.lst (xs++[y])))
def Hu:MtM X "list.append" Ka:=by
 intro pins s σ H x vs v us Q I rx rv h;obtain⟨l,xs,y,rfl,rfl,hH,hz,q⟩:=h;cases rx;obtain⟨u,rfl,ru⟩:=rv.one;obtain⟨z,its,n,r,hl,e⟩:=I.lstM hH;refine call_meets F.slot_list_append ⟨_,e,rfl⟩ F.entry_list_append (F.args_list_append_2 _ _) (PySem.list_append l its.toArray n u (by rw[size_toArray];omega)) ⟨e,?_⟩;refine⟨.non,_,I.lset (its':=its++[u]) hH e (by simp) (r.append (.cons ru .nil)) ?_,rfl,q⟩;rw[length_append,List.length_singleton];omega
def Qi:V->List V->Hp->VK->Prop:=λx vs H Q=>∃l b xs zs,x=.ref l/\vs=[.ref b]/\H l=some (.lst xs)/\H b=some (.lst zs)/\xs.length+zs.length<=sizeLine/\Q .non (upd H l (.lst (xs++zs)))
def WX:MtM X "list.extend" Qi:=by
 intro pins s σ H x vs v us Q I rx rv h;obtain⟨l,b,xs,zs,rfl,rfl,hH,hB,hz,q⟩:=h;cases rx;obtain⟨u,rfl,ru⟩:=rv.one;cases ru;obtain⟨z,its,n,r,hl,e⟩:=I.lstM hH;obtain⟨z2,its2,n2,r2,hl2,e2⟩:=I.lstM hB;have hsz:its.toArray.size+its2.toArray.size<=sizeLine:=by rw[size_toArray,size_toArray];omega
 have hlong:¬ (!its.toArray.isEmpty&&Builtin.List.listTooLong (its.toArray.size+its2.toArray.size))=true:=by
  rw[JZ hsz,Bool.and_false];exact Bool.false_ne_true
 refine call_meets F.slot_list_extend ⟨_,e,rfl⟩ F.entry_list_extend (F.args_list_extend_2 _ _)
  (AutoSeq1.list_extend_list_list_0 l its.toArray n b its2.toArray n2 hlong (by rw[size_toArray];omega) (by omega)) ⟨e,e2,?_⟩
 refine⟨.non,_,I.lset (its':=its++its2) hH e (by simp) (r.append r2) ?_,rfl,q⟩;rw[length_append];omega
def OA:R2:=λx y H Q=>∃l b xs zs,x=.ref l/\y=.ref b/\H l=some (.lst xs)/\H b=some (.lst zs)/\xs.length+zs.length<=sizeLine/\∀p,H p=none->Q (.ref p) (upd H p (.lst (xs++zs)))
def Um:OpR X (binaryOp .Add) OA:=by
 intro pins s σ H x y v u Q I rx ry h;obtain⟨l,b,xs,zs,rfl,rfl,hH,hB,hz,q⟩:=h;cases rx;cases ry;obtain⟨z,its,n,r,hl,e⟩:=I.lstM hH;obtain⟨z2,its2,n2,r2,hl2,e2⟩:=I.lstM hB;refine PySem.P.add_list e e2 ?_ (by rw[size_toArray,size_toArray];omega);have ea:its.toArray++its2.toArray=(its++its2).toArray:=by simp
 rw[ea];exact⟨.ref _,_,I.lnew (t':=s.toks) (r.append r2) (by rw[length_append];omega),rfl,q _ I.fresh⟩
def O7:R2:=λx y H Q=>∃l k xs,x=.ref l/\y=.int k/\H l=some (.lst xs)/\-(2^63)<=k/\k<2^63/\xs.length*k.toNat<=sizeLine /\
 ∀p,H p=none->Q (.ref p) (upd H p (.lst (List.replicate k.toNat xs).flatten))
def SC{α:Type}(xs:List α)(k:Nat):(List.replicate k xs).flatten.length=k*xs.length:=by
 induction k with
 |zero=>simp
 |succ k ih=>rw[replicate_succ,flatten_cons,length_append,ih,Nat.succ_mul,Nat.add_comm]
def Ue:OpR X (binaryOp .Mult) O7:=by
 intro pins s σ H x y v u Q I rx ry h;obtain⟨l,k,xs,rfl,rfl,hH,h1,h2,hz,q⟩:=h;cases rx;obtain⟨t,rfl⟩:=ry;obtain⟨z,its,n,r,hl,e⟩:=I.lstM hH;have hlen:its.toArray.size*k.toNat<=sizeLine:=by rw[size_toArray,<- hl];exact hz
 have hcap:¬ its.toArray.size*k.toNat>(2^63-1)/8:=by
  have:(sizeLine:Nat)<=(2^63-1)/8:=by decide
  omega
 have hfit:¬ (!Builtin.List.listFitsIndex k)=true:=by
  rw[fitsIndex_both h1 h2];exact Bool.false_ne_true
 have hlong:¬ Builtin.List.listTooLong (its.toArray.size*k.toNat)=true:=by
  rw[JZ hlen];exact Bool.false_ne_true
 have hnew:List.foldl (λx1 x2=>x1++x2) #[] (List.replicate (if its.toArray.isEmpty=true then 0 else k.toNat) its.toArray)=(List.replicate k.toNat its).flatten.toArray:=by
  have f0:∀m:Nat,List.foldl (λx1 x2=>x1++x2) #[] (List.replicate m its.toArray)=(List.replicate m its).flatten.toArray:=λm=>by
   have:=I0 its m [];rw[List.nil_append]at this;exact this
  rw[f0];cases its with
  |nil=>simp
  |cons a r'=>rw[if_neg (by simp)]
 refine wpAny_binaryOp_repeat_ref (T:="list") (U:="int") (by decide) ⟨_,e,rfl⟩ (λs'=>typeIs_int s' k t) noFill_list_mul F.fills_int_mul F.slot_int_rmul repeat_list F.slot_int_index.lookup
  (call_meets F.slot_int_rmul (typeIs_int s k t) F.entry_int_rmul (F.args_int_rmul_2 _ _) (int___rmul___int_list k t l its.toArray n)
   ⟨e,rfl,⟨_,e,rfl⟩,call_meets F.slot_list_mul ⟨_,e,rfl⟩ F.entry_list_mul (F.args_list_mul_2 _ _) (AutoListH.list___mul___list_int_3 l its.toArray n k t hfit hcap hlong) ⟨e,?_⟩⟩)
 rw[hnew];exact⟨.ref _,_,I.lnew (t':=s.toks) (r.rep k.toNat) (by rw[SC,Nat.mul_comm];exact hz),rfl,q _ I.fresh⟩
end
end L2
namespace Att
open PySem PySem.W PySem.Calls PyProof.Rows
def Gn{P:Params}{h:Heap}:∀(ns:List Int) (vs:List Value),WellAll P h vs (ns.map WData.int)->IntsAre vs ns:=by
 intro ns
 induction ns with
 |nil=>
  intro vs w;rw[map_nil]at w;cases w;exact .nil
 |cons n ns ih=>
  intro vs w;rw[map_cons]at w;cases w with
  |cons a b=>
   cases a;exact .cons _ _ (ih _ b)
def MX{l:OpenLaw}{n:Nat}(hn:l.most=some n){P:Params}{h:Heap}{args:List WData}{vals:List Value}
 (hpre:l.row.toRowW.claim.pre args=true) (hwl:WellAll P h vals args):
 ∃a vs ns,vals=[Value.ref a]/\args=[WData.list (ns.map WData.int)]/\h.get? a=some { cls:=.type "list",data:=.seq vs.toArray }/\IntsAre vs ns/\ns.length<=n:=by
 have hsh:WShape.hasAll [] args [.list .int]=true:=(pre_splitW hpre).1;have hc:l.pre.holds [] { args:=args }=true:=(pre_splitW hpre).2;obtain⟨d,r,rfl,h1,h2⟩:=hasAllW_cons hsh;obtain rfl:=hasAllW_nil h2;obtain⟨xs,rfl,h3⟩:=hasW_list h1;obtain⟨ns,rfl⟩:=items_int h3;have hlen:ns.length<=n:=by
  unfold OpenLaw.pre at hc;have h4:(WTm.not (.lt (.lit (.int (n:Int))) (.len (.arg 0)))).holds [] { args:=[.list (ns.map .int)] }=true:=by
   have h4:=(holds_andW hc).1;rw[hn]at h4;exact h4
  have h5:=condW_of h4 (w_not (w_lt w_lit (w_len_list (w_arg rfl))));rw[length_map]at h5;refine Nat.le_of_not_lt λq=>?_;have q':(n:Int)<((ns.length:Nat):Int):=by omega
  first
   |(rw[decide_eq_true q']at h5;exact absurd h5 (by decide))
   |(simp at h5;omega)
 cases hwl with
 |cons w1 w2=>
  cases w2;cases w1 with
  |list ho hall=>exact⟨_,_,ns,rfl,rfl,ho,Gn ns _ hall,hlen⟩
def Mo(l:OpenLaw)(args:List WData):l.row.toRowW.claim.post args (.bool true) args=true:=
 postW_of (r:=l.row.toRowW) (X:=(true==true))
  (show WShape.has [] (.bool true) .bool=true by first|rfl|decide|simp[WShape.has,WShape.arms,WShape.armsAll])
  (show(WTm.eq .res (.lit (.bool true))).value [] { args:=args,res:=some (.bool true),after:=args }=some (.bool (true==true))from w_eq_bool (w_res rfl) w_lit) rfl
def attach_call{l:OpenLaw}{n:Nat}{q:Program}{loose:List Str}{XP:(Str->Option Value)->Heap->Prop}{YP:World->Heap->Prop}{d:DefRec}
 (hn:l.most=some n) (hdf:d.params.defaults=[])
 (call:∀(w:World) (s₀ s₁:Shared) (mg mb:Str->Option Value) (fa:Addr) (o:Obj) (pm cd doc:Value) (a:Addr) (vs:List Value) (ns:List Int),
  Ground q loose [] XP w s₀ mg mb s₁.heap->YP w s₁.heap ->
  s₁.heap.get? fa=some o->o.data=.func (docDef d.name d.params d.body d.scope pm cd doc)->s₁.heap.CodeRec cd d.name->mg d.name=some (.ref fa) ->
  s₁.heap.get? a=some { cls:=.type "list",data:=.seq vs.toArray }->IntsAre vs ns->ns.length<=n->s₁.gens=#[] ->
  codeAny (model l.prog w) callerA (.call (.ref fa) ⟨[.ref a],[]⟩) (λr s'=>r=.ok (.ret (.bool true))/\OldK s₁.heap s'.heap/\s'.os=s₁.os/\AllBare s'.gens) s₁):
 WalkO q loose XP YP l.row.toRowW d [] (λf vs=>PySem.call f vs):=by
 intro w s₀ s₁ mg mb G Y fa o pm cd doc dV kV ho hd hcd hD hmg hg args vals as hpre hlay hrd hwl hlo;obtain rfl:dV=.none:=Dflts.none hD hdf;obtain rfl:kV=.none:=Dflts.noKw hD;obtain⟨a,vs,ns,rfl,rfl,hobj,hints,hlen⟩:=MX hn hpre hwl;refine enter_call (codeAny_mono (call w s₀ s₁ mg mb fa o pm cd doc a vs ns G Y ho (fd_plain hd) hcd hmg hobj hints hlen hg) λr s' hq=>?_);obtain⟨rfl,h2,h3,h4⟩:=hq;exact⟨.inl ⟨.bool true,.bool true,[],rfl,λ_=>rfl,.bool true,Mo l _,λ_=>⟨List.Pairwise.nil,λ_ hm=>(nomatch hm)⟩⟩,h2,h3,h4⟩
end Att
namespace L2
open PySem PySem.Spec PyProof.Rows
theorem Hk:∀{vs:List Value} {ns:List Int},IntsAre vs ns->Vals (ns.map V.int) vs
 |_,_,.nil=>.nil
 |_,_,.cons n t h=>.cons ⟨t,rfl⟩ (Hk h)
def Bk(s:Stmt):Arguments:=match s with
 |.FunctionDef _ a _ _ _ _ _ _ _ _=>a
 |_=>{ posonlyargs:=[],args:=[],vararg:=none,kwonlyargs:=[],kw_defaults:=[],kwarg:=none,defaults:=[] }
def Aq(s:Stmt):List Stmt:=match s with
 |.FunctionDef _ _ b _ _ _ _ _ _ _=>b
 |_=>[]
def A6(s:Stmt):Scope:=match s with
 |.FunctionDef _ _ _ _ _ _ sc _ _ _=>sc
 |_=>{ kind:=.function,names:=[],isGenerator:=false,isCoroutine:=false }
abbrev CX0:CXT:=λ_ _ _ _ _ _=>False
abbrev E0:XK:=λ_ _ _=>False
def Vt{X:Cx}:K6 CX0 X E0:=λ_ _ _ _ _ _ _ h=>h.elim
structure Fun(K:PySem.W.Frag)(x qual:Str)(st:Stmt)(f:Addr)(fd:FuncData):Prop where
 ex:∃(oc:Value) (od:Option Addr) (kV doc pm:Value) (an:Option Addr) (cdv ct:Value) (osl:Array (Option Value)),
  fd=PySem.W.fnOf x qual (Bk st) (Aq st) (A6 st) .none kV doc pm an cdv ct/\K.lookup f=some ⟨oc,od,.func fd,osl⟩/\PySem.W.codeIn K cdv qual=true
 kp:PySem.W.keepIn K (.ref f)=true
section
variable{P:Program}{w:World}{K:PySem.W.Frag}{mg:Str->Option Value}{base:Heap}
def Fun.ok{x qual:Str}{st:Stmt}{f:Addr}{fd:FuncData}{N ps:List Str}{k:Nat}{sp:Sp}(F:Fun K x qual st f fd)(S:FnScope N ps (A6 st))(len:∀vs H Q E,sp vs H Q E->vs.length=ps.length)
 (hbody:∀(cdv:Value) (A:Around) (outer:List Env) (s:Shared) (H:Hp) (vs:List V) (Q:VK) (E:XK),Room k (A.deeper (envOfC qual (A6 st) s.heap.objs.size f cdv))->sp vs H Q E ->
  ∃t,PSs (E2 CX0 P w K mg base N qual (A6 st) f cdv A outer s H E).nox (Aq st) t/\t { nx:=λ_ H'=>Q .non H',rt:=Q } (start N vs) H):FnOk P w K mg base CX0 (k+1) f fd ps sp:=by
 obtain⟨oc,od,kV,doc,pm,an,cdv,ct,osl,rfl,lk,hcd⟩:=F.ex;refine Pm lk hcd S len λA outer s H vs Q E hr hsp=>?_;obtain⟨t,h,q⟩:=hbody cdv A outer s H vs Q E hr hsp;exact⟨t,h.nox,q⟩
def Fun.binds{x qual:Str}{st:Stmt}{f:Addr}{fd:FuncData}{ps:List Str}(F:Fun K x qual st f fd)
 (h:∀(kV doc pm:Value) (an:Option Addr) (cdv ct:Value) (us:List Value),us.length=ps.length->bindArgs (PySem.W.fnOf x qual (Bk st) (Aq st) (A6 st) .none kV doc pm an cdv ct) ⟨us,[]⟩=pure (ps.zip us)):Binds K fd ps []:=by
 obtain⟨oc,od,kV,doc,pm,an,cdv,ct,osl,rfl,lk,hcd⟩:=F.ex;exact .all (h kV doc pm an cdv ct)
def V5{x qual:Str}{st:Stmt}{f:Addr}{oc:Value}{od an:Option Addr}{osl:Array (Option Value)}{kV doc pm cdv ct:Value}(l:K.lookup f=some ⟨oc,od,.func (PySem.W.fnOf x qual (Bk st) (Aq st) (A6 st) .none kV doc pm an cdv ct),osl⟩)
 (c:PySem.W.codeIn K cdv qual=true) (k:PySem.W.keepIn K (.ref f)=true):Fun K x qual st f (PySem.W.fnOf x qual (Bk st) (Aq st) (A6 st) .none kV doc pm an cdv ct):=⟨⟨oc,od,kV,doc,pm,an,cdv,ct,osl,rfl,l,c⟩,k⟩
end
def Pk{A:Around}{k:Nat}(hr:Room k A):A.units+1<cLine:=Nat.lt_of_le_of_lt (Nat.add_le_add_left (by decide:1<=64) _) hr.units
def Hm{n:Nat}(h:n<=1000):n<sizeLine:=Nat.lt_of_le_of_lt h (by decide)
section
variable{κ:Type}[DecidableEq κ]
def Ck(kvs:List (κ×V))(k:κ):Option V:=(kvs.find? λkv=>decide (kv.1=k)).map (·.2)
def BY(kvs:List (κ×V))(k:κ)(v:V):List (κ×V):=
 if(kvs.any λkv=>decide (kv.1=k))=true then kvs.map (λkv=>if kv.1=k then(kv.1,v)else kv)else kvs++[(k,v)]
def DR{p:κ×V}{r:List (κ×V)}{k:κ}(e:p.1=k):Ck (p::r) k=some p.2:=by simp[Ck,find?_cons,e]
def DS{p:κ×V}{r:List (κ×V)}{k:κ}(e:¬ p.1=k):Ck (p::r) k=Ck r k:=by simp[Ck,find?_cons,e]
theorem Iy(k:κ):∀kvs:List (κ×V),(kvs.any λkv=>decide (kv.1=k))=(Ck kvs k).isSome
 |[]=>rfl
 |p::r=>by
  rw[any_cons];by_cases e:p.1=k
  .simp only[DR e,decide_eq_true e,Bool.true_or,Option.isSome_some]
  .rw[DS e,decide_eq_false e,Bool.false_or];exact Iy k r
def Du(kvs:List (κ×V))(k:κ)(v:V):(BY kvs k v).length<=kvs.length+1:=by
 unfold BY;split
 .rw[length_map];omega
 .rw[length_append,length_cons,length_nil];omega
def RelO.isSome_eq{o:Option V}{u:Option Value}(r:RelO o u):o.isSome=u.isSome:=by
 cases o with
 |none=>cases u with
  |none=>rfl
  |some _=>exact(show False from r).elim
 |some _=>cases u with
  |none=>exact(show False from r).elim
  |some _=>rfl
def KV.val{kvs:List (κ×V)}{vs:List (κ×Value)}(r:KV kvs vs)(k:κ):RelO (Ck kvs k) (valueAt vs k):=by
 unfold KV at r
 induction r with
 |nil=>exact True.intro
 |@cons p q ps qs h t ih=>
  obtain⟨h1,h2⟩:=h;by_cases e:p.1=k
  .have e':q.1=k:=h1.symm.trans e;have b:valueAt (q::qs) k=some q.2:=by simp[valueAt,find?_cons,e']
   rw[DR e,b];exact h2
  .have e':¬ q.1=k:=λz=>e (h1.trans z);have b:valueAt (q::qs) k=valueAt qs k:=by simp[valueAt,find?_cons,e']
   rw[DS e,b];exact ih
theorem KV.any{kvs:List (κ×V)}{vs:List (κ×Value)}(r:KV kvs vs)(k:κ):(kvs.any λkv=>decide (kv.1=k))=vs.any λkv=>decide (kv.1=k):=by
 unfold KV at r
 induction r with
 |nil=>rfl
 |cons h t ih=>rw[any_cons,any_cons,ih,h.1]
def KV.repl{kvs:List (κ×V)}{vs:List (κ×Value)}(r:KV kvs vs)(k:κ){y:V}{u:Value}(ry:RelV y u):
 KV (kvs.map λkv=>if kv.1=k then(kv.1,y)else kv) (vs.map λkv=>if kv.1=k then(kv.1,u)else kv):=by
 unfold KV at r ⊢
 induction r with
 |nil=>exact .nil
 |@cons p q ps qs h t ih=>
  rw[map_cons,map_cons];refine .cons ?_ ih;obtain⟨h1,h2⟩:=h;by_cases e:p.1=k
  .rw[if_pos e,if_pos (h1.symm.trans e)];exact⟨h1,ry⟩
  .rw[if_neg e,if_neg (λz=>e (h1.trans z))];exact⟨h1,h2⟩
def KV.put{kvs:List (κ×V)}{vs:List (κ×Value)}(r:KV kvs vs)(k:κ){y:V}{u:Value}(ry:RelV y u):KV (BY kvs k y) (stored vs k u):=by
 unfold BY stored;rw[r.any k];by_cases e:(vs.any λkv=>decide (kv.1=k))=true
 .rw[if_pos e,if_pos e];exact r.repl k ry
 .rw[if_neg e,if_neg e];exact Paired.snoc r ⟨rfl,ry⟩
theorem KV.length{kvs:List (κ×V)}{vs:List (κ×Value)}(r:KV kvs vs):kvs.length=vs.length:=Paired.length r
end
def Ij{P:Program}{w:World}{k:Key}{u:Value}(r:RelV (kV k) u):(An P w).is k u=true:=by
 cases k with
 |inl i=>obtain⟨t,e⟩:=(show ∃t,u=Value.int i t from r);subst e;exact KB P w i t
 |inr x=>obtain⟨t,e⟩:=(show ∃t,u=Value.str x t from r);subst e;exact KA P w x t
theorem Hy{P:Program}{w:World}:∀{ks:List Key} {us:List Value},Vals (ks.map kV) us->ItemsAre (An P w) ks us
 |[],_,r=>by rw[map_nil]at r;cases r;exact .nil
 |k::ks,_,r=>by
  rw[map_cons]at r;cases r with
  |cons h t=>exact .cons (Ij h) (Hy t)
abbrev KT(H:Hp):List (List Key×V)->List (List Key×Addr×Value)->Prop:=Paired λp q=>p.1=q.1/\H q.2.1=some (.tup (p.1.map kV))/\RelV p.2 q.2.2
def KT.val{H:Hp}{kvs:List (List Key×V)}{xs:List (List Key×Addr×Value)}(r:KT H kvs xs)(k:List Key):RelO (Ck kvs k) ((atKey xs k).map (·.2)):=by
 induction r with
 |nil=>exact True.intro
 |@cons p q ps qs h t ih=>
  obtain⟨h1,_,h2⟩:=h;by_cases e:p.1=k
  .have e':q.1=k:=h1.symm.trans e;have b:atKey (q::qs) k=some q.2:=by simp[atKey,find?_cons,e']
   rw[DR e,b];exact h2
  .have e':¬ q.1=k:=λz=>e (h1.trans z);have b:atKey (q::qs) k=atKey qs k:=by simp[atKey,find?_cons,e']
   rw[DS e,b];exact ih
def KT.repl{H:Hp}{kvs:List (List Key×V)}{xs:List (List Key×Addr×Value)}(r:KT H kvs xs)(k:List Key){y:V}{u:Value}(ry:RelV y u):
 KT H (kvs.map λkv=>if kv.1=k then(kv.1,y)else kv) (xs.map (putAt k u)):=by
 induction r with
 |nil=>exact .nil
 |@cons p q ps qs h t ih=>
  rw[map_cons,map_cons];refine .cons ?_ ih;obtain⟨h1,h2,h3⟩:=h;unfold putAt;by_cases e:p.1=k
  .rw[if_pos e,if_pos (h1.symm.trans e)];exact⟨h1,h2,ry⟩
  .rw[if_neg e,if_neg (λz=>e (h1.trans z))];exact⟨h1,h2,h3⟩
def KT.put{H:Hp}{kvs:List (List Key×V)}{xs:List (List Key×Addr×Value)}(r:KT H kvs xs)(k:List Key){b:Addr}{y:V}{u:Value}(hb:H b=some (.tup (k.map kV)))(ry:RelV y u):
 KT H (BY kvs k y) (storedH xs k b u):=by
 have e:(kvs.any λkv=>decide (kv.1=k))=(atKey xs k).isSome:=by
  rw[Iy,(r.val k).isSome_eq,Option.isSome_map]
 unfold BY storedH;rw[e];by_cases q:(atKey xs k).isSome=true
 .rw[if_pos q,if_pos q];exact r.repl k ry
 .rw[if_neg q,if_neg q];exact Paired.snoc r ⟨rfl,hb,ry⟩
def KT.keeps{H H':Hp}{kvs:List (List Key×V)}{xs:List (List Key×Addr×Value)}(r:KT H kvs xs)(ht:∀b ys,H b=some (.tup ys)->H' b=some (.tup ys)):KT H' kvs xs:=
 Paired.mapP r λ_ _ z=>⟨z.1,ht _ _ z.2.1,z.2.2⟩
section
variable{P:Program}{w:World}{H:Hp}{h:Heap}{a:Addr}
def PQ{u:HO}(ok:HOk P w H h)(e:Rd H a u):ObjOk P w H h a u:=e.ok ok
def M5{kvs:List (Key×V)}(ok:HOk P w H h)(e:Rd H a (.dK kvs)):kvs.length<=sizeLine/\(a==sysModules)=false/\∃vs,KV kvs vs/\h.DictOf (An P w) a vs:=
 show ObjOk P w H h a (.dK kvs)from PQ ok e
def Po{kvs:List (Key×V)}(ok:HOk P w H h)(e:H a=some (.dK kvs)):kvs.length<=sizeLine/\(a==sysModules)=false/\∃vs,KV kvs vs/\h.DictOf (An P w) a vs:=M5 ok (.inl e)
def Jh{ks:List Key}(ok:HOk P w H h)(e:H a=some (.tup (ks.map kV))):(tupleKind (An P w)).is h ks a:=by
 obtain⟨_,its,r,o,h1,h2,⟨n,h3⟩,_⟩:=(show ObjOk P w H h a (.tup (ks.map kV))from ok a _ e)
 exact⟨o,its.toArray,n,h1,h2,h3,by simpa using Hy r⟩
def M4{kvs:List (List Key×V)}(ok:HOk P w H h)(e:Rd H a (.dT kvs)):kvs.length<=sizeLine/\(a==sysModules)=false /\
 ∃xs,KT H kvs xs/\h.DictOfH (tupleKind (An P w)) a xs:=by
 obtain⟨z,y,xs,r,o,es,ep,h1,h2,h3,h4,h5⟩:=(show ObjOk P w H h a (.dT kvs)from PQ ok e)
 refine⟨z,y,xs,r,o,es,ep,h1,h2,h3,h4,λx hx=>?_,h5⟩;have all:∀{l:List (List Key×V)} {m:List (List Key×Addr×Value)},KT H l m->∀x∈m,(tupleKind (An P w)).is h x.1 x.2.1:=by
  intro l m q
  induction q with
  |nil=>intro x hx;exact nomatch hx
  |@cons p q ps qs hq t ih=>
   intro x hx;rcases mem_cons.mp hx with e|hx
   .subst e;exact Jh ok (by rw[<- hq.1];exact hq.2.1)
   .exact ih x hx
 exact all r x hx
def WJ{kvs:List (List Key×V)}(ok:HOk P w H h)(e:H a=some (.dT kvs)):kvs.length<=sizeLine/\(a==sysModules)=false /\
 ∃xs,KT H kvs xs/\h.DictOfH (tupleKind (An P w)) a xs:=M4 ok (.inl e)
end
def DGet(H:Hp)(a:Addr)(y:V)(r:Option V):Prop:=
 (∃kvs k,Rd H a (.dK kvs)/\y=kV k/\r=Ck kvs k)∨∃kvs k b,Rd H a (.dT kvs)/\y=.ref b/\H b=some (.tup (k.map kV))/\r=Ck kvs k
def DPut(H:Hp)(a:Addr)(y v:V)(H':Hp):Prop:=
 (∃kvs k,H a=some (.dK kvs)/\y=kV k/\kvs.length<sizeLine/\H'=upd H a (.dK (BY kvs k v))) ∨
 ∃kvs k b,H a=some (.dT kvs)/\y=.ref b/\H b=some (.tup (k.map kV))/\kvs.length<sizeLine/\H'=upd H a (.dT (BY kvs k v))
theorem DGet.k{H:Hp}{a:Addr}{kvs:List (Key×V)}{k:Key}(e:H a=some (.dK kvs)):DGet H a (kV k) (Ck kvs k):=.inl ⟨kvs,k,.inl e,rfl,rfl⟩
theorem DPut.k{H:Hp}{a:Addr}{kvs:List (Key×V)}{k:Key}{v:V}(e:H a=some (.dK kvs))(hl:kvs.length<sizeLine):DPut H a (kV k) v (upd H a (.dK (BY kvs k v))):=.inl ⟨kvs,k,e,rfl,hl,rfl⟩
section
variable{X:Cx}{pins:List (Addr×Obj)}{σ:St}{H:Hp}{s:Shared}{a:Addr}{y v:V}{u r:Value}{o:Option V}{A:Around}{E:Value->Shared->Prop}
def Inv.big(I:Inv X pins σ H s):sysModules<s.heap.objs.size:=by
 have h:mainGlobals<s.heap.objs.size:=(I.mod.glob.keeps I.bk).lt;exact lt_trans (by decide) h
def NE{Q:Value->Shared->Prop}(hu:A.units+1<cLine)(I:Inv X pins σ H s)(g:DGet H a y (some v))(ry:RelV y u)(h:∀w' s',Inv X pins σ H s'->RelV v w'->Q w' s'):
 wpAny (model X.prog X.w) A (getItem (.ref a) u) Q E s:=by
 rcases g with⟨kvs,k,e,ey,l⟩|⟨kvs,k,b,e,ey,eb,l⟩
 .subst ey;obtain⟨z,hd,vs,rel,dd⟩:=M5 I.hok e;obtain⟨w',hw,rw'⟩:=RelO.some_of (v:=v) (o:=valueAt vs k) (by rw[l];exact rel.val k);exact wpAny_getItem_of (Ij ry) dd.mapOf hw (h w' _ (I.tok _) rw')
 .subst ey;cases(show u=Value.ref b from ry);obtain⟨z,hd,xs,rel,dd⟩:=M4 I.hok e;obtain⟨w',hw,rw'⟩:=RelO.some_of (v:=v) (o:=(atKey xs k).map (·.2)) (by rw[l];exact rel.val k);obtain⟨p,hp,hp2⟩:=Ye hw;refine wpAny_getItem_heap (tupleKind_room_in1 hu) (Jh I.hok eb) dd hp ?_;rw[hp2];exact h w' _ (I.tok _) rw'
def Hc{h':Heap}{t':Nat}{ob:HO}(I:Inv X pins σ H s)(mu:Mut (H a))(hs:Heap.SameBut a s.heap h')(he:∃q,h'.get? a=some q)(new:ObjOk X.prog X.w (upd H a ob) h' a ob):
 Inv X pins σ (upd H a ob) { s with heap:=h',toks:=t' }:=
 I.write (x:=a) (e:=a) mu (.inl rfl) (λb q hb z=>(hs.2 b hb).trans z) he new
def NB{P:Program}{w:World}{H':Hp}{h':Heap}{kvs:List (Key×V)}{vs:List (Key×Value)}(z:kvs.length<=sizeLine)(hd:(a==sysModules)=false)(rel:KV kvs vs)(dd:h'.DictOf (An P w) a vs):
 ObjOk P w H' h' a (.dK kvs):=⟨z,hd,vs,rel,dd⟩
def ND{H':Hp}{Q:Unit->Shared->Prop}(hu:A.units+1<cLine)(I:Inv X pins σ H s)(g:DPut H a y v H')(ry:RelV y u)(rv:RelV v r)(h:∀s',Inv X pins σ H' s'->Q () s'):
 wpAny (model X.prog X.w) A (setItem (.ref a) u r) Q E s:=by
 rcases g with⟨kvs,k,e,ey,l,eH⟩|⟨kvs,k,b,e,ey,eb,l,eH⟩
 .subst ey eH;obtain⟨z,hd,vs,rel,dd⟩:=Po I.hok e;have hz:vs.length<=sizeLine:=by rw[<- rel.length];exact z
  have hl:(BY kvs k v).length<=sizeLine:=by have:=Du kvs k v;omega
  refine wpAny_setItem_pairs (hsz:=hz) (Ij ry) dd λh' dd' hs=>h _ ?_;have he:∃q,h'.get? a=some q:=let ⟨q,_,_,hq,_⟩:=dd';⟨q,hq⟩
  exact Hc I (by rw[e];exact True.intro) hs he (NB hl hd (rel.put k rv) dd')
 .subst ey eH;cases(show u=Value.ref b from ry);obtain⟨z,hd,xs,rel,dd⟩:=WJ I.hok e;have hz:xs.length<=sizeLine:=by rw[<- Paired.length rel];exact z
  have hl:(BY kvs k v).length<=sizeLine:=by have:=Du kvs k v;omega
  refine wpAny_setItem_heap (hsz:=hz) (tupleKind_room_in1 hu) (Jh I.hok eb) dd λh' dd' hs=>h _ ?_;obtain⟨q,es,ep,hq,h2,h3,h4,_,h5⟩:=dd';refine Hc I (by rw[e];exact True.intro) hs ⟨q,hq⟩ ⟨hl,hd,_,(rel.put k eb rv).keeps λc ys ec=>?_,q,es,ep,hq,h2,h3,h4,h5⟩;rw[A4 (Vx ec e (λz=>nomatch z))];exact ec
end
def P9(i:Expr):Prop:=∀ov iv,subscripted i false ov iv=operate [ov,iv] (getItem ov iv)
def Q3{prog:Program}{w:World}{A:Around}{E:Value->Shared->Prop}{s:Shared}{env:Env}{value slice:Expr}{pos:Pos}{T id:String}{Q:Value->Shared->Prop}
 (hl:typeLookup (.type T) "__getitem__"=pure (some (.builtin id))) (hs:P9 slice)
 (h:wpAny (model prog w) A (eval value env) (λo s₁=>wpAny (model prog w) A (eval slice env) (λi s₂=>s₂.TypeIs o T/\wpAny (model prog w) A (getItem o i) Q E s₂) E s₁) E s):
 wpAny (model prog w) A (eval (.Subscript value slice pos) env) Q E s:=by
 refine Subscript_ (wpAny_mono h (λo s₁ h₁=>wpAny_mono h₁ (λi s₂ h₂=>?_) λ_ _ x=>x) λ_ _ x=>x);obtain⟨hT,h₂⟩:=h₂;unfold subscriptTail;refine wpAny_bind ?_;rw[getitemInPython_of_ne hT.not_modules];refine wpAny_bind (wpAny_specialOf hT hl ?_);have fin:wpAny (model prog w) A (subscripted slice false o i) (λr s₃=>wpAny (model prog w) A (letTemporaryGo value o r >>= λ_=>pure r) Q E s₃) E s₂:=by
  rw[hs o i];exact wpAny_operating (wpAny_mono h₂ (λr s₃ h₃=>wpAny_bind (wpAny_letTemporaryGo (wpAny_pure h₃))) λ_ _ x=>x)
 first
  |exact wpAny_pure (wpAny_bind fin)
  |exact wpAny_bind (wpAny_pure (wpAny_bind fin))
  |exact wpAny_bind fin
def KK{X:Cx}{pins:List (Addr×Obj)}{σ:St}{H:Hp}{s:Shared}{a:Addr}{y:V}{o:Option V}(I:Inv X pins σ H s)(g:DGet H a y o):s.TypeIs (.ref a) "dict":=by
 rcases g with⟨kvs,k,e,_,_⟩|⟨kvs,k,b,e,_,_,_⟩
 .obtain⟨_,_,vs,_,dd⟩:=M5 I.hok e;exact dd.typeIs
 .obtain⟨_,_,xs,_,dd⟩:=M4 I.hok e;exact dd.typeIs
def LI(td ty:TE):TE:=λσ H Q=>td σ H λx H1=>ty σ H1 λy H2=>∃a v,x=.ref a/\DGet H2 a y (some v)/\Q v H2
def LP(td ty tv:TE):TS:=λD σ H=>tv σ H λv H1=>td σ H1 λx H2=>ty σ H2 λy H3=>∃a H4,x=.ref a/\DPut H3 a y v H4/\D.nx σ H4
section
variable{X:Cx}{o i e value:Expr}{pos pos' tpos:Pos}{td ty tv:TE}
def Rr(hu:X.A.units+1<cLine)(ho:PE X o td)(hi:PE X i ty)(hs:P9 i):PE X (.Subscript o i pos) (LI td ty):=by
 intro pins s σ H Q I h;refine Q3 PySem.F.slot_dict_getitem.lookup hs (thn (ho pins s σ H _ I h) λu s1 ⟨x,H1,I1,rx,q1⟩=>thn (hi pins s1 σ H1 _ I1 q1) λiv s2 ⟨y,H2,I2,ry,a,v,ex,g,q2⟩=>?_);subst ex;obtain rfl:u=Value.ref a:=rx;exact⟨KK I2 g,NE hu I2 g ry λw' s3 I3 rw'=>⟨v,H2,I3,rw',q2⟩⟩
def RZ(hu:X.A.units+1<cLine)(ho:PE X o td)(hi:PE X i ty)(hv:PE X value tv)(hs:swapsWith value (some (.Subscript o i pos')) pos.line X.env=pure false):
 PS X (.Assign [.Subscript o i pos'] value pos) (LP td ty tv):=by
 intro pins s σ H D I h;refine wpAny_Assign_Subscript (thn (hv pins s σ H _ I h) λr s1 ⟨v,H1,I1,rv,q1⟩=>thn (ho pins s1 σ H1 _ I1 q1) λu s2 ⟨x,H2,I2,rx,q2⟩=>thn (hi pins s2 σ H2 _ I2 q2) λiv s3 ⟨y,H3,I3,ry,a,H4,ex,g,q3⟩=>?_) hs;subst ex;obtain rfl:u=Value.ref a:=rx;exact ND hu I3 g ry rv λs4 I4=>⟨σ,H4,I4,q3⟩
end
def P1{P:Program}{w:World}{H:Hp}(h:Heap)(hb:sysModules<h.objs.size):ObjOk P w H (h.push { cls:=.type "dict",data:=.dict #[] }) h.objs.size (.dK []):=
 ⟨zero_le _,beq_eq_false_iff_ne.mpr (Ne.symm (ne_of_lt hb)),[],.nil,Heap.DictOf.new h⟩
def F5:List (TE×TE)->St->Hp->(List (V×V)->Hp->Prop)->Prop
 |[],_,H,Q=>Q [] H
 |(tk,tv)::r,σ,H,Q=>tk σ H λx H1=>tv σ H1 λy H2=>F5 r σ H2 λps H3=>Q ((x,y)::ps) H3
abbrev VV:List (V×V)->List (Value×Value)->Prop:=Paired λp q=>RelV p.1 q.1/\RelV p.2 q.2
def PPs(X:Cx)(pos:Pos)(keys:List (Option Expr))(values:List Expr)(trs:List (TE×TE)):Prop:=
 ∀(pins:List (Addr×Obj)) (s:Shared) (σ:St) (H:Hp) (Q:List (V×V)->Hp->Prop),Inv X pins σ H s->F5 trs σ H Q ->
   wpAny (model X.prog X.w) X.A (evalPairs (pairTrees keys values X.env pos)) (λvs s'=>∃ps H',Inv X pins σ H' s'/\VV ps vs/\Q ps H') X.xe s
def Rb{X:Cx}{pos:Pos}:PPs X pos [] [] []:=λpins s σ H Q I h=>pairTrees_nil_walk ⟨[],H,I,.nil,h⟩
def OS{X:Cx}{pos:Pos}{k v:Expr}{ks:List (Option Expr)}{vs:List Expr}{tk tv:TE}{trs:List (TE×TE)}(hk:PE X k tk)(hv:PE X v tv)(hr:PPs X pos ks vs trs):
 PPs X pos (some k::ks) (v::vs) ((tk,tv)::trs):=λpins s σ H Q I h=>
 pairTrees_cons_walk (thn (hk pins s σ H _ I h) λu s1 ⟨x,H1,I1,rx,q1⟩=>thn (hv pins s1 σ H1 _ I1 q1) λw2 s2 ⟨y,H2,I2,ry,q2⟩=>
  thn (hr pins s2 σ H2 _ I2 q2) λws s3 ⟨ps,H3,I3,rel,q3⟩=>⟨(x,y)::ps,H3,I3,.cons ⟨rx,ry⟩ rel,q3⟩)
def DB(kvs more:List (Key×V)):List (Key×V):=more.foldl (λacc kv=>BY acc kv.1 kv.2) kvs
def KV.merge:∀{more:List (Key×V)} {rs:List (Key×Value)} {kvs:List (Key×V)} {vs:List (Key×Value)},KV more rs->KV kvs vs->KV (DB kvs more) (merged vs rs):=by
 intro more rs kvs vs r;unfold KV at r
 induction r generalizing kvs vs with
 |nil=>intro q;exact q
 |@cons p q ps qs h t ih=>
  intro r0;have e:KV (BY kvs p.1 p.2) (stored vs q.1 q.2):=by
   have:=r0.put p.1 h.2;rw[<- h.1];exact this
  exact ih e
theorem F1:∀(more kvs:List (Key×V)),(DB kvs more).length<=kvs.length+more.length
 |[],kvs=>by show kvs.length<=kvs.length+0;omega
 |p::r,kvs=>by
  have h1:=F1 r (BY kvs p.1 p.2);have h2:=Du kvs p.1 p.2;show(DB (BY kvs p.1 p.2) r).length<=_;rw[length_cons];omega
theorem Gs{P:Program}{w:World}:∀{kvs:List (Key×V)} {ws:List (Value×Value)},VV (kvs.map λkv=>(kV kv.1,kv.2)) ws->∃rs,Carries (An P w) ws rs/\KV kvs rs
 |[],_,r=>by rw[map_nil]at r;cases r;exact⟨[],True.intro,.nil⟩
 |p::kvs,_,r=>by
  rw[map_cons]at r;cases r with
  |@cons a b as bs h t=>
   obtain⟨rs,c,q⟩:=Gs (P:=P) (w:=w) t;obtain⟨b1,b2⟩:=b;exact⟨(p.1,b2)::rs,⟨Ij h.1,rfl,c⟩,.cons ⟨rfl,h.2⟩ q⟩
def LH(trs:List (TE×TE)):TE:=λσ H Q=>∀p,H p=none->F5 trs σ (upd H p (.dK [])) λps H2=>H2 p=some (.dK [])/\∃kvs:List (Key×V),ps=kvs.map (λkv=>(kV kv.1,kv.2))/\kvs.length<=15/\Q (.ref p) (upd H2 p (.dK (DB [] kvs)))
def Rq{X:Cx}{pos:Pos}{keys:List (Option Expr)}{values:List Expr}{trs:List (TE×TE)}(h:PPs X pos keys values trs)(hall:keys.all (·.isSome)=true)(hl:keys.length=values.length)(h0:keys≠[])
 (h15:keys.length<=15):PE X (.Dict keys values pos) (LH trs):=by
 intro pins s σ H Q I q;have hn:=I.hok.fresh (le_refl s.heap.objs.size);have I1:=I.laid (a:=s.heap.objs.size) (o:=.dK []) (h':=s.heap.push { cls:=.type "dict",data:=.dict #[] }) (t':=s.toks) (λ_ _ q=>Heap.get?_push_of_some _ q) (le_refl _) (P1 s.heap I.big);refine wpAny_Dict_walk (knd:=An X.prog X.w) hall hl h0 h15 (thn (h pins _ σ _ _ I1 (q _ hn)) λws s2 ⟨ps,H2,I2,rel,e,kvs,ep,lk,q2⟩=>?_);subst ep;obtain⟨rs,c,rk⟩:=Gs (P:=X.prog) (w:=X.w) rel;obtain⟨z,hd,vs0,r0,dd⟩:=Po I2.hok e;cases r0;refine⟨rs,c,dd,λh' dd' hs=>⟨.ref s.heap.objs.size,_,?_,rfl,q2⟩⟩;have hz:(DB [] kvs).length<=sizeLine:=by
  have h1:=F1 kvs [];rw[length_nil]at h1;rw[sizeLine_eq];omega
 have he:∃q,h'.get? s.heap.objs.size=some q:=let ⟨q,_,_,hq,_⟩:=dd';⟨q,hq⟩
 exact Hc I2 (by rw[e];exact True.intro) hs he (NB hz hd (rk.merge .nil) dd')
def AL(cells:List (Str×Addr)):List (Str×NameKind)->List (Str×Addr)->List (Str×Addr)
 |[],acc=>acc
 |(n,k)::r,acc=>if k==.free then AL cells r ((n,(cells.lookup n).getD 0)::acc)else AL cells r acc
theorem ES{env:Env}(f:Str×NameKind->List (Str×Addr)->Sem (ForInStep (List (Str×Addr))))
 (hf:∀name kind cs,f (name,kind) cs=if(kind==NameKind.free)=true then(do let a <- cellOf env name;pure (ForInStep.yield ((name,a)::cs)))else pure (ForInStep.yield cs)):
 ∀(names:List (Str×NameKind)) (acc:List (Str×Addr)),(∀y∈names,y.2=.free->∃c,env.cells.lookup y.1=some c)->forIn names acc f=pure (AL env.cells names acc)
 |[],acc,_=>rfl
 |(n,k)::r,acc,hy=>by
   rw[List.forIn_cons,hf];have ih:=λa=>ES f hf r a λz hz=>hy z (mem_cons_of_mem _ hz);by_cases hk:(k==NameKind.free)=true
   .obtain⟨c,hc⟩:=hy (n,k) mem_cons_self (by simpa using hk);have hc:env.cells.lookup n=some c:=hc;have e1:cellOf env n=pure c:=by unfold cellOf;rw[hc]
    rw[if_pos hk,e1];show forIn r ((n,c)::acc) f=_;have e2:AL env.cells ((n,k)::r) acc=AL env.cells r ((n,c)::acc):=by
     rw[AL,if_pos hk,hc];rfl
    rw[ih,e2]
   .rw[if_neg hk];show forIn r acc f=_;have e2:AL env.cells ((n,k)::r) acc=AL env.cells r acc:=by
     rw[AL,if_neg hk]
    rw[ih,e2]
def Bj{scope:Scope}{env:Env}(h:∀y∈scope.names,y.2=.free->∃c,env.cells.lookup y.1=some c):closureFor scope env=pure (AL env.cells scope.names []):=by
 unfold closureFor;dsimp only;rw[ES _ (λname kind cs=>rfl) scope.names [] h];rfl
theorem Cg{cells:List (Str×Addr)}:∀{names:List (Str×NameKind)} {acc:List (Str×Addr)},(∀y∈names,y.2=.free->∃c,cells.lookup y.1=some c)->(∀x c,acc.lookup x=some c->cells.lookup x=some c) ->
 ∀x c,(AL cells names acc).lookup x=some c->cells.lookup x=some c
 |[],_,_,ha,x,c,e=>ha x c e
 |(n,k)::r,acc,hy,ha,x,c,e=>by
   unfold AL at e;have hr:∀y∈r,y.2=.free->∃c,cells.lookup y.1=some c:=λz hz=>hy z (mem_cons_of_mem _ hz);by_cases hk:(k==NameKind.free)=true
   .rw[if_pos hk]at e;refine Cg hr (λz d q=>?_) x c e;obtain⟨c0,hc0⟩:=hy (n,k) mem_cons_self (by simpa using hk);have hc0:cells.lookup n=some c0:=hc0;rw[lookup_cons]at q;by_cases hz:(z==n)=true
    .rw[hz,hc0]at q;have:z=n:=by simpa using hz
     subst this;simpa [hc0]using q
    .have hz':(z==n)=false:=by simpa using hz
     rw[hz']at q;exact ha z d q
   .rw[if_neg hk]at e;exact Cg hr ha x c e
theorem C2{cells:List (Str×Addr)}:∀{names:List (Str×NameKind)} {acc:List (Str×Addr)} {x:Str},((acc.lookup x).isSome=true∨(x,NameKind.free)∈names)->((AL cells names acc).lookup x).isSome=true
 |[],_,_,h=>h.elim id λz=>by cases z
 |(n,k)::r,acc,x,h=>by
   unfold AL;by_cases hk:(k==NameKind.free)=true
   .rw[if_pos hk];refine C2 ?_;by_cases hx:(x==n)=true
    .exact .inl (by rw[lookup_cons,hx];rfl)
    .have hx':(x==n)=false:=by simpa using hx
     rcases h with h|h
     .exact .inl (by rw[lookup_cons,hx'];exact h)
     .rcases mem_cons.mp h with h|h
      .cases h;simp at hx
      .exact .inr h
   .rw[if_neg hk];refine C2 ?_;rcases h with h|h
    .exact .inl h
    .rcases mem_cons.mp h with h|h
     .cases h;simp at hk
     .exact .inr h
def Bm:Nat->List (Str×NameKind)->List (Str×Addr)
 |_,[]=>[]
 |n,(x,k)::r=>if k==.cell then Bm (n+1) r++[(x,n)]else Bm n r
theorem BK:∀(names:List (Str×NameKind)) (n:Nat) (acc:List (Str×Addr)),cellsFrom n names acc=Bm n names++acc
 |[],_,_=>rfl
 |(x,k)::r,n,acc=>by
   unfold cellsFrom Bm;by_cases hk:(k==NameKind.cell)=true
   .rw[if_pos hk,if_pos hk,BK r (n+1),append_assoc];rfl
   .rw[if_neg hk,if_neg hk,BK r n]
theorem GB:∀(names:List (Str×NameKind)) (n:Nat) (x:Str) (c:Addr),(Bm n names).lookup x=some c->(x,NameKind.cell)∈names
 |[],_,_,_,e=>by cases e
 |(y,k)::r,n,x,c,e=>by
   unfold Bm at e;by_cases hk:(k==NameKind.cell)=true
   .rw[if_pos hk]at e;have hk':k=.cell:=by simpa using hk
    rw[lookup_append]at e;cases q:(Bm (n+1) r).lookup x with
    |some d=>exact mem_cons_of_mem _ (GB r _ x d q)
    |none=>
     rw[q]at e;simp only[none_or,lookup_cons]at e;by_cases hx:(x==y)=true
     .have:x=y:=by simpa using hx
      subst this;subst hk';exact mem_cons_self
     .have hx':(x==y)=false:=by simpa using hx
      rw[hx']at e;cases e
   .rw[if_neg hk]at e;exact mem_cons_of_mem _ (GB r n x c e)
theorem GC:∀(names:List (Str×NameKind)) (n:Nat) (x:Str),(x,NameKind.cell)∈names->∃c,(Bm n names).lookup x=some c
 |[],_,_,h=>by cases h
 |(y,k)::r,n,x,h=>by
   unfold Bm;by_cases hk:(k==NameKind.cell)=true
   .rw[if_pos hk,lookup_append];rcases mem_cons.mp h with h|h
    .obtain⟨rfl,rfl⟩:=Prod.mk.inj h;cases q:(Bm (n+1) r).lookup x with
     |some d=>exact⟨d,rfl⟩
     |none=>exact⟨n,by simp[lookup_cons]⟩
    .obtain⟨c,hc⟩:=GC r (n+1) x h;exact⟨c,by rw[hc];rfl⟩
   .rw[if_neg hk];rcases mem_cons.mp h with h|h
    .cases h;simp at hk
    .exact GC r n x h
def MB(scope:Scope)(C:Addr)(env:Env):Env:=
 { scope:=relabel scope env,locals:=C,globals:=env.globals,cells:=cellsFrom (C+1) scope.names (AL env.cells scope.names []),qual:=env.qual,func:=none,code:=env.code,frame:=env.frame,builtins:=env.builtins }
def HK{M:Model}{A:Around}{E:Value->Shared->Prop}{s:Shared}{scope:Scope}{cl:List (Str×Addr)}{env:Env}{Q:Env->Shared->Prop}
 (hQ:∀h',(∀b o,s.heap.get? b=some o->h'.get? b=some o)->h'.Ns s.heap.objs.size (λ_=>none)->(∀x c,(Bm (s.heap.objs.size+1) scope.names).lookup x=some c->h'.IsCell c none/\s.heap.objs.size<c) ->
  ((Bm (s.heap.objs.size+1) scope.names).Pairwise λx y=>x.2≠y.2) ->
  Q { scope:=scope,locals:=s.heap.objs.size,globals:=env.globals,cells:=cellsFrom (s.heap.objs.size+1) scope.names cl,qual:=env.qual,func:=none,code:=env.code,frame:=env.frame,builtins:=env.builtins } { s with heap:=h' }):
 wpAny M A (newFunctionEnv scope env.globals cl [] env.qual none .none (some env)) Q E s:=by
 simp only[newFunctionEnv,Option.isSome_some,if_true];refine wpAny_bind (wpAny_alloc ?_);refine wpAny_bind (wpAny_layCells _ (λname kind cells=>by cases hkc:kind==NameKind.cell<;>simp[hkc]) _ _ _ _ ?_);have ok:=cellsFrom_ok scope.names (s.heap.push { cls:=.type "dict",data:=.dict #[] }) (s.heap.objs.size+1) [] ⟨λ_ _ hm=>(nomatch hm),List.Pairwise.nil⟩ (by rw[Heap.size_push];exact le_refl _);rw[Heap.size_push,BK,append_nil]at ok;rw[show({ s with heap:=s.heap.push { cls:=.type "dict",data:=.dict #[] } }:Shared).heap.objs.size=s.heap.objs.size+1 from Heap.size_push ..];refine wpAny_bind (wpAny_pure (wpAny_pure ?_));exact hQ _ (λb o e=>pushCells_keeps _ _ b o (Heap.get?_push_of_some _ e)) ((Heap.Ns.new s.heap (.type "dict")).keeps (pushCells_keeps _ _)) (λx c hc=>⟨(ok.empty x c (mem_of_lookup hc)).1,(ok.empty x c (mem_of_lookup hc)).2⟩) ok.apart
theorem Ht:∀{names:List (Str×NameKind)} {x:Str} {k k':NameKind},(names.map (·.1)).Nodup->(x,k)∈names->(x,k')∈names->k=k'
 |[],_,_,_,_,h,_=>by cases h
 |(y,q)::r,x,k,k',nd,h,h'=>by
   have nd:(y::r.map (·.1)).Nodup:=nd;obtain⟨n1,n2⟩:=nodup_cons.mp nd;have out:∀{z:NameKind},(y,z)∈r->False:=λm=>n1 (mem_map.mpr ⟨_,m,rfl⟩);rcases mem_cons.mp h with e|e<;>rcases mem_cons.mp h' with e'|e'
   .cases e;cases e';rfl
   .cases e;exact(out e').elim
   .cases e';exact(out e).elim
   .exact Ht n2 e e'
theorem F0{env:Env}{x:Str}:∀{names:List (Str×NameKind)},names.lookup x=some .free ->
 (names.map λ(n,k)=>if(k==NameKind.free&&env.scope.kind==.function&&env.kindOf n==some .cell)then(n,NameKind.cell)else(n,k)).lookup x=some .cell ∨
 (names.map λ(n,k)=>if(k==NameKind.free&&env.scope.kind==.function&&env.kindOf n==some .cell)then(n,NameKind.cell)else(n,k)).lookup x=some .free
 |[],h=>by simp at h
 |(n,k)::r,h=>by
   have ih:=@F0 env x r;show List.lookup x ((if(k==NameKind.free&&env.scope.kind==.function&&env.kindOf n==some .cell)=true then(n,NameKind.cell)else(n,k))::_)=_∨List.lookup x ((if(k==NameKind.free&&env.scope.kind==.function&&env.kindOf n==some .cell)=true then(n,NameKind.cell)else(n,k))::_)=_;cases hx:x==n with
   |true=>
    simp only[lookup_cons,hx]at h;cases h;by_cases hc:(NameKind.free==NameKind.free&&env.scope.kind==.function&&env.kindOf n==some .cell)=true
    .rw[if_pos hc];exact .inl (by simp only[lookup_cons,hx])
    .rw[if_neg hc];exact .inr (by simp only[lookup_cons,hx])
   |false=>
    simp only[lookup_cons,hx]at h;by_cases hc:(k==NameKind.free&&env.scope.kind==.function&&env.kindOf n==some .cell)=true
    .rw[if_pos hc];simp only[lookup_cons,hx];exact ih h
    .rw[if_neg hc];simp only[lookup_cons,hx];exact ih h
theorem FC{env:Env}{x:Str}:∀{names:List (Str×NameKind)},
 ((names.map λ(n,k)=>if(k==NameKind.free&&env.scope.kind==.function&&env.kindOf n==some .cell)then(n,NameKind.cell)else(n,k)).lookup x=some .cell ∨
 (names.map λ(n,k)=>if(k==NameKind.free&&env.scope.kind==.function&&env.kindOf n==some .cell)then(n,NameKind.cell)else(n,k)).lookup x=some .free) ->
 names.lookup x=some .cell∨names.lookup x=some .free
 |[],h=>by simp at h
 |(n,k)::r,h=>by
   have ih:=@FC env x r;have h:List.lookup x ((if(k==NameKind.free&&env.scope.kind==.function&&env.kindOf n==some .cell)=true then(n,NameKind.cell)else(n,k))::_)=_∨List.lookup x ((if(k==NameKind.free&&env.scope.kind==.function&&env.kindOf n==some .cell)=true then(n,NameKind.cell)else(n,k))::_)=_:=h;cases hx:x==n with
   |true=>
    by_cases hc:(k==NameKind.free&&env.scope.kind==.function&&env.kindOf n==some .cell)=true
    .have hk:k=.free:=by
      have:=(Bool.and_eq_true _ _ ▸ (Bool.and_eq_true _ _ ▸ hc).1:(k==NameKind.free)=true/\_).1;simpa using this
     exact .inr (by simp only[lookup_cons,hx,hk])
    .rw[if_neg hc]at h;simp only[lookup_cons,hx]at h ⊢;exact h
   |false=>
    simp only[lookup_cons,hx];refine ih ?_;by_cases hc:(k==NameKind.free&&env.scope.kind==.function&&env.kindOf n==some .cell)=true
    .rw[if_pos hc]at h;simp only[lookup_cons,hx]at h;exact h
    .rw[if_neg hc]at h;simp only[lookup_cons,hx]at h;exact h
def cCx(X:Cx)(N':List Str)(scope:Scope)(s:Shared)(H:Hp)(ex:List Addr):Cx:=
 { X with N:=N',s₀:=s,H₀:=H,env:=MB scope s.heap.objs.size X.env,outer:=X.stack,ex:=ex,fn:=λx=>decide ((x,NameKind.cell)∈scope.names),pn:=[],xe:=λ_ _=>False }
structure CSc(X:Cx)(scope:Scope)(fr:List Str)(ix:List Nat):Prop where
 kind:scope.kind=.function
 nd:(scope.names.map (·.1)).Nodup
 free:(scope.names.all λy=>y.2 != .free||X.env.kindOf y.1==some .cell||X.env.kindOf y.1==some .free)=true
 frs:(fr.all λx=>scope.names.lookup x==some .free)=true
 ixs:fr.map some=ix.map λi=>X.N[i]?
 loc:(scope.names.all λy=>y.2 != .local||scope.names.lookup y.1==some .local)=true
def E5(n:Nat)(ix:List Nat)(σ:St):St:=List.replicate n none++ix.map λi=>(σ[i]?).join
section
variable{X:Cx}{scope:Scope}{fr loc:List Str}{ix:List Nat}{pins:List (Addr×Obj)}{σ:St}{H:Hp}{s:Shared}
def CSc.outer(S:CSc X scope fr ix){y:Str×NameKind}(hy:y∈scope.names)(e:y.2=.free):X.env.kindOf y.1=some .cell∨X.env.kindOf y.1=some .free:=by
 have h:=all_eq_true.mp S.free y hy;rw[e]at h;simpa using h
def CSc.clos(S:CSc X scope fr ix)(ok:X.Ok):∀y∈scope.names,y.2=.free->∃c,X.env.cells.lookup y.1=some c:=λy hy e=>ok.has y.1 (S.outer hy e)
def CC(S:CSc X scope fr ix)(ok:X.Ok){n:Nat}{x:Str}{c:Addr}(e:(cellsFrom n scope.names (AL X.env.cells scope.names [])).lookup x=some c):
 (Bm n scope.names).lookup x=some c∨X.env.cells.lookup x=some c:=by
 rw[BK,lookup_append]at e;cases q:(Bm n scope.names).lookup x with
 |some d=>rw[q]at e;exact .inl e
 |none=>
  rw[q]at e;exact .inr (Cg (S.clos ok) (λ_ _ z=>by simp at z) x c e)
def GH(S:CSc X scope fr ix)(I:Inv X pins σ H s){ex:List Addr}(hex:∀b∈ex,FpOk X pins H b){h':Heap}(hk:∀b o,s.heap.get? b=some o->h'.get? b=some o)(hn:h'.Ns s.heap.objs.size λ_=>none)
 (ho:∀x c,(Bm (s.heap.objs.size+1) scope.names).lookup x=some c->h'.IsCell c none/\s.heap.objs.size<c) (ha:(Bm (s.heap.objs.size+1) scope.names).Pairwise λx y=>x.2≠y.2) (hlt:∀b∈ex,b<s.heap.objs.size):
 Inv (cCx X (loc++fr) scope s H ex) [] (E5 loc.length ix σ) H { s with heap:=h' }:=by
 have old:∀x c,X.env.cells.lookup x=some c->c<s.heap.objs.size:=λx c e=>let ⟨v,z⟩:=I.cell x c e;z.lt
 have lenix:fr.length=ix.length:=by simpa using congrArg List.length S.ixs
 refine⟨⟨I.ok.mod,?_,I.ok.glob,I.ok.blt,le_refl _,?_,?_,?_,I.ok.hd,I.ok.frames,.inl rfl,?_,I.bs,le_trans I.ok.bsz I.sz,?_,?_,I.stack,I.stkFree⟩,rfl,I.bare,Un.kept hk,⟨_,hn,?_⟩,?_,I.hok.fresh (le_refl _),?_,?_,I.hok.kept hk,?_⟩
 .exact S.kind
 .intro x y c e1 e2;rcases CC S I.ok e1 with a|a<;>rcases CC S I.ok e2 with b|b
  .exact name_of_addr ha (PySem.mem_of_lookup a) (PySem.mem_of_lookup b)
  .exact absurd (lt_trans (ho x c a).2 (old y c b)) (lt_irrefl _)
  .exact absurd (lt_trans (ho y c b).2 (old x c a)) (lt_irrefl _)
  .exact I.ok.inj x y c a b
 .intro x hx;rcases FC hx with e|e
  .exact isSome_iff_exists.mp (PySem.W.cellsFrom_some _ _ _ (.inl e))
  .exact isSome_iff_exists.mp (PySem.W.cellsFrom_some _ _ _ (.inr (C2 (.inr (PySem.mem_of_lookup e)))))
 .intro x c hf e;have hf:(x,NameKind.cell)∈scope.names:=of_decide_eq_true hf;obtain⟨d,hd⟩:=GC scope.names (s.heap.objs.size+1) x hf;have e':(cellsFrom (s.heap.objs.size+1) scope.names (AL X.env.cells scope.names [])).lookup x=some c:=e;rw[BK,lookup_append,hd]at e';cases e';exact le_of_lt (ho x _ hd).2
 .intro b hb;refine⟨ne_of_lt (hlt b hb),λx c e z=>?_⟩;rcases CC S I.ok e with a|a
  .exact absurd (lt_trans (ho x c a).2 (by rw[z];exact hlt b hb)) (lt_irrefl _)
  .exact(hex b hb).2.2.2.2.1 x c a z
 .intro b o e hb;rcases(hex b hb).2.2.2.1 with z|z
  .exact I.ok.noex b o e z
  .exact absurd (lt_of_lt_of_le (Heap.lt_size (I.ok.bs b o e).1) z) (lt_irrefl _)
 .intro b hb hf;rcases mem_cons.mp (I.stkSub b hf)with z|z
  .exact(hex b hb).2.1 z
  .exact(hex b hb).2.2.1 z
 .intro i x v e1 e2 e3;have e1:(loc++fr)[i]?=some x:=e1;unfold E5 at e2;by_cases hi:i<loc.length
  .rw[List.getElem?_append_left (by simpa using hi),List.getElem?_replicate]at e2;split at e2<;>cases e2
  .have hi':loc.length<=i:=Nat.not_lt.mp hi;rw[List.getElem?_append_right (by simpa using hi')]at e2;rw[List.getElem?_append_right hi']at e1;rw[List.length_replicate,List.getElem?_map]at e2;generalize hj:i-loc.length=j at e1 e2;have e4:(fr.map some)[j]?=some (some x):=by rw[List.getElem?_map,e1];rfl
   rw[S.ixs,List.getElem?_map]at e4;cases q:ix[j]? with
   |none=>rw[q]at e2;cases e2
   |some k=>
    rw[q]at e2 e4;have e2:(σ[k]?).join=some v:=Option.some.inj e2;have e4:X.N[k]?=some x:=Option.some.inj e4;have e5:σ[k]?=some (some v):=by
     cases w:σ[k]? with
     |none=>rw[w]at e2;cases e2
     |some z=>rw[w]at e2;simpa using e2
    have hfx:=all_eq_true.mp S.frs x (mem_of_getElem? e1);have hfx:scope.names.lookup x=some .free:=by simpa using hfx
    have hmem:=PySem.mem_of_lookup hfx;have hout:=S.outer hmem rfl;obtain⟨m,hm,hl⟩:=I.loc;obtain⟨u,r,l⟩:=hl k x v e4 e5 (.inr hout);refine⟨u,r,.inr ⟨F0 hfx,?_⟩⟩;rcases l with⟨kk,_⟩|⟨kk,c,ec,z⟩
    .rcases hout with w|w
     .rw[kk]at w;cases w
     .rw[kk]at w;cases w
    .have own0:(Bm (s.heap.objs.size+1) scope.names).lookup x=none:=by
      cases w:(Bm (s.heap.objs.size+1) scope.names).lookup x with
      |none=>rfl
      |some d=>exact absurd (Ht S.nd (GB _ _ _ _ w) hmem) (by decide)
     have hc:(AL X.env.cells scope.names []).lookup x=some c:=by
      obtain⟨d,hd⟩:=isSome_iff_exists.mp (C2 (cells:=X.env.cells) (acc:=[]) (.inr hmem));have:=Cg (S.clos I.ok) (λ_ _ z=>by simp at z) x d hd;rw[ec]at this;cases this;exact hd
     refine⟨c,?_,z.keeps hk⟩;show(cellsFrom (s.heap.objs.size+1) scope.names (AL X.env.cells scope.names [])).lookup x=some c;rw[BK,lookup_append,own0,hc];rfl
 .intro x c e;rcases CC S I.ok e with a|a
  .exact⟨_,(ho x c a).1⟩
  .obtain⟨v,z⟩:=I.cell x c a;exact⟨v,z.keeps hk⟩
 .intro x c e;rcases CC S I.ok e with a|a
  .exact I.hok.fresh (le_of_lt (ho x c a).2)
  .exact I.freeC x c a
 .intro p hp;cases hp
 .unfold E5;show _=(loc++fr).length;simp[lenix]
end
section
variable{prog:Program}{w:World}{A:Around}{R:Result->Shared->Prop}{s:Shared}
def FQ{elt target iter:Expr}{ifs:List Expr}{scope:Scope}{pos:Pos}{it acc:Value}{env:Env}(I:Nat->Shared->Prop)
 (turn:∀n s,I n s->wpAny (model prog w) A (pyNext it) (λr s₁=>match r with
  |none=>R (.ok .next) s₁
  | some v=>wpAny (model prog w) A (letOwnedTupleGo target it v) (λ_ s₁=>wpAny (model prog w) A (assign target env v) (λ_ s₂=>
   wpAny (model prog w) A (forIn ifs true λc r=>if r=true then do let ok <- isTrue c env (eval c env);pure (ForInStep.yield ok)else pure (ForInStep.yield r)) (λok s₃=>
    if ok=true then wpAny (model prog w) A (eval elt env) (λx s₄=>
     wpAny (model prog w) A (call (.builtin "list.append") [acc,x]) (λ_ s₅=>∃m,m<n/\I m s₅) (λ_ _=>False) s₄) (λ_ _=>False) s₃
    else ∃m,m<n/\I m s₃) (λ_ _=>False) s₂) (λ_ _=>False) s₁) (λ_ _=>False) s₁) (λ_ _=>False) s)
 (n:Nat) (h:I n s):
 codeAny (model prog w) A (.compLoop (.ListComp elt [⟨target,iter,ifs,0⟩] scope pos) 0 it acc env) R s:=by
 refine codeAny_loop rfl I (λn s hI=>?_) n h;show wpAny _ A ((compTurn (.ListComp elt [⟨target,iter,ifs,0⟩] scope pos) 0 it acc env).onRaise (λx=>do noteFrame x env;theTreesLotGoes x)) _ _ s;refine wpAny_noted ?_;rw[compTurn_list];refine wpAny_bind (wpAny_standAt (wpAny_bind (wpAny_mono (turn n s hI) (λr s₁ h₁=>?_) λ_ _ h'=>h'.elim)));cases r with
 |none=>exact wpAny_pure h₁
 |some v=>
  refine wpAny_bind (wpAny_mono h₁ (λ_ s₁ h₁=>?_) λ_ _ h'=>h'.elim);refine wpAny_bind (wpAny_mono h₁ (λ_ s₂ h₂=>wpAny_bind (wpAny_mono h₂ (λok s₃ h₃=>?_) λ_ _ h'=>h'.elim)) λ_ _ h'=>h'.elim);cases ok with
  |false=>exact wpAny_pure ⟨rfl,h₃⟩
  |true=>
   exact wpAny_bind (wpAny_bind (wpAny_mono h₃ (λx s₄ h₄=>wpAny_bind (wpAny_mono h₄ (λ_ s₅ h₅=>wpAny_pure (wpAny_pure ⟨rfl,h₅⟩)) λ_ _ h'=>h'.elim)) λ_ _ h'=>h'.elim))
end
def PF(X:Cx)(ifs:List Expr)(t:TT):Prop:=
 ∀(pins:List (Addr×Obj)) (s:Shared) (σ:St) (H:Hp) (Q:Bool->Hp->Prop),Inv X pins σ H s->t σ H Q ->
   wpAny (model X.prog X.w) X.A (forIn ifs true λc r=>if r=true then do let ok <- isTrue c X.env (eval c X.env);pure (ForInStep.yield ok)else pure (ForInStep.yield r)) (TP X pins σ Q) X.xe s
def Nb:TT:=λ_ H Q=>Q true H
def UU{X:Cx}:PF X [] Nb:=λpins s σ H Q I h=>wpAny_tests_nil ⟨H,I,h⟩
def UT{X:Cx}{c:Expr}{t:TT}(h:PT X c t):PF X [c] t:=λpins s σ H Q I q=>wpAny_tests_one (h pins s σ H Q I q)
def Pp(J:It)(D:Addr)(σ0:St)(H0:Hp)(g:TG)(tf:TT)(te:TE)(Q:VK):Prop:=∃W:Nat->Nat->St->List V->Hp->Prop,
 (∃m,W 0 m σ0 [] (upd H0 D (.lst [])))/\∀i m σ ys H,W i m σ ys H->H D=some (.lst ys)/\
  ((J.stop i H/\Q (.ref D) H)∨(J.go i H/\ys.length<sizeLine/\∃N:St->List V->Hp->Prop,(∀σ' ys' H',N σ' ys' H'->∃m',m'<m/\W (i+1) m' σ' ys' H')/\
    ∀x H',J.yld i H x H'->g x σ H' λσ2 H2=>tf σ2 H2 λb H3=>
     if b=true then te σ2 H3 λv H4=>H4 D=some (.lst ys)/\N σ2 (ys++[v]) (upd H4 D (.lst (ys++[v])))
     else N σ2 ys H3))
def EV(n:Nat)(ix:List Nat)(wi:TI)(g:TG)(tf:TT)(te:TE):TE:=λσ H Q=>wi σ H λJ H1=>∀D,H1 D=none->Pp J D (E5 n ix σ) H1 g tf te Q
section
variable{X:Cx}
def K2{pins:List (Addr×Obj)}{σ:St}{H:Hp}{s:Shared}{D:Addr}{ys:List V}{x:V}{u:Value}{Q:Value->Shared->Prop}{E:Value->Shared->Prop}(I:Inv X pins σ H s)(hD:H D=some (.lst ys))(r:RelV x u)(hz:ys.length<sizeLine)
 (h:∀v s',Inv X pins σ (upd H D (.lst (ys++[x]))) s'->Q v s'):wpAny (model X.prog X.w) X.A (call (.builtin "list.append") [.ref D,u]) Q E s:=by
 have I':=I.wish λ_ _=>False;have q:=Hu (X:=X.wish λ_ _=>False) pins s σ H (.ref D) [x] (.ref D) [u] (λv H'=>H'=upd H D (.lst (ys++[x]))) I' rfl (.cons r .nil) ⟨D,ys,x,rfl,rfl,hD,hz,rfl⟩;refine wpAny_mono q (λv s' ⟨v',H',I2,_,e⟩=>?_) λ_ _ z=>False.elim z;subst e;exact h v s' I2.unwish
def Rs{elt tg iter:Expr}{ifs:List Expr}{scope:Scope}{pos:Pos}{loc fr:List Str}{ix:List Nat}{wi:TI}{g:TG}{tf:TT}{te:TE}(hc:X.calm=true)(S:CSc X scope fr ix)(hi:PI X tg iter wi)
 (hg:∀s H ex,PG (cCx X (loc++fr) scope s H ex) tg g) (hf:∀s H ex,PF (cCx X (loc++fr) scope s H ex) ifs tf) (he:∀s H ex,PE (cCx X (loc++fr) scope s H ex) elt te)
 (hs:∀x,foldedSetIterable iter X.env x=pure x:=by intro _;rfl):PE X (.ListComp elt [⟨tg,iter,ifs,0⟩] scope pos) (EV loc.length ix wi g tf te):=by
 intro pins s σ H Q I h;rw[eval_ListComp];have hnames:∀y∈scope.names,y.2=.local->scope.names.lookup y.1=some .local:=λy hy e=>by
  have:=all_eq_true.mp S.loc y hy;rw[e]at this;simpa using this
 refine wpAny_comprehension_free (use:=none) rfl hs (Bj (S.clos I.ok)) S.kind hnames (thn (hi pins s σ H _ I h) λv s1 h1=>thn h1 λitv s2 h2=>?_);obtain⟨it,fp,tn,J,H2,rfl,I2,T,st2,f2,hW⟩:=h2;refine wpAny_newObj_type ?_;have fresh2:H2 s2.heap.objs.size=none:=I2.hok.fresh (le_refl _);have I3:=I2.lnew (its:=[]) (ys:=[]) (t':=s2.toks) .nil (zero_le _);obtain⟨W,⟨m0,w0⟩,turn⟩:=hW s2.heap.objs.size fresh2;have lt2:∀b∈fp,b<s2.heap.objs.size:=λb hb=>let ⟨o,e,_⟩:=T.obj 0 _ st2 b hb;Heap.lt_size e
 have f3:∀b∈fp,FpOk X pins (upd H2 s2.heap.objs.size (.lst [])) b:=λb hb=>⟨by rw[A4 (ne_of_lt (lt2 b hb))];exact(f2 b hb).1,(f2 b hb).2⟩
 have lt3:∀b∈fp,b<(s2.heap.push { cls:=.type "list",data:=.seq ([]:List Value).toArray }).objs.size:=λb hb=>by rw[Heap.size_push];exact lt_succ_of_lt (lt2 b hb)
 generalize hs3:({ s2 with heap:=s2.heap.push { cls:=.type "list",data:=.seq ([]:List Value).toArray } }:Shared)=s3 at *;have lt3:∀b∈fp,b<s3.heap.objs.size:=by rw[<- hs3];exact lt3
 have st3:tn 0 s3.heap:=T.keep _ _ _ st2 λb hb o e=>by rw[<- hs3];exact Heap.get?_push_of_some _ e
 refine HK λh' hk hn ho ha=>?_;have I4:=GH (loc:=loc) S I3 f3 hk hn ho ha lt3;have fpX:∀{H':Hp},(∀b∈fp,H' b=none)->∀b∈fp,FpOk (cCx X (loc++fr) scope s3 (upd H2 s2.heap.objs.size (.lst [])) fp) [] H' b:=λhn b hb=>
  ⟨hn b hb,(I4.ok.exf b hb).1,I4.ok.exfs b hb,.inl hb,(I4.ok.exf b hb).2,λp hp=>by cases hp⟩
 have loop:codeAny (model X.prog X.w) X.A (.compLoop (.ListComp elt [⟨tg,iter,ifs,0⟩] scope pos) 0 (.ref it) (.ref s2.heap.objs.size) (MB scope s3.heap.objs.size X.env))
  (compPost (model X.prog X.w) X.A X.xe none (EP X pins σ Q) (.ref s2.heap.objs.size) s3.heap.objs.size) { s3 with heap:=h' }:=by
  refine FQ (λn s'=>∃i σ' ys H',Inv (cCx X (loc++fr) scope s3 (upd H2 s2.heap.objs.size (.lst [])) fp) [] σ' H' s'/\tn i s'.heap/\(∀b∈fp,H' b=none)/\W i n σ' ys H') ?_ m0
   ⟨0,_,[],_,I4,T.keep _ _ _ st3 λb hb o e=>hk b o e,λb hb=>(f3 b hb).1,w0⟩
  rintro n s5 ⟨i,σ5,ys,H5,I5,st5,fr5,w5⟩;obtain⟨hD,w5⟩:=turn i n σ5 ys H5 w5;rcases w5 with⟨stop,qn⟩|⟨go,hz,N,hN,step⟩
  .refine thn (T.done (cCx X (loc++fr) scope s3 (upd H2 s2.heap.objs.size (.lst [])) fp) rfl rfl rfl hc i [] s5 σ5 H5 _ I5 (fpX fr5) st5 stop) λr s6 ⟨hr,I6⟩=>?_;subst hr;obtain⟨m,hm,_⟩:=I6.loc;refine⟨m,hm,λh'' hs=>?_⟩;have neC:∀b o,s3.heap.get? b=some o->b≠s3.heap.objs.size:=λb o e=>ne_of_lt (Heap.lt_size e);have un:=I6.base;refine⟨.ref s2.heap.objs.size,H5,I3.call' (s':={ s6 with heap:=h'' }) (ch:=fp) I6.os ⟨λb o e n hb hx=>?_,λb o e n hb hx=>?_,un.free,λb o e hx=>?_,un.tups,un.frzs,un.tbls⟩ ?_ I6.bare ?_,rfl,qn⟩
   .exact(hs.2 b (neC b o e)).trans (un.keep b o e n hb hx)
   .obtain⟨sl,q⟩:=un.slot b o e n hb hx;exact⟨sl,(hs.2 b (neC b o e)).trans q⟩
   .obtain⟨o',q⟩:=un.there b o e hx;exact⟨o',(hs.2 b (neC b o e)).trans q⟩
   .intro b ob e;have hfree:H5 s3.heap.objs.size=none:=I6.free;refine(I6.hok b ob e).stay (λc w' hc q=>(hs.2 c ?_).trans q) (λ_ q=>q) λ_ _ q=>q;intro z;rcases hc with hc|hc
    .rw[<- hc,z,hfree]at e;cases e
    .rw[z,hfree]at hc;cases hc
   .intro b hb;obtain⟨_,a2,_,a4,a5,a6⟩:=f3 b hb;exact⟨a4,a2,a5,a6⟩
  .refine thn (T.item (cCx X (loc++fr) scope s3 (upd H2 s2.heap.objs.size (.lst [])) fp) rfl rfl rfl hc i [] s5 σ5 H5 _ I5 (fpX fr5) st5 go) λr s6 ⟨u,hr,h6⟩=>?_;subst hr;refine thn h6 λ_ s7 ⟨x,H7,I7,r7,y7,st7,fr7⟩=>?_;have I7':=I7.pinned (fpX fr7) (T.obj _ _ st7);have keepI:∀{σ8:St} {H8:Hp} {s8:Shared},Inv (cCx X (loc++fr) scope s3 (upd H2 s2.heap.objs.size (.lst [])) fp) ([]++D8 fp s7.heap) σ8 H8 s8->tn (i+1) s8.heap/\∀b∈fp,H8 b=none:=λ{σ8 H8 s8} I8=>by
    refine⟨T.keep _ _ _ st7 λb hb o e=>(I8.pin (b,o) (mem_append_right _ (mem_append_right _ (Au hb e)))).1,λb hb=>?_⟩;obtain⟨o,e,d⟩:=T.obj _ _ st7 b hb;exact(I8.pin (b,o) (mem_append_right _ (mem_append_right _ (Au hb e)))).2.1
   refine thn (hg s3 (upd H2 s2.heap.objs.size (.lst [])) fp _ s7 σ5 H7 x u _ I7' r7 (step x H7 y7)) λ_ s8 ⟨σ8,H8,I8,q8⟩=>?_;refine thn (hf s3 (upd H2 s2.heap.objs.size (.lst [])) fp _ s8 σ8 H8 _ I8 q8) λb s9 ⟨H9,I9,q9⟩=>?_;cases b with
   |false=>
    rw[if_neg Bool.false_ne_true]at q9 ⊢;obtain⟨m',hm,w9⟩:=hN _ _ _ q9;exact⟨m',hm,i+1,σ8,ys,H9,I9.unpinned,(keepI I9).1,(keepI I9).2,w9⟩
   |true=>
    rw[if_pos rfl]at q9 ⊢;refine thn (he s3 (upd H2 s2.heap.objs.size (.lst [])) fp _ s9 σ8 H9 _ I9 q9) λe10 s10 ⟨v10,H10,I10,r10,hD10,n10⟩=>?_;obtain⟨m',hm,w10⟩:=hN _ _ _ n10;refine K2 (X:=cCx X (loc++fr) scope s3 (upd H2 s2.heap.objs.size (.lst [])) fp) I10 hD10 r10 hz λ_ s11 I11=>?_;exact⟨m',hm,i+1,σ8,_,_,I11.unpinned,(keepI I11).1,(keepI I11).2,w10⟩
 exact codeAny_compStart_list loop (T.self X.A 0 _ _ _ (T.keep _ _ _ st3 λb hb o e=>hk b o e) loop)
end
section
variable{X:Cx}
def M7{elt tg iter:Expr}{ifs:List Expr}{scope:Scope}{pos:Pos}{loc fr:List Str}{ix:List Nat}{g:TG}{tf:TT}{te:TE}{pins:List (Addr×Obj)}{σ:St}{Q:VK}{it:Addr}{fp:List Addr}{tn:Nat->Heap->Prop}{J:It}{H2:Hp}{s2:Shared}{E:Value->Shared->Prop}
 {RR:Value->Addr->Result->Shared->Prop} (hc:X.calm=true) (S:CSc X scope fr ix)
 (hg:∀s H ex,PG (cCx X (loc++fr) scope s H ex) tg g) (hf:∀s H ex,PF (cCx X (loc++fr) scope s H ex) ifs tf) (he:∀s H ex,PE (cCx X (loc++fr) scope s H ex) elt te)
 (I2:Inv X pins σ H2 s2) (T:Turn X.prog X.w X.K tg J fp it tn) (st2:tn 0 s2.heap) (f2:∀b∈fp,FpOk X pins H2 b) (hW:∀D,H2 D=none->Pp J D (E5 loc.length ix σ) H2 g tf te Q)
 (hfin:∀(s3 s6:Shared) (H5:Hp) (σ5:St) (D:Addr),Inv X pins σ (upd H2 D (.lst [])) s3->Inv (cCx X (loc++fr) scope s3 (upd H2 D (.lst [])) fp) [] σ5 H5 s6->(∀b∈fp,FpOk X pins (upd H2 D (.lst [])) b)->Q (.ref D) H5->RR (.ref D) s3.heap.objs.size (.ok .next) s6):
 wpAny (model X.prog X.w) X.A (newList []) (λacc s₃=>wpAny (model X.prog X.w) X.A (newFunctionEnv scope X.env.globals (AL X.env.cells scope.names []) [] X.env.qual none .none (some X.env)) (λcenv s₄=>
  codeAny (model X.prog X.w) X.A (.compStart (.ListComp elt [⟨tg,iter,ifs,0⟩] scope pos) 0 (.ref it) acc { cenv with scope:=relabel scope X.env }) (RR acc cenv.locals) s₄) E s₃) E s2:=by
 refine wpAny_newObj_type ?_;have fresh2:H2 s2.heap.objs.size=none:=I2.hok.fresh (le_refl _);have I3:=I2.lnew (its:=[]) (ys:=[]) (t':=s2.toks) .nil (zero_le _);obtain⟨W,⟨m0,w0⟩,turn⟩:=hW s2.heap.objs.size fresh2;have lt2:∀b∈fp,b<s2.heap.objs.size:=λb hb=>let ⟨o,e,_⟩:=T.obj 0 _ st2 b hb;Heap.lt_size e
 have f3:∀b∈fp,FpOk X pins (upd H2 s2.heap.objs.size (.lst [])) b:=λb hb=>⟨by rw[A4 (ne_of_lt (lt2 b hb))];exact(f2 b hb).1,(f2 b hb).2⟩
 have lt3:∀b∈fp,b<(s2.heap.push { cls:=.type "list",data:=.seq ([]:List Value).toArray }).objs.size:=λb hb=>by rw[Heap.size_push];exact lt_succ_of_lt (lt2 b hb)
 generalize hs3:({ s2 with heap:=s2.heap.push { cls:=.type "list",data:=.seq ([]:List Value).toArray } }:Shared)=s3 at *;have lt3:∀b∈fp,b<s3.heap.objs.size:=by rw[<- hs3];exact lt3
 have st3:tn 0 s3.heap:=T.keep _ _ _ st2 λb hb o e=>by rw[<- hs3];exact Heap.get?_push_of_some _ e
 refine HK λh' hk hn ho ha=>?_;have I4:=GH (loc:=loc) S I3 f3 hk hn ho ha lt3;have fpX:∀{H':Hp},(∀b∈fp,H' b=none)->∀b∈fp,FpOk (cCx X (loc++fr) scope s3 (upd H2 s2.heap.objs.size (.lst [])) fp) [] H' b:=λhn b hb=>
  ⟨hn b hb,(I4.ok.exf b hb).1,I4.ok.exfs b hb,.inl hb,(I4.ok.exf b hb).2,λp hp=>by cases hp⟩
 have loop:codeAny (model X.prog X.w) X.A (.compLoop (.ListComp elt [⟨tg,iter,ifs,0⟩] scope pos) 0 (.ref it) (.ref s2.heap.objs.size) (MB scope s3.heap.objs.size X.env))
  (RR (.ref s2.heap.objs.size) s3.heap.objs.size) { s3 with heap:=h' }:=by
  refine FQ (λn s'=>∃i σ' ys H',Inv (cCx X (loc++fr) scope s3 (upd H2 s2.heap.objs.size (.lst [])) fp) [] σ' H' s'/\tn i s'.heap/\(∀b∈fp,H' b=none)/\W i n σ' ys H') ?_ m0
   ⟨0,_,[],_,I4,T.keep _ _ _ st3 λb hb o e=>hk b o e,λb hb=>(f3 b hb).1,w0⟩
  rintro n s5 ⟨i,σ5,ys,H5,I5,st5,fr5,w5⟩;obtain⟨hD,w5⟩:=turn i n σ5 ys H5 w5;rcases w5 with⟨stop,qn⟩|⟨go,hz,N,hN,step⟩
  .refine thn (T.done (cCx X (loc++fr) scope s3 (upd H2 s2.heap.objs.size (.lst [])) fp) rfl rfl rfl hc i [] s5 σ5 H5 _ I5 (fpX fr5) st5 stop) λr s6 ⟨hr,I6⟩=>?_;subst hr;exact hfin s3 s6 H5 σ5 s2.heap.objs.size I3 I6 f3 qn
  .refine thn (T.item (cCx X (loc++fr) scope s3 (upd H2 s2.heap.objs.size (.lst [])) fp) rfl rfl rfl hc i [] s5 σ5 H5 _ I5 (fpX fr5) st5 go) λr s6 ⟨u,hr,h6⟩=>?_;subst hr;refine thn h6 λ_ s7 ⟨x,H7,I7,r7,y7,st7,fr7⟩=>?_;have I7':=I7.pinned (fpX fr7) (T.obj _ _ st7);have keepI:∀{σ8:St} {H8:Hp} {s8:Shared},Inv (cCx X (loc++fr) scope s3 (upd H2 s2.heap.objs.size (.lst [])) fp) ([]++D8 fp s7.heap) σ8 H8 s8->tn (i+1) s8.heap/\∀b∈fp,H8 b=none:=λ{σ8 H8 s8} I8=>by
    refine⟨T.keep _ _ _ st7 λb hb o e=>(I8.pin (b,o) (mem_append_right _ (mem_append_right _ (Au hb e)))).1,λb hb=>?_⟩;obtain⟨o,e,d⟩:=T.obj _ _ st7 b hb;exact(I8.pin (b,o) (mem_append_right _ (mem_append_right _ (Au hb e)))).2.1
   refine thn (hg s3 (upd H2 s2.heap.objs.size (.lst [])) fp _ s7 σ5 H7 x u _ I7' r7 (step x H7 y7)) λ_ s8 ⟨σ8,H8,I8,q8⟩=>?_;refine thn (hf s3 (upd H2 s2.heap.objs.size (.lst [])) fp _ s8 σ8 H8 _ I8 q8) λb s9 ⟨H9,I9,q9⟩=>?_;cases b with
   |false=>
    rw[if_neg Bool.false_ne_true]at q9 ⊢;obtain⟨m',hm,w9⟩:=hN _ _ _ q9;exact⟨m',hm,i+1,σ8,ys,H9,I9.unpinned,(keepI I9).1,(keepI I9).2,w9⟩
   |true=>
    rw[if_pos rfl]at q9 ⊢;refine thn (he s3 (upd H2 s2.heap.objs.size (.lst [])) fp _ s9 σ8 H9 _ I9 q9) λe10 s10 ⟨v10,H10,I10,r10,hD10,n10⟩=>?_;obtain⟨m',hm,w10⟩:=hN _ _ _ n10;refine K2 (X:=cCx X (loc++fr) scope s3 (upd H2 s2.heap.objs.size (.lst [])) fp) I10 hD10 r10 hz λ_ s11 I11=>?_;exact⟨m',hm,i+1,σ8,_,_,I11.unpinned,(keepI I11).1,(keepI I11).2,w10⟩
 exact codeAny_compStart_list loop (T.self X.A 0 _ _ _ (T.keep _ _ _ st3 λb hb o e=>hk b o e) loop)
def E7{scope:Scope}{N':List Str}{fp:List Addr}{pins:List (Addr×Obj)}{σ σ5:St}{H3 H5:Hp}{s3 s6:Shared}{h'':Heap}(I3:Inv X pins σ H3 s3)(I6:Inv (cCx X N' scope s3 H3 fp) [] σ5 H5 s6)(f3:∀b∈fp,FpOk X pins H3 b)
 (hs:Heap.SameBut s3.heap.objs.size s6.heap h''):Inv X pins σ H5 { s6 with heap:=h'' }:=by
 have neC:∀b o,s3.heap.get? b=some o->b≠s3.heap.objs.size:=λb o e=>ne_of_lt (Heap.lt_size e);have un:=I6.base;refine I3.call' (s':={ s6 with heap:=h'' }) (ch:=fp) I6.os ⟨λb o e n hb hx=>?_,λb o e n hb hx=>?_,un.free,λb o e hx=>?_,un.tups,un.frzs,un.tbls⟩ ?_ I6.bare ?_
 .exact(hs.2 b (neC b o e)).trans (un.keep b o e n hb hx)
 .obtain⟨sl,q⟩:=un.slot b o e n hb hx;exact⟨sl,(hs.2 b (neC b o e)).trans q⟩
 .obtain⟨o',q⟩:=un.there b o e hx;exact⟨o',(hs.2 b (neC b o e)).trans q⟩
 .intro b ob e;have hfree:H5 s3.heap.objs.size=none:=I6.free;refine(I6.hok b ob e).stay (λc w' hc q=>(hs.2 c ?_).trans q) (λ_ q=>q) λ_ _ q=>q;intro z;rcases hc with hc|hc
  .rw[<- hc,z,hfree]at e;cases e
  .rw[z,hfree]at hc;cases hc
 .intro b hb;obtain⟨_,a2,_,a4,a5,a6⟩:=f3 b hb;exact⟨a4,a2,a5,a6⟩
def RW{i:Nat}{y:Str}{elt tg iter:Expr}{ifs:List Expr}{scope:Scope}{pos spos py:Pos}{loc fr:List Str}{ix:List Nat}{wi:TI}{g:TG}{tf:TT}{te:TE}(hN:X.N.Nodup)(hiN:X.N[i]?=some y)(hy:X.env.scope.names.lookup y=some .local)
 (hc:X.calm=true) (S:CSc X scope fr ix) (hi:PI X tg iter wi)
 (hg:∀s H ex,PG (cCx X (loc++fr) scope s H ex) tg g) (hf:∀s H ex,PF (cCx X (loc++fr) scope s H ex) ifs tf) (he:∀s H ex,PE (cCx X (loc++fr) scope s H ex) elt te)
 (hsw:swapsWith (.ListComp elt [⟨tg,iter,ifs,0⟩] scope pos) (some (.Name y py)) spos.line X.env=pure true:=by rfl) (hs:∀x,foldedSetIterable iter X.env x=pure x:=by intro _;rfl):
 PS X (.Assign [.Name y py] (.ListComp elt [⟨tg,iter,ifs,0⟩] scope pos) spos) (CQ (EV loc.length ix wi g tf te) (C1 i)):=by
 intro pins s σ H D I h;have hnames:∀y∈scope.names,y.2=.local->scope.names.lookup y.1=some .local:=λy hy e=>by
  have:=all_eq_true.mp S.loc y hy;rw[e]at this;simpa using this
 rw[exec_Assign_Name_used _ _ _ _ hsw];refine wpAny_bind (wpAny_standAt (wpAny_bind ?_));show wpAny _ _ (do let _ <- comprehension (.ListComp elt [⟨tg,iter,ifs,0⟩] scope pos) scope X.env _ (newList []) false (eval iter X.env) (some (assign (.Name y py) X.env))) _ _ s;refine wpAny_bind (wpAny_mono (wpAny_comprehension_free (use:=some (assign (.Name y py) X.env)) (Q:=λ_ s'=>SP X pins D .next s') rfl hs (Bj (S.clos I.ok)) S.kind hnames
  (thn (hi pins s σ H _ I h) λv s1 h1=>thn h1 λitv s2 h2=>?_)) (λ_ s' hq=>wpAny_pure (wpAny_pure hq)) λ_ _ e=>e)
 obtain⟨it,fp,tn,J,H2,rfl,I2,T,st2,f2,hW⟩:=h2;refine M7 (RR:=λacc C=>compPost (model X.prog X.w) X.A X.xe (some (assign (.Name y py) X.env)) (λ_ s'=>SP X pins D .next s') acc C) hc S hg hf he I2 T st2 f2 hW λs3 s6 H5 σ5 L I3 I6 f3 q=>?_;have J6:Inv X pins σ H5 s6:=E7 (h'':=s6.heap) I3 I6 f3 (.refl ..);obtain⟨m,hm,_⟩:=I6.loc;have hm:s6.heap.Ns s3.heap.objs.size m:=hm;have hL:s3.heap.objs.size≠X.env.locals:=Ne.symm (ne_of_lt I3.lt);show wpAny _ _ (assign (.Name y py) X.env (.ref L)) _ _ s6;refine wpAny_assign_Name (F6 (v:=.ref L) J6 hN hiN (.inl hy) rfl (λs7 I7 ⟨a,sb,ha⟩=>?_) (.inr hy));have hca:s3.heap.objs.size≠a:=by
  rcases ha with rfl|ha
  .exact hL
  .obtain⟨v,z⟩:=I3.cell y a ha;exact Ne.symm (ne_of_lt z.lt)
 refine⟨m,hm.sameBut sb hca,λh' hs'=>?_⟩;refine⟨_,H5,I7.turned (t':=s7.toks) (it:=s3.heap.objs.size) (λb o hb e=>(hs'.2 b hb).trans e) I6.free hL (.inr I3.sz) (λx c e z=>?_) (λp hp z=>?_),q⟩
 .obtain⟨v,w⟩:=I3.cell x c e;exact absurd w.lt (by rw[z];exact lt_irrefl _)
 .exact absurd (Heap.lt_size (I3.pin p hp).1) (by rw[z];exact lt_irrefl _)
end
mutual
def Rep(K:PySem.W.Frag)(H:Hp):PyData->V->Prop
 |.none,v=>v=.non
 |.bool b,v=>v=.bl b
 |.int i,v=>v=.int i
 |.str x,v=>v=.str x
 |.list ds,v=>∃a xs,v=.ref a/\SqL K H a xs/\BE K H ds xs
 |.tuple ds,v=>∃a xs,v=.ref a/\SqT K H a xs/\BE K H ds xs
 |.dict _,_=>False
def BE(K:PySem.W.Frag)(H:Hp):List PyData->List V->Prop
 |[],xs=>xs=[]
 |d::ds,xs=>∃x r,xs=x::r/\Rep K H d x/\BE K H ds r
end
section
variable{X:Cx}{pins:List (Addr×Obj)}{σ:St}{H:Hp}{s:Shared}
mutual
theorem D7(I:Inv X pins σ H s):∀(d:PyData) (v:V) (u:Value),Rep X.K H d v->RelV v u->∃as,Reads s.heap u d as
 |.none,v,u,h,r=>by
  have h:v=.non:=by simpa only[Rep]using h
  subst h;cases r;exact⟨_,.none⟩
 |.bool b,v,u,h,r=>by
  have h:v=.bl b:=by simpa only[Rep]using h
  subst h;cases r;exact⟨_,.bool b⟩
 |.int i,v,u,h,r=>by
  have h:v=.int i:=by simpa only[Rep]using h
  subst h;obtain⟨t,rfl⟩:=r;exact⟨_,.int i t⟩
 |.str x,v,u,h,r=>by
  have h:v=.str x:=by simpa only[Rep]using h
  subst h;obtain⟨t,rfl⟩:=r;exact⟨_,.str x t⟩
 |.list ds,v,u,h,r=>by
  have h:∃a xs,v=.ref a/\SqL X.K H a xs/\BE X.K H ds xs:=by simpa only[Rep]using h
  obtain⟨a,xs,rfl,hq,ha⟩:=h;cases r;obtain⟨its,rv,⟨o,n,e,c,_,dd⟩,hz⟩:=I.list hq;obtain⟨as,q⟩:=DX I ds xs its ha rv;exact⟨_,.list e c dd (by simpa using q)⟩
 |.tuple ds,v,u,h,r=>by
  have h:∃a xs,v=.ref a/\SqT X.K H a xs/\BE X.K H ds xs:=by simpa only[Rep]using h
  obtain⟨a,xs,rfl,hq,ha⟩:=h;cases r;obtain⟨its,rv,⟨o,e,c,n,dd⟩,hz⟩:=I.tuple hq;obtain⟨as,q⟩:=DX I ds xs its ha rv;exact⟨_,.tuple e c dd (by simpa using q)⟩
 |.dict _,v,u,h,r=>by
  have h:False:=by simpa only[Rep]using h
  exact h.elim
theorem DX(I:Inv X pins σ H s):∀(ds:List PyData) (xs:List V) (us:List Value),BE X.K H ds xs->Vals xs us->∃as,ReadsAll s.heap us ds as
 |[],xs,us,h,r=>by
  have h:xs=[]:=by simpa only[BE]using h
  subst h;cases r;exact⟨_,.nil⟩
 |d::ds,xs,us,h,r=>by
  have h:∃x r,xs=x::r/\Rep X.K H d x/\BE X.K H ds r:=by simpa only[BE]using h
  obtain⟨x,rr,rfl,h1,h2⟩:=h;cases r with
  |cons r1 r2=>
   obtain⟨as,q1⟩:=D7 I d _ _ h1 r1;obtain⟨bs,q2⟩:=DX I ds _ _ h2 r2;exact⟨_,.cons q1 q2⟩
end
end
def Stb:HO->Prop
 |.tup _=>True
 |.frz _ _=>True
 |.ext _=>True
 |.xd _=>True
 |_=>False
structure Grow(H H':Hp):Prop where
 keep:∀b o,Stb o->H b=some o->H' b=some o
theorem Grow.tup{H H':Hp}(g:Grow H H'):∀b xs,H b=some (.tup xs)->H' b=some (.tup xs):=λb _ h=>g.keep b _ trivial h
theorem Grow.frz{H H':Hp}(g:Grow H H'):∀b o u,H b=some (.frz o u)->H' b=some (.frz o u):=λb _ _ h=>g.keep b _ trivial h
def Grow.refl{H:Hp}:Grow H H:=⟨λ_ _ _ h=>h⟩
def Chg(H:Hp)(p:Addr):Prop:=∀o,Stb o->H p≠some o
def Grow.put{H H':Hp}{p:Addr}{o:HO}(a:Grow H H')(h:Chg H' p):Grow H (upd H' p o):=⟨λc u s e=>by
 have q:=a.keep c u s e;have n:c≠p:=λz=>h u s (by rw[<- z];exact q);rw[A4 n];exact q⟩
theorem Chg.lst{H:Hp}{p:Addr}{xs:List V}(h:H p=some (.lst xs)):Chg H p:=λo s e=>by rw[h]at e;cases e;exact s
def Grow.sq{K:PySem.W.Frag}{H H':Hp}{a:Addr}{xs:List V}(g:Grow H H')(h:SqT K H a xs):SqT K H' a xs:=by
 rcases h with(h|⟨o,h⟩)|h
 .exact .inl (.inl (g.tup _ _ h))
 .exact .inl (.inr ⟨o,g.frz _ _ _ h⟩)
 .exact .inr h
section
variable{X:Cx}
def LV(K:PySem.W.Frag):R2:=λx y H Q=>∃d e,Rep K H d x/\Rep K H e y/\d.canLay0=true/\e.canLay0=true/\min d.depth e.depth<=60/\Q (.bl (!PyData.eqv d e)) H
def O9(K:PySem.W.Frag):R2:=λx y H Q=>∃d e,Rep K H d x/\Rep K H e y/\d.canLay0=true/\e.canLay0=true/\min d.depth e.depth<=60/\Q (.bl (PyData.eqv d e)) H
def Uh(hu:X.A.units+64<cLine):OpR X (compareOp .NotEq) (LV X.K):=by
 intro pins s σ H x y v u Q I rx ry h;obtain⟨d,e,h1,h2,c1,c2,hm,q⟩:=h;obtain⟨as,q1⟩:=D7 I d x v h1 rx;obtain⟨bs,q2⟩:=D7 I e y u h2 ry;exact PySem.SeqAt.compareNe_reads q1 q2 c1 c2 (by omega) ⟨.bl _,H,I,rfl,q⟩
def Ul(hu:X.A.units+64<cLine):OpR X (compareOp .Eq) (O9 X.K):=by
 intro pins s σ H x y v u Q I rx ry h;obtain⟨d,e,h1,h2,c1,c2,hm,q⟩:=h;obtain⟨as,q1⟩:=D7 I d x v h1 rx;obtain⟨bs,q2⟩:=D7 I e y u h2 ry;exact PySem.SeqAt.compareEq_reads q1 q2 c1 c2 (by omega) ⟨.bl _,H,I,rfl,q⟩
theorem EO:∀{ns:List Int} {us:List Value},Vals (ns.map V.int) us->IntsAre us ns
 |[],_,.nil=>.nil
 |n::ns,_,.cons r t=>by obtain⟨k,rfl⟩:=r;exact .cons _ _ (EO t)
end
end L2
namespace L2
open PySem PySem.Spec PyProof.Rows
section
variable(K:PySem.W.Frag){X:Cx}
def Ji(hK:X.K=K:=by rfl):IxR X (HH K):=by subst hK;exact SF
def Kj(hK:X.K=K:=by rfl):IxR X (O8 K):=by subst hK;exact Uz
def Nq(hK:X.K=K:=by rfl):SlR X (LU K):=by subst hK;exact Q6
def HJ(hu:X.A.units+64<cLine)(hK:X.K=K:=by rfl):OpR X (compareOp .Eq) (O9 K):=by subst hK;exact Ul hu
def Fa(hu:X.A.units+64<cLine)(hK:X.K=K:=by rfl):OpR X (compareOp .NotEq) (LV K):=by subst hK;exact Uh hu
def OZ(hK:X.K=K:=by rfl):OpR X (binaryOp .Add) (LW K):=by subst hK;exact Rx
def Th:List V->Hp->VK->Prop:=λxs H Q=>∃p ys,xs=[.ref p]/\(SqL K H p ys∨SqT K H p ys)/\Q (.int ys.length) H
def NH(hK:X.K=K:=by rfl):CallR X (.builtin "len") (Th K):=by subst hK;exact Jx
def HF:List V->Hp->VK->Prop:=λxs H Q=>∃p ys,xs=[.ref p]/\(SqL K H p ys∨SqT K H p ys)/\∀l,H l=none->Q (.ref l) (upd H l (.lst ys))
def M8(hK:X.K=K:=by rfl):CallR X (.type "list") (HF K):=by subst hK;exact Jw
def JS:List V->Hp->VK->Prop:=λxs H Q=>∃p ys,xs=[.ref p]/\((SqL K H p ys/\∀l,H l=none->Q (.ref l) (upd H l (.tup ys)))∨(SqT K H p ys/\Q (.ref p) H))
def KM(hK:X.K=K:=by rfl):CallR X (.type "tuple") (JS K):=by subst hK;exact IW
def JW{tg l:Expr}{tl:TE}(hl:PE X l tl)(hK:X.K=K:=by rfl):PI X tg l (Fh K tl):=by subst hK;exact Rj hl
def Ri{tg l:Expr}{tl:TE}(hl:PE X l tl)(hK:X.K=K:=by rfl):PI X tg l (Lq K tl):=by subst hK;exact UQ hl
def Rm{pos:Pos}{es:List Expr}{k:Nat}{t:TGs}{n:Nat}(hc:X.calm=true)(h:PGs X es t)(hK:X.K=K:=by rfl)
 (hn:(assignEach es X.env).length=n:=by rfl) (hst:(assignEach es X.env).findIdx? (·.1)=none:=by rfl):PG X (.Tuple es k pos) (Ly K n t):=by
 subst hK;exact UR hc h hn hst
end
section
variable(K:PySem.W.Frag){X:Cx}
theorem FR:∀{bs:List Bool} {us:List Value} {i:Nat} {v:Value},Vals (bs.map V.bl) us->us[i]?=some v->∃b,bs[i]?=some b/\v=.bool b
 |[],_,_,_,.nil,e=>by simp at e
 |b::bs,_,0,_,.cons r _,e=>by simp at e;subst e;exact⟨b,rfl,r⟩
 |b::bs,_,i+1,_,.cons _ t,e=>by
  obtain⟨c,h1,h2⟩:=FR (i:=i) t (by simpa using e);exact⟨c,by simpa using h1,h2⟩
def Tj:List V->Hp->VK->Prop:=λxs H Q=>∃(a:Addr) (bs:List Bool),xs=[.ref a]/\SqL K H a (bs.map V.bl)/\Q (.bl (bs.all id)) H
def Ti:List V->Hp->VK->Prop:=λxs H Q=>∃(a:Addr) (bs:List Bool),xs=[.ref a]/\SqL K H a (bs.map V.bl)/\Q (.bl (bs.any id)) H
def II(hc:X.calm=true)(hK:X.K=K:=by rfl):CallR X (.builtin "all") (Tj K):=by
 subst hK;intro pins s σ H xs us Q I r h;obtain⟨a,bs,rfl,hq,q⟩:=h;obtain⟨u,rfl,ru⟩:=CG r;cases ru;obtain⟨its,rv,p,hz⟩:=I.list hq;have hl:=p.isList;have hlen:=rv.length;have hlt:a<s.heap.objs.size:=by obtain⟨_,e,_⟩:=hl;exact Heap.lt_size e
 refine call_all_walk (wpAny_pyIter_list hl ?_);refine⟨s.heap.objs.size,[s.heap.objs.size,a],[s.heap.objs.size],its.toArray.size,_,_,λi=>(bs[i]?).getD true,rfl,Walks.list (A:=X.A.in1) (I.ok.hd hc) _ a (ne_of_lt hlt) its.toArray,
  ⟨⟨_,Heap.get?_push_size _ rfl,rfl,rfl⟩,hl.push _⟩,λi v s' Q' E' hP hQ=>?_,λh' tk hk=>?_⟩
 .obtain⟨b,e,rfl⟩:=FR rv (by simpa using hP);simp only[e,getD_some]at hQ;exact wpAny_truthy_bool hQ
 .have e:((List.range its.toArray.size).all λi=>(bs[i]?).getD true)=bs.all id:=by
   rw[size_toArray,<- hlen,length_map];exact LSm.range_all bs
  rw[e];exact⟨.bl _,H,I.kept (LSm.kept_iter hk),rfl,q⟩
def IH(hc:X.calm=true)(hK:X.K=K:=by rfl):CallR X (.builtin "any") (Ti K):=by
 subst hK;intro pins s σ H xs us Q I r h;obtain⟨a,bs,rfl,hq,q⟩:=h;obtain⟨u,rfl,ru⟩:=CG r;cases ru;obtain⟨its,rv,p,hz⟩:=I.list hq;have hl:=p.isList;have hlen:=rv.length;have hlt:a<s.heap.objs.size:=by obtain⟨_,e,_⟩:=hl;exact Heap.lt_size e
 refine call_any_walk (wpAny_pyIter_list hl ?_);refine⟨s.heap.objs.size,[s.heap.objs.size,a],[s.heap.objs.size],its.toArray.size,_,_,λi=>(bs[i]?).getD false,rfl,Walks.list (A:=X.A.in1) (I.ok.hd hc) _ a (ne_of_lt hlt) its.toArray,
  ⟨⟨_,Heap.get?_push_size _ rfl,rfl,rfl⟩,hl.push _⟩,λi v s' Q' E' hP hQ=>?_,λh' tk hk=>?_⟩
 .obtain⟨b,e,rfl⟩:=FR rv (by simpa using hP);simp only[e,getD_some]at hQ;exact wpAny_truthy_bool hQ
 .have e:((List.range its.toArray.size).any λi=>(bs[i]?).getD false)=bs.any id:=by
   rw[size_toArray,<- hlen,length_map];exact LSm.range_any bs
  rw[e];exact⟨.bl _,H,I.kept (LSm.kept_iter hk),rfl,q⟩
theorem KO:∀{ns:List Int} {us:List Value},IntsAre us ns->Vals (ns.map V.int) us
 |[],_,.nil=>.nil
 |_::_,_,.cons _ _ t=>.cons ⟨_,rfl⟩ (KO t)
def PZ:List V->Hp->VK->Prop:=λxs H Q=>∃(a:Addr) (ns:List Int),xs=[.ref a]/\SqL K H a (ns.map V.int)/\0<ns.length/\∀M:Int,M∈ns->(∀x∈ns,x<=M)->Q (.int M) H
def IG(hc:X.calm=true)(hK:X.K=K:=by rfl):CallR X (.builtin "max") (PZ K):=by
 subst hK;intro pins s σ H xs us Q I r h;obtain⟨a,ns,rfl,hq,hne,q⟩:=h;obtain⟨u,rfl,ru⟩:=CG r;cases ru;obtain⟨its,rv,p,hz⟩:=I.list hq;have hi:=EO rv;obtain⟨ys,e⟩:=hi.allInts.items;have hns:ns=ys.toList.map (·.1):=by
  rw[<- hi.numsOf,<- nums_intItems,<- e]
 have hsz:0<ys.size:=by
  have h3:=hne;rw[hns,length_map,Array.length_toList]at h3;exact h3
 have hl:=p.isList;rw[e]at hl;refine max_intList (I.ok.hd hc) hl hsz λv h' tk hv hk=>?_;obtain⟨t,rfl⟩:=intItems_at hv;obtain⟨h1,h2⟩:=argBest_gt (numAt ys) (ys.size-1);refine⟨.int _,H,I.kept hk,⟨t,rfl⟩,q _ ?_ λx hx=>?_⟩
 .rw[hns,numAt_eq];exact getD_mem (by rw[length_map,Array.length_toList];omega)
 .rw[hns]at hx;obtain⟨j,hj,rfl⟩:=mem_getD hx;rw[length_map,Array.length_toList]at hj;rw[<- numAt_eq];exact h2 j (by omega)
def PX:List V->Hp->VK->Prop:=λxs H Q=>∃(a:Addr) (ns:List Int),xs=[.ref a]/\SqL K H a (ns.map V.int)/\0<ns.length/\∀M:Int,M∈ns->(∀x∈ns,M<=x)->Q (.int M) H
def IF(hc:X.calm=true)(hK:X.K=K:=by rfl):CallR X (.builtin "min") (PX K):=by
 subst hK;intro pins s σ H xs us Q I r h;obtain⟨a,ns,rfl,hq,hne,q⟩:=h;obtain⟨u,rfl,ru⟩:=CG r;cases ru;obtain⟨its,rv,p,hz⟩:=I.list hq;have hi:=EO rv;obtain⟨ys,e⟩:=hi.allInts.items;have hns:ns=ys.toList.map (·.1):=by
  rw[<- hi.numsOf,<- nums_intItems,<- e]
 have hsz:0<ys.size:=by
  have h3:=hne;rw[hns,length_map,Array.length_toList]at h3;exact h3
 have hl:=p.isList;rw[e]at hl;refine min_intList (I.ok.hd hc) hl hsz λv h' tk hv hk=>?_;obtain⟨t,rfl⟩:=intItems_at hv;obtain⟨h1,h2⟩:=argBest_lt (numAt ys) (ys.size-1);refine⟨.int _,H,I.kept hk,⟨t,rfl⟩,q _ ?_ λx hx=>?_⟩
 .rw[hns,numAt_eq];exact getD_mem (by rw[length_map,Array.length_toList];omega)
 .rw[hns]at hx;obtain⟨j,hj,rfl⟩:=mem_getD hx;rw[length_map,Array.length_toList]at hj;rw[<- numAt_eq];exact h2 j (by omega)
end
section
variable{prog:Program}{w:World}{A:Around}{E:Value->Shared->Prop}{s:Shared}{l:Addr}{xs:Array (Int×Tok)}
def IV{Q:Value->Shared->Prop}(hl:s.heap.IsTuple l (intItems xs))
 (h:∀s₂:Shared,s₂={ s with heap:=s.heap.push { cls:=.type "tuple_iterator",data:=.fields #[.ref l,.int 0 0] } } ->
  (s₂.heap.IsTupleIter s.heap.objs.size l 0/\s₂.heap.IsTuple l (intItems xs))->(∀b∈[s.heap.objs.size,l],b<s₂.heap.objs.size)->l≠s.heap.objs.size->Q (.ref s.heap.objs.size) s₂):
 wpAny (model prog w) A (pyIter (.ref l)) Q E s:=by
 have hlt:l<s.heap.objs.size:=by obtain⟨_,e,_⟩:=hl;exact Heap.lt_size e
 refine wpAny_pyIter_tuple hl (h _ rfl ⟨⟨_,Heap.get?_push_size _ rfl,rfl,rfl⟩,hl.push _⟩ (λb hb=>?_) (ne_of_lt hlt));show b<(s.heap.push _).objs.size;rw[Heap.size_push];rcases mem_cons.mp hb with rfl|hb
 .exact Nat.lt_succ_self _
 .rcases mem_cons.mp hb with rfl|hb
  .exact lt_succ_of_lt hlt
  .cases hb
def Mu{h':Heap}{o:Obj}(hk:∀b x,b∉[s.heap.objs.size]->(s.heap.push o).get? b=some x->h'.get? b=some x):∀b x,s.heap.get? b=some x->h'.get? b=some x:=
 λb x e=>hk b x (λhm=>by rw[mem_singleton.mp hm]at e;exact lt_irrefl _ (Heap.lt_size e)) (Heap.get?_push_of_some _ e)
def Jc{Q:Value->Shared->Prop}(hh:A.handled=none)(hl:s.heap.IsTuple l (intItems xs))(hne:0<xs.size)
 (h:∀v h' tk,(intItems xs)[argBest (λi j=>decide (numAt xs i>numAt xs j)) (xs.size-1)]?=some v->(∀b o,s.heap.get? b=some o->h'.get? b=some o)->Q v { s with heap:=h',toks:=tk }):
 wpAny (model prog w) A (call (.builtin "max") [.ref l]) Q E s:=by
 refine call_max_walk (IV hl λs₂ e st hfp hlI=>?_);subst e;refine⟨_,_,_,_,_,_,_,rfl,Walks.tuple (A:=A.in1) hh _ l hlI (intItems xs),st,hfp,by simpa [intItems]using hne,CmpOf.ints_gt (numAt xs) (λ_ _=>intItems_at),λv h' tk hP hk=>?_⟩;exact h v h' tk (by simpa [intItems]using hP) (Mu hk)
end
section
variable(K:PySem.W.Frag){X:Cx}
def PY:List V->Hp->VK->Prop:=λxs H Q=>∃(a:Addr) (ns:List Int),xs=[.ref a]/\SqT K H a (ns.map V.int)/\0<ns.length/\∀M:Int,M∈ns->(∀x∈ns,x<=M)->Q (.int M) H
def Gu(hc:X.calm=true)(hK:X.K=K:=by rfl):CallR X (.builtin "max") (PY K):=by
 subst hK;intro pins s σ H xs us Q I r h;obtain⟨a,ns,rfl,hq,hne,q⟩:=h;obtain⟨u,rfl,ru⟩:=CG r;cases ru;obtain⟨its,rv,p,hz⟩:=I.tuple hq;have hi:=EO rv;obtain⟨ys,e⟩:=hi.allInts.items;have hns:ns=ys.toList.map (·.1):=by
  rw[<- hi.numsOf,<- nums_intItems,<- e]
 have hsz:0<ys.size:=by
  have h3:=hne;rw[hns,length_map,Array.length_toList]at h3;exact h3
 have hl:s.heap.IsTuple a (intItems ys):=e ▸ (show s.heap.IsTuple a its.toArray from p);refine Jc (I.ok.hd hc) hl hsz λv h' tk hv hk=>?_;obtain⟨t,rfl⟩:=intItems_at hv;obtain⟨h1,h2⟩:=argBest_gt (numAt ys) (ys.size-1);refine⟨.int _,H,I.kept hk,⟨t,rfl⟩,q _ ?_ λx hx=>?_⟩
 .rw[hns,numAt_eq];exact getD_mem (by rw[length_map,Array.length_toList];omega)
 .rw[hns]at hx;obtain⟨j,hj,rfl⟩:=mem_getD hx;rw[length_map,Array.length_toList]at hj;rw[<- numAt_eq];exact h2 j (by omega)
end
structure DefAt(K:PySem.W.Frag)(mg:Str->Option Value)(x:Str)(st:Stmt)(f:Addr)(fd:FuncData)(ps:List Str):Prop where
 fn:Fun K x x st f fd
 mg:mg x=some (.ref f)
 bd:Binds K fd ps []
def Pd{X:Cx}{j k:Nat}{f:Addr}{fd:FuncData}{ps:List Str}{sp:Sp}{x:Str}{st:Stmt}{e:Expr}{es:List Expr}{t:TA}{p pos:Pos}(F:FnOk X.prog X.w X.K X.mg X.base CX0 j f fd ps sp)(hr:Room k X.A)(D:DefAt X.K X.mg x st f fd ps)(ha:PA X (e::es) t)
 (hjk:j<=k:=by decide) (hg:Gl X x:=by rfl) (hdb:(x==("__debug__":Str))=false:=by decide) (he:starEach (e::es) X.env=(false,eval e X.env)::starEach es X.env:=by rfl) (hpl:(backTo pos (starEach es X.env)).any (·.1)=false:=by rfl):
 PE X (.Call (.Name x p) (e::es) [] pos) (Dj sp [] E0 t):=
 Rt (F.mono hjk) hr hg D.mg D.fn.kp D.bd .nil Vt ha hdb he hpl
def SY:bootBuiltins "list"=some (.type "list"):=by decide +kernel
def bt_tuple:bootBuiltins "tuple"=some (.type "tuple"):=by decide +kernel
def bt_len:bootBuiltins "len"=some (.builtin "len"):=by decide +kernel
def bt_min:bootBuiltins "min"=some (.builtin "min"):=by decide +kernel
def bt_max:bootBuiltins "max"=some (.builtin "max"):=by decide +kernel
def IJ:bootBuiltins "sorted"=some (.builtin "sorted"):=by decide +kernel
def bt_all:bootBuiltins "all"=some (.builtin "all"):=by decide +kernel
def bt_any:bootBuiltins "any"=some (.builtin "any"):=by decide +kernel
def IX:bootBuiltins "isinstance"=some (.builtin "isinstance"):=by decide +kernel
mutual
theorem Fy:∀ns:List Int,PyData.canLayAll0 (ns.map PyData.int)=true
 |[]=>by simp[PyData.canLayAll0]
 |n::ns=>by simp[PyData.canLayAll0,PyData.canLay0,Fy ns]
end
end L2
namespace L2
open PySem PySem.Spec PyProof.Rows PySem.W
def lCx(X:Cx)(A:Around)(N':List Str)(qual:Str)(scope:Scope)(f:Addr)(cd:Value)(cl:List (Str×Addr))(s:Shared)(H:Hp):Cx:=
 { X with N:=N',s₀:=s,H₀:=H,A:=A.deeper (envX qual scope s.heap.objs.size f cd cl),env:=envX qual scope s.heap.objs.size f cd cl,outer:=X.stack,stack:=envX qual scope s.heap.objs.size f cd cl::X.stack,ex:=[],fn:=λ_=>false,calm:=true,pn:=[],xe:=λ_ _=>False }
structure LSc(scope:Scope)(p:Str):Prop where
 nocell:(scope.names.all λy=>y.2 != .cell)=true
 par:scope.names.lookup p=some .local
 co:scope.isCoroutine=false
 gen:scope.isGenerator=false
section
variable{X:Cx}{scope:Scope}{fr:List Str}{ix:List Nat}{pins:List (Addr×Obj)}{σ:St}{H:Hp}{s:Shared}{p:Str}
def LSc.ne(L:LSc scope p):∀y∈scope.names,y.2≠.cell:=λy hy e=>by
 have:=all_eq_true.mp L.nocell y hy;rw[e]at this
 revert this;decide
def SK(S:CSc X scope fr ix)(L:LSc scope p)(I:Inv X pins σ H s){A:Around}(hf:A.frames=X.A.frames)(hh:A.handled=none){qual:Str}{f:Addr}{cd:Value}{h':Heap}{x:V}{u:Value}{t':Nat}
 (hk:∀b o,s.heap.get? b=some o->h'.get? b=some o) (hn:h'.Ns s.heap.objs.size λy=>if y=p then some u else none) (r:RelV x u):
 Inv (lCx X A (p::fr) qual scope f cd (AL X.env.cells scope.names []) s H) [] (some x::ix.map λi=>(σ[i]?).join) H { s with heap:=h',toks:=t' }:=by
 have lenix:fr.length=ix.length:=by simpa using congrArg List.length S.ixs
 have co:∀x c,(AL X.env.cells scope.names []).lookup x=some c->X.env.cells.lookup x=some c:=λx c e=>Cg (S.clos I.ok) (λ_ _ z=>by simp at z) x c e;refine⟨⟨I.ok.mod,S.kind,rfl,rfl,le_refl _,?_,?_,?_,λ_=>hh,Around.frames_deeper (hf.trans I.ok.frames),.inr ⟨rfl,rfl⟩,?_,I.bs,le_trans I.ok.bsz I.sz,?_,?_,I.stack,I.stkFree⟩,rfl,I.bare,Un.kept hk,⟨_,hn,?_⟩,?_,I.hok.fresh (le_refl _),?_,?_,I.hok.kept hk,?_⟩
 .intro x y c e1 e2;exact I.ok.inj x y c (co x c e1) (co y c e2)
 .intro x hx;rcases hx with e|e
  .exact absurd rfl (L.ne (x,.cell) (PySem.mem_of_lookup e))
  .exact isSome_iff_exists.mp (C2 (.inr (PySem.mem_of_lookup e)))
 .intro x c hf;cases hf
 .intro b hb;cases hb
 .intro b o e hb;cases hb
 .intro b hb;cases hb
 .intro i y v e1 e2 e3;cases i with
  |zero=>
   have e1:some p=some y:=e1;have e2:some (some x)=some (some v):=e2;cases e1;cases e2;exact⟨u,r,.inl ⟨L.par,if_pos rfl⟩⟩
  |succ j=>
   have e1:fr[j]?=some y:=e1;have e2:(ix.map λi=>(σ[i]?).join)[j]?=some (some v):=e2;rw[List.getElem?_map]at e2;have e4:(fr.map some)[j]?=some (some y):=by rw[List.getElem?_map,e1];rfl
   rw[S.ixs,List.getElem?_map]at e4;cases q:ix[j]? with
   |none=>rw[q]at e2;cases e2
   |some k=>
    rw[q]at e2 e4;have e2:(σ[k]?).join=some v:=Option.some.inj e2;have e4:X.N[k]?=some y:=Option.some.inj e4;have e5:σ[k]?=some (some v):=by
     cases w:σ[k]? with
     |none=>rw[w]at e2;cases e2
     |some z=>rw[w]at e2;simpa using e2
    have hfx:=all_eq_true.mp S.frs y (mem_of_getElem? e1);have hfx:scope.names.lookup y=some .free:=by simpa using hfx
    have hmem:=PySem.mem_of_lookup hfx;have hout:=S.outer hmem rfl;obtain⟨m,hm,hl⟩:=I.loc;obtain⟨u',r',l⟩:=hl k y v e4 e5 (.inr hout);refine⟨u',r',.inr ⟨.inr hfx,?_⟩⟩;rcases l with⟨kk,_⟩|⟨kk,c,ec,z⟩
    .rcases hout with w|w
     .rw[kk]at w;cases w
     .rw[kk]at w;cases w
    .obtain⟨d,hd⟩:=isSome_iff_exists.mp (C2 (cells:=X.env.cells) (acc:=[]) (.inr hmem));have:=co y d hd;rw[ec]at this;cases this;exact⟨c,hd,z.keeps hk⟩
 .intro x c e;obtain⟨v,z⟩:=I.cell x c (co x c e);exact⟨v,z.keeps hk⟩
 .intro x c e;exact I.freeC x c (co x c e)
 .intro p hp;cases hp
 .show(_::_:List (Option V)).length=(p::fr).length;simp[lenix]
def Oo(S:CSc X scope fr ix)(L:LSc scope p)(I:Inv X pins σ H s){A:Around}(hf:A.frames=X.A.frames)(hr:Room 1 A){qual:Str}{f:Addr}{cd ctv pm:Value}{params:Arguments}{body:Expr}{x:V}{u:Value}{tb:TE}{Q:VK}
 (ho:s.heap.get? f=some { cls:=.type "function",data:=.func (kla_fn "<lambda>" qual params body scope (AL X.env.cells scope.names []) pm cd ctv) }) (hcd:s.heap.CodeRec cd qual)
 (hb:∀us:Value,bindArgs (kla_fn "<lambda>" qual params body scope (AL X.env.cells scope.names []) pm cd ctv) ⟨[us],[]⟩=pure [(p,us)])
 (he:∀(s:Shared) (H:Hp),PE (lCx X A (p::fr) qual scope f cd (AL X.env.cells scope.names []) s H) body tb) (r:RelV x u) (h:tb (some x::ix.map λi=>(σ[i]?).join) H Q):
 wpAny (model X.prog X.w) A (call (.ref f) [u]) (EP X pins σ Q) (λ_ _=>False) s:=by
 refine wpAny_call (codeAny_mono (R:=λres s'=>match res with|.ok (.ret u)=>EP X pins σ Q u s'|_=>False) (kla_callFunE hr.depth ho rfl L.co L.gen rfl hcd ?_) ?_)
 .rw[hb];refine wpAny_pure ?_;refine wpAny_newFunctionEnv L.ne (λy hy=>by rw[mem_singleton]at hy;subst hy;exact L.par) (λh' hns hsb=>⟨?_,?_⟩) S.kind
  .have hk:∀b o,s.heap.get? b=some o->h'.get? b=some o:=λb o e=>(hsb.2 b (ne_of_lt (Heap.lt_size e))).trans (Heap.get?_push_of_some _ e);exact I.nolimit.keeps hk
  .have hk:∀b o,s.heap.get? b=some o->h'.get? b=some o:=λb o e=>(hsb.2 b (ne_of_lt (Heap.lt_size e))).trans (Heap.get?_push_of_some _ e);have hns':h'.Ns s.heap.objs.size λy=>if y=p then some u else none:=by
    have e:(λy=>([(p,u)]:List (Str×Value)).reverse.lookup y)=λy=>if y=p then some u else none:=by
     funext y
     simp only[List.reverse_cons,List.reverse_nil,List.nil_append,lookup_cons,List.lookup_nil];by_cases hy:y=p
     .subst hy;simp
     .have hb':(y==p)=false:=beq_eq_false_iff_ne.mpr hy;simp[hb',hy]
    rw[<- e];exact hns
   have J:=SK (t':=s.toks+1) (qual:=qual) (f:=f) (cd:=cd) S L I hf hr.hd hk hns' r;refine kla_codeExpr (wpAny_mono (he s H [] _ _ H Q J h) (λv s' hv=>?_) λ_ _ z=>z.elim);obtain⟨y,H',J',ry,q⟩:=hv;obtain⟨hh,g,d,t,os'⟩:=s';obtain rfl:os'=s.os:=J'.os;exact⟨y,H',I.call (h':=hh) (g':=g) (d':=d) (t':=t) (ch:=[]) J'.base J'.hok J'.bare (λb z=>absurd z (by simp)),ry,q⟩
 .intro res s' hq;cases res with
  |error e=>exact hq
  |ok fl=>
   cases fl with
   |ret u=>exact hq
   |next=>exact hq
   |brk=>exact hq
   |cont=>exact hq
end
def cdF(c:Addr)(q:Str):Heap->Prop:=λh=>h.CodeRec (.ref c) q
def Ew(H:Hp)(q:Str)(pos:Pos)(ps:Array Value):Prop:=ps=#[]∨∃c,ps=#[rawInt pos.line,rawInt pos.col,.ref c]/\H c=some (.ext (cdF c q))
def EU(P:Addr)(q:Str)(pos:Pos)(H H':Hp):Prop:=H'=H∨∃c,H c=none/\c≠P/\H'=upd (upd H P (.tbl #[rawInt pos.line,rawInt pos.col,.ref c])) c (.ext (cdF c q))
structure LamAt(X:Cx)(c P:Addr):Prop where
 code:X.env.code=.ref c
 hd:CodeHd X.base c P
 bl:X.base.BuiltinsAt X.mg P
section
variable{X:Cx}{pins:List (Addr×Obj)}{σ:St}{H:Hp}{s:Shared}{c P:Addr}{scope:Scope}{fr:List Str}{ix:List Nat}
def SI(I:Inv X pins σ H s){q:Str}{ps:Array Value}{ps':Array Value}(hP:H P=some (.tbl ps)){c':Addr}{h':Heap}{t':Nat}(hx:∀b o,b≠P->s.heap.get? b=some o->h'.get? b=some o)(hc:s.heap.objs.size<=c')
 (hrec:h'.CodeRec (.ref c') q) (htb:h'.get? P=some (tabObj (ps++ps'))):Inv X pins σ (upd (upd H P (.tbl (ps++ps'))) c' (.ext (cdF c' q))) { s with heap:=h',toks:=t' }:=by
 have hcn:H c'=none:=I.hok.fresh hc;have hPc:P≠c':=AG hP hcn;have nP:∀b,H b=none->b≠P:=λb n z=>by subst z;rw[hP]at n;cases n
 have other:∀b,b≠P->b≠c'->upd (upd H P (.tbl (ps++ps'))) c' (.ext (cdF c' q)) b=H b:=λb h1 h2=>by rw[A4 h2,A4 h1]
 have ne':∀b u,H b=some u->b≠c':=λb u e=>AG e hcn;refine I.un (h':=h') (t':=t') ⟨λb o e n _ _=>hx b o (nP b n) e,λb o e n _ _=>⟨o.slots,hx b o (nP b n) e⟩,λb o e n _=>?_,λb o e _=>?_,λb xs e=>?_,λb o u e=>?_,λb qs e=>?_⟩ λb u e=>?_
 .rw[other b (nP b n) (ne_of_lt (lt_of_lt_of_le (Heap.lt_size e) hc))];exact n
 .by_cases z:b=P
  .subst z;exact⟨_,htb⟩
  .exact⟨o,hx b o z e⟩
 .rw[other b (λz=>by subst z;rw[hP]at e;cases e) (ne' b _ e)];exact e
 .rw[other b (λz=>by subst z;rw[hP]at e;cases e) (ne' b _ e)];exact e
 .by_cases z:b=P
  .subst z;rw[hP]at e;cases e;exact⟨ps',by rw[A4 hPc,AE]⟩
  .exact⟨#[],by rw[other b z (ne' b _ e),e];simp⟩
 .by_cases z:b=c'
  .subst z;rw[AE]at e;cases e;obtain⟨c0,o,vs,t,e0,r⟩:=id hrec;cases e0;refine⟨hrec,⟨o,r.1⟩,λh1 h2 q1 k=>?_⟩;obtain⟨c1,o1,vs1,t1,e1,g1,r1⟩:=q1;cases e1;exact⟨_,o1,vs1,t1,rfl,k _ g1,r1⟩
  .by_cases z2:b=P
   .subst z2;rw[A4 hPc,AE]at e;cases e;exact htb
   .rw[other b z2 z]at e;refine(I.hok b u e).stay (λd v hd q=>hx d v ?_ q) (λd q=>?_) λd xs q=>?_
    .rcases hd with rfl|hd
     .exact z2
     .intro y;subst y;rw[hP]at hd;cases hd
    .rw[other d (λy=>by subst y;rw[hP]at q;cases q) (ne' d _ q)];exact q
    .rw[other d (λy=>by subst y;rw[hP]at q;cases q) (ne' d _ q)];exact q
structure Made(X:Cx)(scope:Scope)(params:Arguments)(body:Expr)(P:Addr)(q:Str)(pos:Pos)(s:Shared)(H H':Hp)(f:Addr)(cd ctv:Value)(s':Shared):Prop where
 fn:s'.heap.get? f=some { cls:=.type "function",data:=.func (kla_fn "<lambda>" q params body scope (AL X.env.cells scope.names []) ((X.mg "__name__").getD .none) cd ctv) }
 cdc:∃c,cd=.ref c/\H' c=some (.ext (cdF c q))
 step:EU P q pos H H'
 new:s.heap.objs.size<=f
 fre:H' f=none
def Jg(S:CSc X scope fr ix)(LA:LamAt X c P)(I:Inv X pins σ H s){A:Around}{E:Value->Shared->Prop}{params:Arguments}{body:Expr}{pos:Pos}{ps:Array Value}{Q:Value->Shared->Prop}(hdef:defaultsOf params X.env=([],[]))
 (hP:H P=some (.tbl ps)) (hg:Ew H (X.env.qual++"<lambda>") pos ps)
 (h:∀f cd ctv H' s',Inv X pins σ H' s'->Made X scope params body P (X.env.qual++"<lambda>") pos s H H' f cd ctv s'->Q (.ref f) s'):
 wpAny (model X.prog X.w) A (eval (.Lambda params body scope pos) X.env) Q E s:=by
 have hcl:closureFor scope X.env=pure (AL X.env.cells scope.names []):=Bj (S.clos I.ok);have hns:=I.mod.glob.keeps I.bk;have hb:=LA.bl.keeps I.bk;have hcd:=LA.hd.keeps I.bk;have hobj:s.heap.get? P=some (tabObj ps):=I.hok P _ hP;have hgP:mainGlobals≠P:=λz=>by
  obtain⟨o,es,ep,e,hd,_⟩:=hns;rw[z,hobj]at e;cases e;cases hd
 refine kla_eval hdef ?_;rcases hg with rfl|⟨c',rfl,hc'⟩
 .refine kla_makeFunction hcl I.ok.glob hns LA.code hcd hobj trivial rfl hgP hb λc' ctv h' tk hx hge hlt hrec htb=>?_;have hx':∀b o,b≠P->s.heap.get? b=some o->(h'.push (kla_obj "<lambda>" (X.env.qual++"<lambda>") params body scope (AL X.env.cells scope.names []) ((X.mg "__name__").getD .none) c' ctv)).get? b=some o:=λb o n e=>Heap.get?_push_of_some _ (hx b o n e);have J:=SI (t':=tk) I hP hx' hge (hrec.push _) (Heap.get?_push_of_some _ htb);refine h _ _ ctv _ _ J ⟨Heap.get?_push_size _ rfl,⟨c',rfl,AE⟩,.inr ⟨c',I.hok.fresh hge,(AG hP (I.hok.fresh hge)).symm,?_⟩,?_,?_⟩
  .simp
  .exact le_trans hge (le_of_lt hlt)
  .have hs:s.heap.objs.size<=h'.objs.size:=le_trans hge (le_of_lt hlt);rw[A4 (ne_of_gt hlt),A4 (ne_of_gt (lt_of_lt_of_le (Heap.lt_size hobj) hs))];exact I.hok.fresh hs
 .have hrec:s.heap.CodeRec (.ref c') (X.env.qual++"<lambda>"):=(I.hok c' _ hc').1;have hf:codeAmong pos (#[rawInt pos.line,rawInt pos.col,Value.ref c']:Array Value).toList=some (.ref c'):=by simp[codeAmong,rawInt]
  refine kla_makeFunctionHit hcl I.ok.glob hns LA.code hcd hobj (by simp[TriplesOk,rawInt]) hf hb λctv h' tk hk hsz=>?_;have hk':∀b o,s.heap.get? b=some o->(h'.push { cls:=.type "function",data:=.func (kla_fn "<lambda>" (X.env.qual++"<lambda>") params body scope (AL X.env.cells scope.names []) ((X.mg "__name__").getD .none) (.ref c') ctv) }).get? b=some o:=λb o e=>Heap.get?_push_of_some _ (hk b o e);exact h _ _ ctv _ _ (I.kept (t':=tk) hk') ⟨Heap.get?_push_size _ rfl,⟨c',rfl,hc'⟩,.inl rfl,hsz,I.hok.fresh hsz⟩
end
end L2
namespace L2
open PySem PySem.Spec PyProof.Rows
def Exo(h:Heap)(a C:Addr)(dx:Option Addr)(tb:Value):Prop:=∃vs sl,h.get? a=some ⟨.ref C,dx,.fields vs,sl⟩/\vs[1]?=some tb
structure Note(fs:List Addr)(a:Addr)(tb:Value)(h h':Heap):Prop where
 keep:∀b o,h.get? b=some o->b≠a->.ref b≠tb->b∉fs->h'.get? b=some o
 slot:∀b o,h.get? b=some o->b∈fs->∃sl,h'.get? b=some { o with slots:=sl }
 there:∀b o,h.get? b=some o->∃o',h'.get? b=some o'
end L2
namespace L2
open PySem PySem.Spec PyProof.Rows
open Builtin Builtin.ObjectAttr
def XO(a C:Addr)(dx:Option Addr)(h:Heap):Prop:=∃tb,Exo h a C dx tb
def XdAt(H:Hp):Option Addr->List (Str×V)->Prop
 |none,fs=>fs=[]
 |some d,fs=>H d=some (.xd fs)
def New(X:Cx)(pins:List (Addr×Obj))(b:Addr):Prop:=(b∈X.ex∨X.s₀.heap.objs.size<=b)/\b≠X.env.locals/\(∀x c,X.env.cells.lookup x=some c->c≠b)/\∀p∈X.pn++pins,p.1≠b
section
variable{C:Addr}{f:Str}{X:Cx}{pins:List (Addr×Obj)}{σ:St}{H:Hp}{s s':Shared}{Q:VK}{e:Value}
def Ob{P:Program}{w:World}{fs:List Addr}{a T:Addr}{dx:Option Addr}{tb:Value}{h h':Heap}(hok:HOk P w H h)(N:Note fs a tb h h')(hx:Exo h' a C dx (.ref T))(ha:H a=some (.ext (XO a C dx)))(hT:∀T,tb=.ref T->H T=none)(hf:∀b∈fs,H b=none):HOk P w H h':=by
 have k:∀b o u,H b=some o->b≠a->h.get? b=some u->h'.get? b=some u:=λb o u q n e=>N.keep b u e n (λz=>by rw[hT b z.symm]at q;cases q) λz=>by rw[hf b z]at q;cases q
 intro b o q;by_cases n:b=a
 .subst n;rw[ha]at q;cases q;obtain⟨vs,sl,e1,e2⟩:=id hx;refine⟨⟨_,hx⟩,⟨_,e1⟩,λh1 h2 ⟨tb,vs,sl,e,z⟩ k=>⟨tb,vs,sl,k _ e,z⟩⟩
 .refine(hok b o q).stay (λc u hc e=>?_) (λ_ z=>z) λ_ _ z=>z;rcases hc with rfl|hc
  .exact k c o u q n e
  .exact k c _ u hc (λz=>by subst z;rw[ha]at hc;cases hc) e
end
end L2
namespace L2
open PySem PySem.Spec PyProof.Rows
def XdAt.grow{H H':Hp}{dx:Option Addr}{fs:List (Str×V)}(g:Grow H H')(h:XdAt H dx fs):XdAt H' dx fs:=by
 cases dx with
 |none=>exact h
 |some d=>exact g.keep _ _ trivial h
def ExR(K:PySem.W.Frag)(nm:Str)(fs:List Str)(H:Hp)(a:Addr)(xs:List V):Prop:=∃C dx,WM K nm=some C/\H a=some (.ext (XO a C dx))/\XdAt H dx (fs.zip xs)/\xs.length=fs.length
theorem ExR.grow{K:PySem.W.Frag}{nm:Str}{fs:List Str}{H H':Hp}{a:Addr}{xs:List V}(g:Grow H H')(h:ExR K nm fs H a xs):ExR K nm fs H' a xs:=
 let ⟨C,dx,h1,h2,h3,h4⟩:=h;⟨C,dx,h1,g.keep _ _ trivial h2,h3.grow g,h4⟩
end L2
namespace L2
open PySem PySem.Spec PyProof.Rows PySem.W
structure SndOk(q:Str)(params:Arguments)(scope:Scope)(body:Expr)(p1 p2:Str):Prop where
 ne:p1≠p2
 l1:LSc scope p1
 l2:LSc scope p2
 nofree:(scope.names.all λy=>y.2 != .free)=true
 kind:scope.kind=.function
 d1:(p2==("__debug__":Str))=false
 d2:(p2==("__classdict__":Str))=false
 bind:∀(cl:List (Str×Addr)) (pm cd ctv u v:Value),bindArgs (kla_fn "<lambda>" q params body scope cl pm cd ctv) ⟨[u,v],[]⟩=pure [(p1,u),(p2,v)]
def fnF(f c:Addr)(q:Str):Heap->Prop:=λh=>∃params scope p1 p2 pos pm ctv,h.get? f=some { cls:=.type "function",data:=.func (kla_fn "<lambda>" q params (.Name p2 pos) scope [] pm (.ref c) ctv) }/\SndOk q params scope (.Name p2 pos) p1 p2
def FvR(k:Nat)(H:Hp)(a:Addr)(xs:List V):Prop:=k=0/\xs=[]/\∃c q,H a=some (.ext (fnF a c q))/\H c=some (.ext (cdF c q))
def FvR.grow{k:Nat}{H H':Hp}{a:Addr}{xs:List V}(g:Grow H H')(h:FvR k H a xs):FvR k H' a xs:=
 let ⟨h1,h2,c,q,h3,h4⟩:=h;⟨h1,h2,c,q,g.keep _ _ trivial h3,g.keep _ _ trivial h4⟩
section
variable{X:Cx}{scope:Scope}{pins:List (Addr×Obj)}{σ:St}{H:Hp}{s:Shared}{p1 p2:Str}
def SJ{q:Str}{params:Arguments}{body:Expr}(S:SndOk q params scope body p1 p2)(I:Inv X pins σ H s){A:Around}(hf:A.frames=X.A.frames)(hh:A.handled=none){qual:Str}{f:Addr}{cd:Value}{h':Heap}{x y:V}{u v:Value}{t':Nat}
 (hk:∀b o,s.heap.get? b=some o->h'.get? b=some o) (hn:h'.Ns s.heap.objs.size λz=>([(p1,u),(p2,v)]:List (Str×Value)).reverse.lookup z) (r:RelV x u) (r2:RelV y v):
 Inv (lCx X A [p1,p2] qual scope f cd [] s H) [] [some x,some y] H { s with heap:=h',toks:=t' }:=by
 refine⟨⟨I.ok.mod,S.kind,rfl,rfl,le_refl _,?_,?_,?_,λ_=>hh,Around.frames_deeper (hf.trans I.ok.frames),.inr ⟨rfl,rfl⟩,?_,I.bs,le_trans I.ok.bsz I.sz,?_,?_,I.stack,I.stkFree⟩,rfl,I.bare,Un.kept hk,⟨_,hn,?_⟩,?_,I.hok.fresh (le_refl _),?_,?_,I.hok.kept hk,?_⟩
 .intro x y c e1 e2;cases e1
 .intro x hx;rcases hx with e|e
  .exact absurd rfl (S.l1.ne (x,.cell) (PySem.mem_of_lookup e))
  .have:=all_eq_true.mp S.nofree _ (PySem.mem_of_lookup e)
   revert this;simp
 .intro x c hf;cases hf
 .intro b hb;cases hb
 .intro b o e hb;cases hb
 .intro b hb;cases hb
 .intro i z w e1 e2 e3
  match i,e1,e2 with
  |0,e1,e2=>
   have e1:some p1=some z:=e1;have e2:some (some x)=some (some w):=e2;cases e1;cases e2;refine⟨u,r,.inl ⟨S.l1.par,?_⟩⟩;have hb:(p1==p2)=false:=beq_eq_false_iff_ne.mpr S.ne;simp[lookup_cons,hb]
  |1,e1,e2=>
   have e1:some p2=some z:=e1;have e2:some (some y)=some (some w):=e2;cases e1;cases e2;exact⟨v,r2,.inl ⟨S.l2.par,by simp[lookup_cons]⟩⟩
  |i+2,e1,e2=>cases e1
 .intro x c e;cases e
 .intro x c e;cases e
 .intro p hp;cases hp
 .rfl
def Np(I:Inv X pins σ H s){A:Around}(hf:A.frames=X.A.frames)(hr:Room 1 A){f c:Addr}{q:Str}{x y:V}{u v:Value}{Q:VK}(ho:H f=some (.ext (fnF f c q)))(hc:H c=some (.ext (cdF c q)))(rx:RelV x u)(ry:RelV y v)(h:Q y H):
 wpAny (model X.prog X.w) A (call (.ref f) [u,v]) (EP X pins σ Q) (λ_ _=>False) s:=by
 obtain⟨params,scope,p1,p2,pos,pm,ctv,ho',S⟩:=(I.hok f _ ho).1;have hcd:s.heap.CodeRec (.ref c) q:=(I.hok c _ hc).1;have he:∀(s:Shared) (H:Hp),PE (lCx X A [p1,p2] q scope f (.ref c) [] s H) (.Name p2 pos) (L8 1):=λs H=>Mr rfl (.inl S.l2.par) S.d1 S.d2;refine wpAny_call (codeAny_mono (R:=λres s'=>match res with|.ok (.ret u)=>EP X pins σ Q u s'|_=>False) (kla_callFunE hr.depth ho' rfl S.l1.co S.l1.gen rfl hcd ?_) ?_)
 .rw[S.bind];refine wpAny_pure ?_;refine wpAny_newFunctionEnv S.l1.ne (λy hy=>?_) (λh' hns hsb=>⟨?_,?_⟩) S.kind
  .rcases mem_cons.mp hy with rfl|hy
   .exact S.l1.par
   .rw[mem_singleton]at hy;subst hy;exact S.l2.par
  .have hk:∀b o,s.heap.get? b=some o->h'.get? b=some o:=λb o e=>(hsb.2 b (ne_of_lt (Heap.lt_size e))).trans (Heap.get?_push_of_some _ e);exact I.nolimit.keeps hk
  .have hk:∀b o,s.heap.get? b=some o->h'.get? b=some o:=λb o e=>(hsb.2 b (ne_of_lt (Heap.lt_size e))).trans (Heap.get?_push_of_some _ e);have J:=SJ (t':=s.toks+[(p1,u),(p2,v)].length) (qual:=q) (f:=f) (cd:=.ref c) S I hf hr.hd hk hns rx ry;refine kla_codeExpr (wpAny_mono (he s H [] _ [some x,some y] H Q J ⟨y,rfl,h⟩) (λv s' hv=>?_) λ_ _ z=>z.elim);obtain⟨y,H',J',ry,q⟩:=hv;obtain⟨hh,g,d,t,os'⟩:=s';obtain rfl:os'=s.os:=J'.os;exact⟨y,H',I.call (h':=hh) (g':=g) (d':=d) (t':=t) (ch:=[]) J'.base J'.hok J'.bare (λb z=>absurd z (by simp)),ry,q⟩
 .intro res s' hq;cases res with
  |error e=>exact hq
  |ok fl=>
   cases fl with
   |ret u=>exact hq
   |next=>exact hq
   |brk=>exact hq
   |cont=>exact hq
end
end L2
namespace L2
open PySem PySem.Spec PyProof.Rows
inductive I where
 |non|bl (b:Bool)|int (i:Int)|str (x:Str)|tup (ds:List I)
inductive D where
 |im (i:I)|mu (n:Nat)|tm (ds:List D)|ro (ns:List Int)|op (nm:Str) (fs:List Str) (ds:List D)|fv (k:Nat) (ds:List D)
inductive MO where
 |lst (ds:List D)|dic (kvs:List (Key×D))
abbrev Hd:=List MO
abbrev Ls:=List (Option D)
def RoL(K:PySem.W.Frag)(H:Hp)(a:Addr)(xs:List V):Prop:=(∃o,H a=some (.frz o (.lst xs))) ∨
 ∃(o:Obj) (its:Array Value) (n:Nat),K.lookup a=some o/\o.cls=.type "list"/\o.dict=none/\o.data=.seq its n/\its.size<=sizeLine/\Vals xs its.toList
def RoL.sq{K:PySem.W.Frag}{H:Hp}{a:Addr}{xs:List V}(h:RoL K H a xs):SqL K H a xs:=by
 rcases h with⟨o,h⟩|h
 .exact .inl (.inr ⟨o,h⟩)
 .exact .inr h
def RoL.grow{K:PySem.W.Frag}{H H':Hp}{a:Addr}{xs:List V}(g:Grow H H')(h:RoL K H a xs):RoL K H' a xs:=by
 rcases h with⟨o,h⟩|h
 .exact .inl ⟨o,g.frz _ _ _ h⟩
 .exact .inr h
def BO(n:Nat):Prop:=n<=sizeLine
def Er(n:Nat):Prop:=n<sizeLine
def Ef(i j:Int):Prop:=(-(2^64)<i/\i<2^64)∨(-(2^64)<j/\j<2^64)
def La(i j:Int):Prop:=0<=j/\j<=1000000/\i.natAbs<2^64
def Ik(j:Int):Prop:=0<j/\j<1073741824
def CH(j:Int):Prop:=0<j
def HE(j:Int):Prop:=-(2^62)<=j/\j<2^62
def T7(i j:Int):Prop:=(-(2^62)<=i/\i<2^62)/\-(2^62)<=j/\j<2^62
def PN(j:Int):Prop:=j<2^24/\-(2^62)<=j
def PM(i j:Int):Prop:=(-(2^62)<=i/\i<2^62)/\(-(2^62)<=j/\j<2^62)/\(j-i).toNat<=2^24
def AS{n:Nat}(h:n<=1000000):BO n:=le_trans h (by rw[sizeLine_eq];decide)
def Ep{n:Nat}(h:n<1000000):Er n:=lt_of_lt_of_le h (by rw[sizeLine_eq];decide)
def EJ{i j:Int}(a:-1000000000000<=i)(b:i<=1000000000000):Ef i j:=.inl ⟨by omega,by omega⟩
def FV{j:Int}(a:-1000000000000<=j)(b:j<=1000000000000):HE j:=⟨by omega,by omega⟩
section
variable(K:PySem.W.Frag)
mutual
def RI(H:Hp):I->V->Prop
 |.non,v=>v=.non
 |.bl b,v=>v=.bl b
 |.int i,v=>v=.int i
 |.str x,v=>v=.str x
 |.tup ds,v=>∃a xs,v=.ref a/\SqT K H a xs/\RIs H ds xs
def RIs(H:Hp):List I->List V->Prop
 |[],xs=>xs=[]
 |d::ds,xs=>∃x r,xs=x::r/\RI H d x/\RIs H ds r
end
mutual
def RD(ρ:List Addr)(H:Hp):D->V->Prop
 |.im i,v=>RI K H i v
 |.mu n,v=>∃a,ρ[n]?=some a/\v=.ref a
 |.tm ds,v=>∃a xs,v=.ref a/\SqT K H a xs/\RDs ρ H ds xs
 |.ro ns,v=>∃a,v=.ref a/\RoL K H a (ns.map V.int)
 |.op nm fs ds,v=>∃a xs,v=.ref a/\ExR K nm fs H a xs/\RDs ρ H ds xs
 |.fv k ds,v=>∃a xs,v=.ref a/\FvR k H a xs/\RDs ρ H ds xs
def RDs(ρ:List Addr)(H:Hp):List D->List V->Prop
 |[],xs=>xs=[]
 |d::ds,xs=>∃x r,xs=x::r/\RD ρ H d x/\RDs ρ H ds r
end
def RKs(ρ:List Addr)(H:Hp):List (Key×D)->List (Key×V)->Prop
 |[],xs=>xs=[]
 |d::ds,xs=>∃x r,xs=x::r/\x.1=d.1/\RD K ρ H d.2 x.2/\RKs ρ H ds r
def RC(ρ:List Addr)(H:Hp):MO->HO->Prop
 |.lst ds,o=>∃xs,o=.lst xs/\RDs K ρ H ds xs
 |.dic kvs,o=>∃kv,o=.dK kv/\RKs K ρ H kvs kv
def Ia:List Value->List (Addr×Str×Pos)
 |.ref P::.str q _::.int l _::.int c _::r=>(P,q,⟨l.toNat,c.toNat,0,0⟩)::Ia r
 |_=>[]
def VZ(o:Obj):List (Addr×Str×Pos):=match o.cls,o.data with
 |.str _ _,.fields vs=>Ia vs.toList
 |_,_=>[]
def Bu(K:PySem.W.Frag):List (Addr×Str×Pos):=match K.getLast? with
 |some p=>VZ p.2
 |none=>[]
def TabsOk(K:PySem.W.Frag)(H:Hp):Prop:=∀x∈Bu K,∃ps,H x.1=some (.tbl ps)/\Ew H x.2.1 x.2.2 ps
structure RH(ρ:List Addr)(H:Hp)(hd:Hd):Prop where
 len:ρ.length=hd.length
 nd:ρ.Nodup
 tabs:TabsOk K H
 ob:∀(n:Nat) (o:MO) (a:Addr),hd[n]?=some o->ρ[n]?=some a->∃ho,H a=some ho/\RC K ρ H o ho
structure RL(ρ:List Addr)(H:Hp)(ls:Ls)(σ:St):Prop where
 len:ls.length=σ.length
 ob:∀(i:Nat) (d:D),ls[i]?=some (some d)->∃v,σ[i]?=some (some v)/\RD K ρ H d v
end
structure Ext(ρ:List Addr)(H:Hp)(ρ':List Addr)(H':Hp):Prop where
 pre:∃r,ρ'=ρ++r/\∀b∈r,H b=none
 keep:∀b o,H b=some o->b∉ρ->(∀ps,o≠.tbl ps)->H' b=some o
 tab:∀b ps,H b=some (.tbl ps)->∃ps',H' b=some (.tbl ps')
def nt{o:HO}(h:match o with|.tbl _=>False|_=>True:=by trivial):∀ps,o≠.tbl ps:=λps e=>by subst e;exact h
theorem TabsOk.upd{K:PySem.W.Frag}{H:Hp}(t:TabsOk K H){a:Addr}{ho:HO}(h1:∀ps,H a≠some (.tbl ps))(h2:∀φ,H a≠some (.ext φ)):TabsOk K (upd H a ho):=λx hx=>by
 obtain⟨ps,e,g⟩:=t x hx;have ne:x.1≠a:=λz=>h1 ps (by rw[<- z];exact e);refine⟨ps,by rw[A4 ne];exact e,?_⟩;rcases g with g|⟨c,g1,g2⟩
 .exact .inl g
 .have nc:c≠a:=λz=>h2 _ (by rw[<- z];exact g2);exact .inr ⟨c,g1,by rw[A4 nc];exact g2⟩
section
variable{K:PySem.W.Frag}{ρ ρ' ρ1 ρ2:List Addr}{H H' H1 H2:Hp}{hd hd' hd1:Hd}
mutual
theorem RI.grow(g:Grow H H'):∀{i:I} {v:V},RI K H i v->RI K H' i v
 |.non,v,h=>by simpa only[RI]using h
 |.bl b,v,h=>by simpa only[RI]using h
 |.int b,v,h=>by simpa only[RI]using h
 |.str b,v,h=>by simpa only[RI]using h
 |.tup ds,v,h=>by
  simp only[RI]at h ⊢;obtain⟨a,xs,e,q,r⟩:=h;exact⟨a,xs,e,g.sq q,RIs.grow g r⟩
theorem RIs.grow(g:Grow H H'):∀{i:List I} {v:List V},RIs K H i v->RIs K H' i v
 |[],v,h=>by simpa only[RIs]using h
 |d::ds,v,h=>by
  simp only[RIs]at h ⊢;obtain⟨x,r,e,q,z⟩:=h;exact⟨x,r,e,q.grow g,RIs.grow g z⟩
end
def RH.mut(h:RH K ρ H hd){a:Addr}(m:a∈ρ):(∃xs,H a=some (.lst xs))∨∃kv,H a=some (.dK kv):=by
 obtain⟨n,e⟩:=mem_iff_getElem?.mp m;have hn:n<hd.length:=by rw[<- h.len];exact(List.getElem?_eq_some_iff.mp e).1
 obtain⟨ho,e1,e2⟩:=h.ob n hd[n] a (by simp[hn]) e;cases q:hd[n]with
 |lst ds=>rw[q]at e2;obtain⟨xs,rfl,_⟩:=e2;exact .inl ⟨xs,e1⟩
 |dic ds=>rw[q]at e2;obtain⟨xs,rfl,_⟩:=e2;exact .inr ⟨xs,e1⟩
def RH.stb_out(h:RH K ρ H hd){a:Addr}{o:HO}(s:Stb o)(e:H a=some o):a∉ρ:=λm=>by
 rcases h.mut m with⟨y,z⟩|⟨y,z⟩<;>(rw[e]at z;cases z;exact s)
def So{o:HO}(s:Stb o):∀ps,o≠.tbl ps:=λps e=>by subst e;exact s
def Ext.grow(e:Ext ρ H ρ' H')(h:RH K ρ H hd):Grow H H':=⟨λb o s q=>e.keep b _ q (h.stb_out s q) (So s)⟩
def Ext.refl:Ext ρ H ρ H:=⟨⟨[],by simp,by simp⟩,λ_ _ h _ _=>h,λ_ ps h=>⟨ps,h⟩⟩
def Ext.trans(e:Ext ρ H ρ1 H1)(h0:RH K ρ1 H1 hd1)(e2:Ext ρ1 H1 ρ2 H2):Ext ρ H ρ2 H2:=by
 obtain⟨r1,rfl,f1⟩:=e.pre;obtain⟨r2,rfl,f2⟩:=e2.pre;refine⟨⟨r1++r2,by simp,λb m=>?_⟩,λb o q n t=>?_,λb ps q=>?_⟩
 .rcases mem_append.mp m with m|m
  .exact f1 b m
  .have z:=f2 b m;cases q:H b with
   |none=>rfl
   |some o=>
    by_cases n:b∈ρ
    .rcases h0.mut (mem_append_left r1 n)with⟨y,w⟩|⟨y,w⟩<;>(rw[z]at w;cases w)
    .by_cases t:∃ps,o=.tbl ps
     .obtain⟨ps,rfl⟩:=t;obtain⟨ps',this⟩:=e.tab b ps q;rw[z]at this;cases this
     .have:=e.keep b o q n λps y=>t ⟨ps,y⟩;rw[z]at this;cases this
 .refine e2.keep b o (e.keep b o q n t) (λm=>?_) t;rcases mem_append.mp m with m|m
  .exact n m
  .have:=f1 b m;rw[q]at this;cases this
 .obtain⟨ps',q'⟩:=e.tab b ps q;exact e2.tab b ps' q'
mutual
theorem RD.mono(g:Grow H H')(r:List Addr):∀{d:D} {v:V},RD K ρ H d v->RD K (ρ++r) H' d v
 |.im i,v,h=>by simp only[RD]at h ⊢;exact h.grow g
 |.mu n,v,h=>by
  simp only[RD]at h ⊢;obtain⟨a,e,q⟩:=h;exact⟨a,by rw[List.getElem?_append_left (List.getElem?_eq_some_iff.mp e).1];exact e,q⟩
 |.tm ds,v,h=>by
  simp only[RD]at h ⊢;obtain⟨a,xs,e,q,z⟩:=h;exact⟨a,xs,e,g.sq q,RDs.mono g r z⟩
 |.ro ns,v,h=>by
  simp only[RD]at h ⊢;obtain⟨a,e,q⟩:=h;exact⟨a,e,q.grow g⟩
 |.op nm fs ds,v,h=>by
  simp only[RD]at h ⊢;obtain⟨a,xs,e,q,z⟩:=h;exact⟨a,xs,e,q.grow g,RDs.mono g r z⟩
 |.fv k ds,v,h=>by
  simp only[RD]at h ⊢;obtain⟨a,xs,e,q,z⟩:=h;exact⟨a,xs,e,q.grow g,RDs.mono g r z⟩
theorem RDs.mono(g:Grow H H')(r:List Addr):∀{d:List D} {v:List V},RDs K ρ H d v->RDs K (ρ++r) H' d v
 |[],v,h=>by simpa only[RDs]using h
 |d::ds,v,h=>by
  simp only[RDs]at h ⊢;obtain⟨x,r',e,q,z⟩:=h;exact⟨x,r',e,q.mono g r,RDs.mono g r z⟩
end
theorem RKs.mono(g:Grow H H')(r:List Addr):∀{d:List (Key×D)} {v:List (Key×V)},RKs K ρ H d v->RKs K (ρ++r) H' d v
 |[],v,h=>by simpa only[RKs]using h
 |d::ds,v,h=>by
  simp only[RKs]at h ⊢;obtain⟨x,r',e,q1,q,z⟩:=h;exact⟨x,r',e,q1,q.mono g r,RKs.mono g r z⟩
theorem RC.mono(g:Grow H H')(r:List Addr){o:MO}{ho:HO}(h:RC K ρ H o ho):RC K (ρ++r) H' o ho:=by
 cases o with
 |lst ds=>obtain⟨xs,e,q⟩:=h;exact⟨xs,e,q.mono g r⟩
 |dic ds=>obtain⟨xs,e,q⟩:=h;exact⟨xs,e,q.mono g r⟩
def RD.ext(h:RH K ρ H hd)(e:Ext ρ H ρ' H'){d:D}{v:V}(q:RD K ρ H d v):RD K ρ' H' d v:=by
 obtain⟨r,rfl,_⟩:=e.pre;exact q.mono (e.grow h) r
def RDs.ext(h:RH K ρ H hd)(e:Ext ρ H ρ' H'){d:List D}{v:List V}(q:RDs K ρ H d v):RDs K ρ' H' d v:=by
 obtain⟨r,rfl,_⟩:=e.pre;exact q.mono (e.grow h) r
theorem RL.ext(h:RH K ρ H hd)(e:Ext ρ H ρ' H'){ls:Ls}{σ:St}(q:RL K ρ H ls σ):RL K ρ' H' ls σ:=
 ⟨q.len,λi d z=>let ⟨v,a,b⟩:=q.ob i d z;⟨v,a,b.ext h e⟩⟩
theorem RDs.len:∀{ds:List D} {xs:List V},RDs K ρ H ds xs->xs.length=ds.length
 |[],xs,h=>by simp only[RDs]at h;rw[h];rfl
 |d::ds,xs,h=>by
  simp only[RDs]at h;obtain⟨x,r,rfl,_,z⟩:=h;simp[RDs.len z]
theorem RDs.get:∀{ds:List D} {xs:List V} {i:Nat} {d:D},RDs K ρ H ds xs->ds[i]?=some d->∃x,xs[i]?=some x/\RD K ρ H d x
 |[],xs,i,d,h,e=>by simp at e
 |d::ds,xs,0,e,h,q=>by
  simp only[RDs]at h;obtain⟨x,r,rfl,z,_⟩:=h;simp at q;subst q;exact⟨x,rfl,z⟩
 |d::ds,xs,i+1,e,h,q=>by
  simp only[RDs]at h;obtain⟨x,r,rfl,_,z⟩:=h;obtain⟨y,a,b⟩:=RDs.get (i:=i) z (by simpa using q);exact⟨y,by simpa using a,b⟩
def RDs.nil:RDs K ρ H [] []:=by simp[RDs]
def RDs.cons{d:D}{v:V}{ds:List D}{vs:List V}(h:RD K ρ H d v)(t:RDs K ρ H ds vs):RDs K ρ H (d::ds) (v::vs):=by
 simp only[RDs];exact⟨v,vs,rfl,h,t⟩
theorem RDs.app:∀{ds es:List D} {xs ys:List V},RDs K ρ H ds xs->RDs K ρ H es ys->RDs K ρ H (ds++es) (xs++ys)
 |[],es,xs,ys,h,t=>by simp only[RDs]at h;subst h;simpa using t
 |d::ds,es,xs,ys,h,t=>by
  simp only[RDs]at h;obtain⟨x,r,rfl,z,q⟩:=h;simp only[cons_append];exact .cons z (q.app t)
theorem RDs.set:∀{ds:List D} {xs:List V} {d:D} {v:V} (i:Nat),RDs K ρ H ds xs->RD K ρ H d v->RDs K ρ H (ds.set i d) (xs.set i v)
 |[],xs,d,v,i,h,t=>by simp only[RDs]at h;subst h;simp[RDs]
 |d::ds,xs,e,v,0,h,t=>by
  simp only[RDs]at h;obtain⟨x,r,rfl,z,q⟩:=h;simpa using RDs.cons t q
 |d::ds,xs,e,v,i+1,h,t=>by
  simp only[RDs]at h;obtain⟨x,r,rfl,z,q⟩:=h;simpa using RDs.cons z (q.set i t)
theorem RDs.drop:∀{ds:List D} {xs:List V} (n:Nat),RDs K ρ H ds xs->RDs K ρ H (ds.drop n) (xs.drop n)
 |ds,xs,0,h=>by simpa using h
 |[],xs,n+1,h=>by simp only[RDs]at h;subst h;simp[RDs]
 |d::ds,xs,n+1,h=>by
  simp only[RDs]at h;obtain⟨x,r,rfl,z,q⟩:=h;simpa using q.drop n
theorem RDs.take:∀{ds:List D} {xs:List V} (n:Nat),RDs K ρ H ds xs->RDs K ρ H (ds.take n) (xs.take n)
 |ds,xs,0,h=>by simp[RDs]
 |[],xs,n+1,h=>by simp only[RDs]at h;subst h;simp[RDs]
 |d::ds,xs,n+1,h=>by
  simp only[RDs]at h;obtain⟨x,r,rfl,z,q⟩:=h;simpa using RDs.cons z (q.take n)
theorem RIs.ds:∀{is:List I} {xs:List V},RIs K H is xs->RDs K ρ H (is.map D.im) xs
 |[],xs,h=>by simpa only[RIs,RDs,map_nil]using h
 |i::is,xs,h=>by
  simp only[RIs]at h;obtain⟨x,r,rfl,z,q⟩:=h;exact .cons (by simpa only[RD]using z) q.ds
theorem RDs.is:∀{is:List I} {xs:List V},RDs K ρ H (is.map D.im) xs->RIs K H is xs
 |[],xs,h=>by simpa only[RIs,RDs,map_nil]using h
 |i::is,xs,h=>by
  simp only[map_cons,RDs]at h;obtain⟨x,r,rfl,z,q⟩:=h;simp only[RIs];exact⟨x,r,rfl,by simpa only[RD]using z,q.is⟩
def RH.new(h:RH K ρ H hd){a:Addr}(ha:H a=none){o:MO}{ho:HO}(c:RC K ρ H o ho):RH K (ρ++[a]) (upd H a ho) (hd++[o])/\Ext ρ H (ρ++[a]) (upd H a ho):=by
 have out:a∉ρ:=λm=>by rcases h.mut m with⟨y,z⟩|⟨y,z⟩<;>(rw[ha]at z;cases z)
 have ex:Ext ρ H (ρ++[a]) (upd H a ho):=⟨⟨[a],rfl,λb m=>by simp at m;subst m;exact ha⟩,λb o q n _=>by rw[A4 (AG q ha)];exact q,λb ps q=>⟨ps,by rw[A4 (AG q ha)];exact q⟩⟩
 refine⟨⟨by simp[h.len],?_,h.tabs.upd (by simp[ha]) (by simp[ha]),λn o' b e1 e2=>?_⟩,ex⟩
 .rw[nodup_append];refine⟨h.nd,by simp,λx hx y hy z=>?_⟩;simp at hy;subst hy;subst z;exact out hx
 .have gr:=ex.grow h;by_cases hn:n<ρ.length
  .rw[List.getElem?_append_left hn]at e2;rw[List.getElem?_append_left (by rw[<- h.len];exact hn)]at e1;obtain⟨ho',q1,q2⟩:=h.ob n o' b e1 e2;exact⟨ho',by rw[A4 (AG q1 ha)];exact q1,q2.mono gr [a]⟩
  .have hn':n=ρ.length:=by
    have:=(List.getElem?_eq_some_iff.mp e2).1;simp at this;omega
   subst hn';simp at e2;rw[h.len]at e1;simp at e1;subst e1;subst e2;exact⟨ho,AE,c.mono gr [a]⟩
def RH.put(h:RH K ρ H hd){n:Nat}{a:Addr}(hn:ρ[n]?=some a){o:MO}{ho:HO}(c:RC K ρ H o ho):RH K ρ (upd H a ho) (hd.set n o)/\Ext ρ H ρ (upd H a ho):=by
 have ha:=h.mut (mem_of_getElem? hn);have n1:∀ps,H a≠some (.tbl ps):=λps e=>by rcases ha with⟨y,z⟩|⟨y,z⟩<;>(rw[e]at z;cases z)
 have n2:∀φ,H a≠some (.ext φ):=λps e=>by rcases ha with⟨y,z⟩|⟨y,z⟩<;>(rw[e]at z;cases z)
 have ex:Ext ρ H ρ (upd H a ho):=⟨⟨[],by simp,by simp⟩,λb o q m _=>by
  have:b≠a:=λz=>m (by rw[z];exact mem_of_getElem? hn);rw[A4 this];exact q,λb ps q=>⟨ps,(A4 (show b≠a from λz=>n1 ps (by rw[<- z];exact q))).trans q⟩⟩
 have gr:=ex.grow h;refine⟨⟨by simp[h.len],h.nd,h.tabs.upd n1 n2,λm o' b e1 e2=>?_⟩,ex⟩;have hm:m<hd.length:=by rw[<- h.len];exact(List.getElem?_eq_some_iff.mp e2).1
 by_cases hmn:m=n
 .subst hmn;rw[hn]at e2;cases e2;rw[List.getElem?_set_self hm]at e1;cases e1;exact⟨ho,AE,by simpa using c.mono gr []⟩
 .rw[List.getElem?_set_ne (λz=>hmn z.symm)]at e1;obtain⟨ho',q1,q2⟩:=h.ob m o' b e1 e2;have:b≠a:=λz=>by
   subst z;have l1:=(List.getElem?_eq_some_iff.mp e2).1;have l2:=(List.getElem?_eq_some_iff.mp hn).1;exact hmn ((List.getElem?_inj l1 h.nd).mp (e2.trans hn.symm))
  exact⟨ho',by rw[A4 this];exact q1,by simpa using q2.mono gr []⟩
theorem RH.lst(h:RH K ρ H hd){n:Nat}{a:Addr}{ds:List D}(hn:ρ[n]?=some a)(e:hd[n]?=some (.lst ds)):∃xs,H a=some (.lst xs)/\RDs K ρ H ds xs:=by
 obtain⟨ho,q,xs,rfl,r⟩:=h.ob n _ a e hn;exact⟨xs,q,r⟩
theorem RH.dic(h:RH K ρ H hd){n:Nat}{a:Addr}{ds:List (Key×D)}(hn:ρ[n]?=some a)(e:hd[n]?=some (.dic ds)):∃xs,H a=some (.dK xs)/\RKs K ρ H ds xs:=by
 obtain⟨ho,q,xs,rfl,r⟩:=h.ob n _ a e hn;exact⟨xs,q,r⟩
def RH.hid(h:RH K ρ H hd){a:Addr}(ha:H a=none){ho:HO}:RH K ρ (upd H a ho) hd/\Ext ρ H ρ (upd H a ho):=by
 have out:a∉ρ:=λm=>by rcases h.mut m with⟨y,z⟩|⟨y,z⟩<;>(rw[ha]at z;cases z)
 have ex:Ext ρ H ρ (upd H a ho):=⟨⟨[],by simp,by simp⟩,λb o q n _=>by rw[A4 (AG q ha)];exact q,λb ps q=>⟨ps,by rw[A4 (AG q ha)];exact q⟩⟩
 have gr:=ex.grow h;refine⟨⟨h.len,h.nd,h.tabs.upd (by simp[ha]) (by simp[ha]),λm o' b e1 e2=>?_⟩,ex⟩;obtain⟨ho',q1,q2⟩:=h.ob m o' b e1 e2;exact⟨ho',by rw[A4 (AG q1 ha)];exact q1,by simpa using q2.mono gr []⟩
def RH.hput(h:RH K ρ H hd){a:Addr}(out:a∉ρ){xs:List V}{ho:HO}(hl:H a=some (.lst xs)):RH K ρ (upd H a ho) hd:=by
 have gr:Grow H (upd H a ho):=Grow.refl.put (.lst hl);refine⟨h.len,h.nd,h.tabs.upd (by simp[hl]) (by simp[hl]),λm o' b e1 e2=>?_⟩;obtain⟨ho',q1,q2⟩:=h.ob m o' b e1 e2;have:b≠a:=λz=>out (by rw[<- z];exact mem_of_getElem? e2);exact⟨ho',by rw[A4 this];exact q1,by simpa using q2.mono gr []⟩
end
end L2
namespace L2
open PySem PySem.Spec PyProof.Rows
abbrev ME:=Ls->Hd->Option (D×Hd)
abbrev MT:=Ls->Hd->Option (Bool×Hd)
abbrev MA:=Ls->Hd->Option (List D×Hd)
inductive Fl where
 |nx (ls:Ls)|rt (d:D)|bk (ls:Ls)|ct (ls:Ls)
abbrev MS:=Ls->Hd->Option (Fl×Hd)
section
variable(K:PySem.W.Frag)
def RE(t:TE)(m:ME):Prop:=∀(ρ:List Addr) (σ:St) (H:Hp) (hd:Hd) (ls:Ls) (Q:VK) (d:D) (hd':Hd),RH K ρ H hd->RL K ρ H ls σ->m ls hd=some (d,hd') ->
 (∀ρ' H' v,Ext ρ H ρ' H'->RH K ρ' H' hd'->RD K ρ' H' d v->Q v H')->t σ H Q
def RT(t:TT)(m:MT):Prop:=∀(ρ:List Addr) (σ:St) (H:Hp) (hd:Hd) (ls:Ls) (Q:Bool->Hp->Prop) (d:Bool) (hd':Hd),RH K ρ H hd->RL K ρ H ls σ->m ls hd=some (d,hd') ->
 (∀ρ' H',Ext ρ H ρ' H'->RH K ρ' H' hd'->Q d H')->t σ H Q
def RA(t:TA)(m:MA):Prop:=∀(ρ:List Addr) (σ:St) (H:Hp) (hd:Hd) (ls:Ls) (Q:List V->Hp->Prop) (d:List D) (hd':Hd),RH K ρ H hd->RL K ρ H ls σ->m ls hd=some (d,hd') ->
 (∀ρ' H' v,Ext ρ H ρ' H'->RH K ρ' H' hd'->RDs K ρ' H' d v->Q v H')->t σ H Q
def RN(t:TE)(m:MA):Prop:=∀(ρ:List Addr) (σ:St) (H:Hp) (hd:Hd) (ls:Ls) (Q:VK) (d:List D) (hd':Hd),RH K ρ H hd->RL K ρ H ls σ->m ls hd=some (d,hd') ->
 (∀ρ' H' a xs,Ext ρ H ρ' H'->RH K ρ' H' hd'->H a=none->a∉ρ'->H' a=some (.lst xs)->RDs K ρ' H' d xs->Q (.ref a) H')->t σ H Q
def WU(E:Ends)(ρ:List Addr)(H:Hp):Fl->Prop
 |.nx ls=>∀σ,RL K ρ H ls σ->E.nx σ H
 |.bk ls=>∀σ,RL K ρ H ls σ->E.bk σ H
 |.ct ls=>∀σ,RL K ρ H ls σ->E.ct σ H
 |.rt d=>∀v,RD K ρ H d v->E.rt v H
def RS(t:TS)(m:MS):Prop:=∀(ρ:List Addr) (σ:St) (H:Hp) (hd:Hd) (ls:Ls) (E:Ends) (f:Fl) (hd':Hd),RH K ρ H hd->RL K ρ H ls σ->m ls hd=some (f,hd') ->
 (∀ρ' H',Ext ρ H ρ' H'->RH K ρ' H' hd'->WU K E ρ' H' f)->t E σ H
def RB(r:R2)(f:D->D->Hd->Option (D×Hd)):Prop:=∀(ρ:List Addr) (H:Hp) (hd:Hd) (d e:D) (v u:V) (Q:VK) (z:D) (hd':Hd),RH K ρ H hd->RD K ρ H d v->RD K ρ H e u->f d e hd=some (z,hd') ->
 (∀ρ' H' w,Ext ρ H ρ' H'->RH K ρ' H' hd'->RD K ρ' H' z w->Q w H')->r v u H Q
def RF(r:List V->Hp->VK->Prop)(f:List D->Hd->Option (D×Hd)):Prop:=∀(ρ:List Addr) (H:Hp) (hd:Hd) (ds:List D) (vs:List V) (Q:VK) (z:D) (hd':Hd),RH K ρ H hd->RDs K ρ H ds vs->f ds hd=some (z,hd') ->
 (∀ρ' H' w,Ext ρ H ρ' H'->RH K ρ' H' hd'->RD K ρ' H' z w->Q w H')->r vs H Q
def RG(tp:Bool)(r:List V->Hp->VK->Prop)(g:List D->Option D):Prop:=∀(ρ:List Addr) (H:Hp) (hd:Hd) (a:Addr) (xs:List V) (ds:List D) (Q:VK) (z:D),RH K ρ H hd->(SqL K H a xs∨(tp=true/\SqT K H a xs))->RDs K ρ H ds xs->g ds=some z ->
 (∀H' w,Ext ρ H ρ H'->RH K ρ H' hd->RD K ρ H' z w->Q w H')->r [.ref a] H Q
end
structure QE(K:PySem.W.Frag)(X:Cx)(e:Expr)(t:TE)(m:ME):Prop where
 p:PE X e t
 r:RE K t m
structure QT(K:PySem.W.Frag)(X:Cx)(e:Expr)(t:TT)(m:MT):Prop where
 p:PT X e t
 r:RT K t m
structure QW(K:PySem.W.Frag)(X:Cx)(e:Expr)(t:TT)(m:MT):Prop where
 p:PW X e t
 r:RT K t m
structure QA(K:PySem.W.Frag)(X:Cx)(e:List Expr)(t:TA)(m:MA):Prop where
 p:PA X e t
 r:RA K t m
structure QN(K:PySem.W.Frag)(X:Cx)(e:Expr)(t:TE)(m:MA):Prop where
 p:PE X e t
 r:RN K t m
structure QS(K:PySem.W.Frag)(X:Cx)(e:Stmt)(t:TS)(m:MS):Prop where
 p:PS X e t
 r:RS K t m
structure QSs(K:PySem.W.Frag)(X:Cx)(e:List Stmt)(t:TS)(m:MS):Prop where
 p:PSs X e t
 r:RS K t m
def AZ:D->Option (List D)
 |.im (.tup is)=>some (is.map .im)
 |.tm ds=>some ds
 |_=>none
def Aa(hd:Hd):D->Option (List D)
 |.mu n=>match hd[n]? with
  |some (.lst ds)=>some ds
  |_=>none
 |.ro ns=>some (ns.map λn=>.im (.int n))
 |_=>none
def Am(hd:Hd)(d:D):Option (List D):=match AZ d with
 |some ds=>some ds
 |none=>Aa hd d
def Aj:List D->Option (List I)
 |[]=>some []
 |.im i::r=>(Aj r).map (i::·)
 |_::_=>none
def AV(ds:List D):D:=match Aj ds with
 |some is=>.im (.tup is)
 |none=>.tm ds
def Af:List D->Option (List Int)
 |[]=>some []
 |.im (.int i)::r=>(Af r).map (i::·)
 |_::_=>none
def BJ:List D->Option (List Bool)
 |[]=>some []
 |.im (.bl i)::r=>(BJ r).map (i::·)
 |_::_=>none
section
variable{K:PySem.W.Frag}{ρ ρ':List Addr}{H H':Hp}{hd hd':Hd}
theorem Ev:∀{ds:List D} {is:List I},Aj ds=some is->ds=is.map .im
 |[],is,h=>by simp[Aj]at h;subst h;rfl
 |.im i::r,is,h=>by
  simp only[Aj,map_eq_some_iff]at h;obtain⟨js,e,rfl⟩:=h;simp[Ev e]
 |.mu _::_,is,h=>by simp[Aj]at h
 |.tm _::_,is,h=>by simp[Aj]at h
 |.ro _::_,is,h=>by simp[Aj]at h
 |.op _ _ _::_,is,h=>by simp[Aj]at h
 |.fv _ _::_,is,h=>by simp[Aj]at h
theorem De:∀{ds:List D} {is:List Int},Af ds=some is->ds=is.map λi=>.im (.int i)
 |[],is,h=>by simp[Af]at h;subst h;rfl
 |.im (.int i)::r,is,h=>by
  simp only[Af,map_eq_some_iff]at h;obtain⟨js,e,rfl⟩:=h;simp[De e]
 |.im (.bl _)::_,is,h=>by simp[Af]at h
 |.im (.str _)::_,is,h=>by simp[Af]at h
 |.im .non::_,is,h=>by simp[Af]at h
 |.im (.tup _)::_,is,h=>by simp[Af]at h
 |.mu _::_,is,h=>by simp[Af]at h
 |.tm _::_,is,h=>by simp[Af]at h
 |.ro _::_,is,h=>by simp[Af]at h
 |.op _ _ _::_,is,h=>by simp[Af]at h
 |.fv _ _::_,is,h=>by simp[Af]at h
theorem Hf:∀{ds:List D} {is:List Bool},BJ ds=some is->ds=is.map λi=>.im (.bl i)
 |[],is,h=>by simp[BJ]at h;subst h;rfl
 |.im (.bl i)::r,is,h=>by
  simp only[BJ,map_eq_some_iff]at h;obtain⟨js,e,rfl⟩:=h;simp[Hf e]
 |.im (.int _)::_,is,h=>by simp[BJ]at h
 |.im (.str _)::_,is,h=>by simp[BJ]at h
 |.im .non::_,is,h=>by simp[BJ]at h
 |.im (.tup _)::_,is,h=>by simp[BJ]at h
 |.mu _::_,is,h=>by simp[BJ]at h
 |.tm _::_,is,h=>by simp[BJ]at h
 |.ro _::_,is,h=>by simp[BJ]at h
 |.op _ _ _::_,is,h=>by simp[BJ]at h
 |.fv _ _::_,is,h=>by simp[BJ]at h
@[simp] theorem NK(is:List I):Aj (is.map .im)=some is:=by induction is<;>simp_all [Aj]
@[simp] theorem Hz(is:List Int):Af (is.map λi=>.im (.int i))=some is:=by induction is<;>simp_all [Af]
@[simp] theorem blsD_map(is:List Bool):BJ (is.map λi=>.im (.bl i))=some is:=by induction is<;>simp_all [BJ]
theorem EG:∀{ns:List Int} {xs:List V},RDs K ρ H (ns.map λi=>.im (.int i)) xs->xs=ns.map V.int
 |[],xs,h=>by simpa [RDs]using h
 |n::ns,xs,h=>by
  simp only[map_cons,RDs,RD,RI]at h;obtain⟨x,r,rfl,rfl,z⟩:=h;rw[EG z];rfl
theorem Fg:∀{ns:List Int},RDs K ρ H (ns.map λi=>.im (.int i)) (ns.map V.int)
 |[]=>by simp[RDs]
 |n::ns=>by simp only[map_cons];exact .cons (by simp[RD,RI]) Fg
theorem JR:∀{ns:List Bool} {xs:List V},RDs K ρ H (ns.map λi=>.im (.bl i)) xs->xs=ns.map V.bl
 |[],xs,h=>by simpa [RDs]using h
 |n::ns,xs,h=>by
  simp only[map_cons,RDs,RD,RI]at h;obtain⟨x,r,rfl,rfl,z⟩:=h;rw[JR z];rfl
theorem RD.tup{d:D}{v:V}{ds:List D}(h:RD K ρ H d v)(e:AZ d=some ds):∃a xs,v=.ref a/\SqT K H a xs/\RDs K ρ H ds xs:=by
 cases d with
 |im i=>
  cases i with
  |tup is=>
   simp only[AZ,Option.some.injEq]at e;subst e;simp only[RD,RI]at h;obtain⟨a,xs,rfl,q,r⟩:=h;exact⟨a,xs,rfl,q,r.ds⟩
  |_=>simp[AZ]at e
 |tm es=>
  simp only[AZ,Option.some.injEq]at e;subst e;simpa only[RD]using h
 |_=>simp[AZ]at e
theorem RD.lst{d:D}{v:V}{ds:List D}(hR:RH K ρ H hd)(h:RD K ρ H d v)(e:Aa hd d=some ds):∃a xs,v=.ref a/\SqL K H a xs/\RDs K ρ H ds xs:=by
 cases d with
 |mu n=>
  simp only[Aa]at e;simp only[RD]at h;obtain⟨a,hn,rfl⟩:=h;split at e
  .next q=>
   cases e;obtain⟨xs,e1,e2⟩:=hR.lst hn q;exact⟨a,xs,rfl,SqL.of e1,e2⟩
  .cases e
 |ro ns=>
  simp only[Aa,Option.some.injEq]at e;subst e;simp only[RD]at h;obtain⟨a,rfl,q⟩:=h;exact⟨a,_,rfl,q.sq,Fg⟩
 |_=>simp[Aa]at e
def RD.seq{d:D}{v:V}{ds:List D}(hR:RH K ρ H hd)(h:RD K ρ H d v)(e:Am hd d=some ds):∃a xs,v=.ref a/\(SqL K H a xs∨SqT K H a xs)/\RDs K ρ H ds xs:=by
 unfold Am at e;split at e
 .next q=>
  cases e;obtain⟨a,xs,e1,e2,e3⟩:=h.tup q;exact⟨a,xs,e1,.inr e2,e3⟩
 .obtain⟨a,xs,e1,e2,e3⟩:=h.lst hR e;exact⟨a,xs,e1,.inl e2,e3⟩
def BW{ds:List D}{a:Addr}{xs:List V}(q:SqT K H a xs)(r:RDs K ρ H ds xs):RD K ρ H (AV ds) (.ref a):=by
 unfold AV;split
 .next e=>
  rw[Ev e]at r;simp only[RD,RI];exact⟨a,xs,rfl,q,r.is⟩
 .simp only[RD];exact⟨a,xs,rfl,q,r⟩
def A0(i:Nat):ME:=λls hd=>match ls[i]? with
 |some (some d)=>some (d,hd)
 |_=>none
def TM{i:Nat}:RE K (L8 i) (A0 i):=by
 and_intros;unfold A0 at hm;split at hm
 .next e=>
  cases hm;obtain⟨v,e1,e2⟩:=hL.ob i _ e;exact⟨v,e1,hQ ρ H v .refl hR e2⟩
 .cases hm
def mC(i:I):ME:=λ_ hd=>some (.im i,hd)
def O3{v:V}{i:I}(h:∀H,RI K H i v):RE K (tC v) (mC i):=by
 and_intros;cases hm;exact hQ ρ H v .refl hR (by simpa only[RD]using h H)
def mOp(f:D->D->Hd->Option (D×Hd))(ma mb:ME):ME:=λls hd=>(ma ls hd).bind λp=>(mb ls p.2).bind λq=>f p.1 q.1 q.2
def Ie{r:R2}{f:D->D->Hd->Option (D×Hd)}{ta tb:TE}{ma mb:ME}(hr:RB K r f)(ha:RE K ta ma)(hb:RE K tb mb):RE K (tOp r ta tb) (mOp f ma mb):=by
 and_intros;obtain⟨⟨d1,h1⟩,e1,hm⟩:=Yd hm;obtain⟨⟨d2,h2⟩,e2,hm⟩:=Yd hm;refine ha ρ σ H hd ls _ d1 h1 hR hL e1 λρ1 H1 v1 x1 R1 r1=>?_;refine hb ρ1 σ H1 h1 ls _ d2 h2 R1 (hL.ext hR x1) e2 λρ2 H2 v2 x2 R2 r2=>?_;exact hr ρ2 H2 h2 d1 d2 v1 v2 Q d hd' R2 (r1.ext R1 x2) r2 hm λρ' H' w x3 R3 r3=>hQ ρ' H' w ((x1.trans R1 x2).trans R2 x3) R3 r3
def Ej(ta tb:MT):MT:=λls hd=>(ta ls hd).bind λp=>if p.1=true then tb ls p.2 else some (false,p.2)
def mOr(ta tb:MT):MT:=λls hd=>(ta ls hd).bind λp=>if p.1=true then some (true,p.2)else tb ls p.2
def CN(ta:MT):MT:=λls hd=>(ta ls hd).bind λp=>some (!p.1,p.2)
def T3{ta tb:TT}{ma mb:MT}(ha:RT K ta ma)(hb:RT K tb mb):RT K (Nm ta tb) (Ej ma mb):=by
 and_intros;obtain⟨⟨d1,h1⟩,e1,hm⟩:=Yd hm;refine ha ρ σ H hd ls _ d1 h1 hR hL e1 λρ1 H1 x1 R1=>?_;cases d1 with
 |true=>
  rw[if_pos rfl]at hm ⊢;exact hb ρ1 σ H1 h1 ls Q d hd' R1 (hL.ext hR x1) hm λρ2 H2 x2 R2=>hQ ρ2 H2 (x1.trans R1 x2) R2
 |false=>
  rw[if_neg Bool.false_ne_true]at hm ⊢;cases hm;exact hQ ρ1 H1 x1 R1
def Va{ta tb:TT}{ma mb:MT}(ha:RT K ta ma)(hb:RT K tb mb):RT K (tOr ta tb) (mOr ma mb):=by
 and_intros;obtain⟨⟨d1,h1⟩,e1,hm⟩:=Yd hm;refine ha ρ σ H hd ls _ d1 h1 hR hL e1 λρ1 H1 x1 R1=>?_;cases d1 with
 |true=>
  rw[if_pos rfl]at hm ⊢;cases hm;exact hQ ρ1 H1 x1 R1
 |false=>
  rw[if_neg Bool.false_ne_true]at hm ⊢;exact hb ρ1 σ H1 h1 ls Q d hd' R1 (hL.ext hR x1) hm λρ2 H2 x2 R2=>hQ ρ2 H2 (x1.trans R1 x2) R2
def T2{ta:TT}{ma:MT}(ha:RT K ta ma):RT K (Ng ta) (CN ma):=by
 and_intros;obtain⟨⟨d1,h1⟩,e1,hm⟩:=Yd hm;cases hm;exact ha ρ σ H hd ls _ d1 h1 hR hL e1 λρ1 H1 x1 R1=>hQ ρ1 H1 x1 R1
open Classical in
def C5(hd:Hd):D->Option Bool
 |.im .non=>some false
 |.im (.bl b)=>some b
 |.im (.int i)=>some (i != 0)
 |.im (.str x)=>if BO x.length then some ((x.length:Int) != 0)else none
 |.im (.tup is)=>some (!is.isEmpty)
 |.tm is=>some (!is.isEmpty)
 |.ro ns=>some (!ns.isEmpty)
 |.op _ _ _=>none
 |.fv _ _=>none
 |.mu n=>match hd[n]? with
  |some (.lst ds)=>some (!ds.isEmpty)
  |some (.dic ds)=>some (!ds.isEmpty)
  |none=>none
def CB{α β:Type}{xs:List α}{ys:List β}(h:xs.length=ys.length):xs.isEmpty=ys.isEmpty:=by
 cases xs<;>cases ys<;>simp_all
theorem RKs.len:∀{ds:List (Key×D)} {xs:List (Key×V)},RKs K ρ H ds xs->xs.length=ds.length
 |[],xs,h=>by simp only[RKs]at h;rw[h];rfl
 |d::ds,xs,h=>by
  simp only[RKs]at h;obtain⟨x,r,rfl,_,_,z⟩:=h;simp[RKs.len z]
def Q2{d:D}{v:V}{b:Bool}(hR:RH K ρ H hd)(h:RD K ρ H d v)(e:C5 hd d=some b):K3 K v H b:=by
 cases d with
 |im i=>
  cases i with
  |non=>simp only[RD,RI]at h;subst h;simp only[C5,Option.some.injEq]at e;subst e;exact rfl
  |bl c=>simp only[RD,RI]at h;subst h;simp only[C5,Option.some.injEq]at e;subst e;exact rfl
  |int c=>simp only[RD,RI]at h;subst h;simp only[C5,Option.some.injEq]at e;subst e;exact rfl
  |str c=>
   simp only[RD,RI]at h;subst h;simp only[C5]at e;split at e
   .next z=>cases e;exact⟨z,rfl⟩
   .cases e
  |tup is=>
   obtain⟨a,xs,rfl,q,r⟩:=h.tup (ds:=is.map .im) rfl;simp only[C5,Option.some.injEq]at e;subst e;exact .inr (.inl ⟨xs,q,by rw[CB (show xs.length=is.length by simpa using r.len)]⟩)
 |tm ds=>
  obtain⟨a,xs,rfl,q,r⟩:=h.tup (ds:=ds) rfl;simp only[C5,Option.some.injEq]at e;subst e;exact .inr (.inl ⟨xs,q,by rw[CB r.len]⟩)
 |ro ns=>
  obtain⟨a,xs,rfl,q,r⟩:=h.lst hR (hd:=hd) (ds:=ns.map λn=>.im (.int n)) rfl;simp only[C5,Option.some.injEq]at e;subst e;exact .inl ⟨xs,q,by rw[CB (show xs.length=ns.length by simpa using r.len)]⟩
 |op _ _ _=>simp[C5]at e
 |fv _ _=>simp[C5]at e
 |mu n=>
  simp only[RD]at h;obtain⟨a,hn,rfl⟩:=h;simp only[C5]at e;split at e
  .next q=>
   cases e;obtain⟨xs,e1,e2⟩:=hR.lst hn q;exact .inl ⟨xs,SqL.of e1,by rw[CB e2.len]⟩
  .next q=>
   cases e;obtain⟨xs,e1,e2⟩:=hR.dic hn q;exact .inr (.inr ⟨xs,e1,by rw[CB e2.len]⟩)
  .cases e
def BN(ma:ME):MT:=λls hd=>(ma ls hd).bind λp=>(C5 p.2 p.1).map (·,p.2)
def Nr{ta:TE}{ma:ME}(ha:RE K ta ma):RT K (λσ H Q=>ta σ H λx H'=>∃k,K3 K x H' k/\Q k H') (BN ma):=by
 and_intros;obtain⟨⟨d1,h1⟩,e1,hm⟩:=Yd hm;obtain⟨b,e2,e3⟩:=Ye hm;cases e3;exact ha ρ σ H hd ls _ d1 h1 hR hL e1 λρ1 H1 v x1 R1 r1=>⟨_,Q2 R1 r1 e2,hQ ρ1 H1 x1 R1⟩
def AH(ma:ME):MT:=λls hd=>(ma ls hd).bind λp=>match p.1 with
 |.im (.bl b)=>some (b,p.2)
 |_=>none
def EF{ta:TE}{ma:ME}(ha:RE K ta ma):RT K (Ic ta) (AH ma):=by
 and_intros;obtain⟨⟨d1,h1⟩,e1,hm⟩:=Yd hm;dsimp only at hm;split at hm
 .cases hm;exact ha ρ σ H hd ls _ _ _ hR hL e1 λρ1 H1 v x1 R1 r1=>⟨_,by simpa only[RD,RI]using r1,hQ ρ1 H1 x1 R1⟩
 .cases hm
def Wf{ta:TE}{ma:ME}(ha:RE K ta ma):RT K (tB ta) (AH ma):=EF ha
def mIf(c:MT)(ma mb:ME):ME:=λls hd=>(c ls hd).bind λp=>if p.1=true then ma ls p.2 else mb ls p.2
def Ve{tc:TT}{c:MT}{ta tb:TE}{ma mb:ME}(hc:RT K tc c)(ha:RE K ta ma)(hb:RE K tb mb):RE K (tIf tc ta tb) (mIf c ma mb):=by
 and_intros;obtain⟨⟨d1,h1⟩,e1,hm⟩:=Yd hm;refine hc ρ σ H hd ls _ d1 h1 hR hL e1 λρ1 H1 x1 R1=>?_;cases d1 with
 |true=>
  rw[if_pos rfl]at hm ⊢;exact ha ρ1 σ H1 h1 ls Q d hd' R1 (hL.ext hR x1) hm λρ2 H2 v x2 R2 r2=>hQ ρ2 H2 v (x1.trans R1 x2) R2 r2
 |false=>
  rw[if_neg Bool.false_ne_true]at hm ⊢;exact hb ρ1 σ H1 h1 ls Q d hd' R1 (hL.ext hR x1) hm λρ2 H2 v x2 R2 r2=>hQ ρ2 H2 v (x1.trans R1 x2) R2 r2
def Cv(ma mb:ME):ME:=λls hd=>(AH ma ls hd).bind λp=>if p.1=true then mb ls p.2 else some (.im (.bl false),p.2)
def Wp(ma mb:ME):ME:=λls hd=>(AH ma ls hd).bind λp=>if p.1=true then some (.im (.bl true),p.2)else mb ls p.2
def Fc(ma:ME):ME:=λls hd=>(AH ma ls hd).bind λp=>some (.im (.bl (!p.1)),p.2)
def Qd{ta tb:TE}{ma mb:ME}(ha:RE K ta ma)(hb:RE K tb mb):RE K (LK ta tb) (Cv ma mb):=by
 and_intros;obtain⟨⟨d1,h1⟩,e1,hm⟩:=Yd hm;refine EF ha ρ σ H hd ls (λc H1=>if c=true then tb σ H1 Q else Q (.bl false) H1) d1 h1 hR hL e1 λρ1 H1 x1 R1=>?_;cases d1 with
 |true=>
  rw[if_pos rfl]at hm ⊢;exact hb ρ1 σ H1 h1 ls Q d hd' R1 (hL.ext hR x1) hm λρ2 H2 v x2 R2 r2=>hQ ρ2 H2 v (x1.trans R1 x2) R2 r2
 |false=>
  rw[if_neg Bool.false_ne_true]at hm ⊢;cases hm;exact hQ ρ1 H1 _ x1 R1 (by simp[RD,RI])
def QY{ta:TE}{ma:ME}(ha:RE K ta ma):RE K (LB ta) (Fc ma):=by
 and_intros;obtain⟨⟨d1,h1⟩,e1,hm⟩:=Yd hm;cases hm;exact EF ha ρ σ H hd ls (λc H1=>Q (.bl (!c)) H1) d1 h1 hR hL e1 λρ1 H1 x1 R1=>hQ ρ1 H1 _ x1 R1 (by simp[RD,RI])
def A8:MA:=λ_ hd=>some ([],hd)
def A2(ma:ME)(mr:MA):MA:=λls hd=>(ma ls hd).bind λp=>(mr ls p.2).bind λq=>some (p.1::q.1,q.2)
def Tf:RA K C6 A8:=by
 and_intros;cases hm;exact hQ ρ H [] .refl hR .nil
def Qh{ta:TE}{tr:TA}{ma:ME}{mr:MA}(ha:RE K ta ma)(hr:RA K tr mr):RA K (BF ta tr) (A2 ma mr):=by
 and_intros;obtain⟨⟨d1,h1⟩,e1,hm⟩:=Yd hm;obtain⟨⟨d2,h2⟩,e2,hm⟩:=Yd hm;cases hm;refine ha ρ σ H hd ls _ d1 h1 hR hL e1 λρ1 H1 v1 x1 R1 r1=>?_;exact hr ρ1 σ H1 h1 ls _ d2 _ R1 (hL.ext hR x1) e2 λρ2 H2 v2 x2 R2 r2=>hQ ρ2 H2 _ (x1.trans R1 x2) R2 (.cons (r1.ext R1 x2) r2)
open Classical in
def Bv(ma:MA):ME:=λls hd=>(ma ls hd).bind λp=>if BO p.1.length then some (AV p.1,p.2)else none
def TN{t:TA}{m:MA}(h:RA K t m):RE K (Nc t) (Bv m):=by
 and_intros;obtain⟨⟨d1,h1⟩,e1,hm⟩:=Yd hm;dsimp only at hm;split at hm
 .next z=>
  cases hm;refine h ρ σ H hd ls _ d1 _ hR hL e1 λρ1 H1 v1 x1 R1 r1=>⟨by rw[r1.len];exact z,λp hp=>?_⟩
  obtain⟨R2,x2⟩:=R1.hid (ho:=.tup v1) hp;exact hQ ρ1 _ _ (x1.trans R1 x2) R2 (BW (SqT.of AE) (r1.ext R1 x2))
 .cases hm
open Classical in
def CY(ma:MA):MA:=λls hd=>(ma ls hd).bind λp=>if BO p.1.length then some (p.1,p.2)else none
def RH.out(hR:RH K ρ H hd){a:Addr}(h:H a=none):a∉ρ:=λm=>by rcases hR.mut m with⟨y,z⟩|⟨y,z⟩<;>(rw[h]at z;cases z)
theorem Ext.none(e:Ext ρ H ρ' H')(hR:RH K ρ H hd){a:Addr}(h:H' a=none)(hR':RH K ρ' H' hd'):H a=none:=by
 cases q:H a with
 |none=>rfl
 |some o=>
  by_cases m:a∈ρ
  .obtain⟨r,rfl,_⟩:=e.pre;exact absurd (mem_append_left r m) (hR'.out h)
  .by_cases t:∃ps,o=.tbl ps
   .obtain⟨ps,rfl⟩:=t;obtain⟨ps',this⟩:=e.tab a ps q;rw[h]at this;cases this
   .rw[e.keep a o q m λps y=>t ⟨ps,y⟩]at h;cases h
def TB{t:TA}{m:MA}(h:RA K t m):RN K (Nh t) (CY m):=by
 and_intros;obtain⟨⟨d1,h1⟩,e1,hm⟩:=Yd hm;dsimp only at hm;split at hm
 .next z=>
  cases hm;refine h ρ σ H hd ls _ _ _ hR hL e1 λρ1 H1 v1 x1 R1 r1=>⟨by rw[r1.len];exact z,λp hp=>?_⟩
  obtain⟨R2,x2⟩:=R1.hid (ho:=.lst v1) hp;exact hQ ρ1 _ p v1 (x1.trans R1 x2) R2 (x1.none hR hp R1) (R1.out hp) AE (r1.ext R1 x2)
 .cases hm
def Ah(ml:MA):ME:=λls hd=>(ml ls hd).bind λp=>some (.mu p.2.length,p.2++[.lst p.1])
def RH.name(hR:RH K ρ H hd){a:Addr}{xs:List V}{ds:List D}(out:a∉ρ)(e:H a=some (.lst xs))(r:RDs K ρ H ds xs):RH K (ρ++[a]) H (hd++[.lst ds]):=by
 have mono:∀{o:MO} {ho:HO},RC K ρ H o ho->RC K (ρ++[a]) H o ho:=λc=>c.mono Grow.refl [a];refine⟨by simp[hR.len],?_,hR.tabs,λn o' b e1 e2=>?_⟩
 .rw[nodup_append];refine⟨hR.nd,by simp,λx hx y hy z=>?_⟩;simp at hy;subst hy;subst z;exact out hx
 .by_cases hn:n<ρ.length
  .rw[List.getElem?_append_left hn]at e2;rw[List.getElem?_append_left (by rw[<- hR.len];exact hn)]at e1;obtain⟨ho',q1,q2⟩:=hR.ob n o' b e1 e2;exact⟨ho',q1,mono q2⟩
  .have hn':n=ρ.length:=by
    have:=(List.getElem?_eq_some_iff.mp e2).1;simp at this;omega
   subst hn';simp at e2;rw[hR.len]at e1;simp at e1;subst e1;subst e2;exact⟨_,e,mono ⟨xs,rfl,r⟩⟩
def Ext.name(e:Ext ρ H ρ' H'){a:Addr}(h:H a=Option.none):Ext ρ H (ρ'++[a]) H':=by
 obtain⟨r,rfl,f⟩:=e.pre;refine⟨⟨r++[a],by simp,λb m=>?_⟩,e.keep,e.tab⟩;rcases mem_append.mp m with m|m
 .exact f b m
 .simp at m;subst m;exact h
def Mh{t:TE}{m:MA}(h:RN K t m):RE K t (Ah m):=by
 and_intros;obtain⟨⟨d1,h1⟩,e1,hm⟩:=Yd hm;cases hm;refine h ρ σ H hd ls Q d1 h1 hR hL e1 λρ1 H1 a xs x1 R1 na oa ea r1=>?_;refine hQ (ρ1++[a]) H1 _ (x1.name na) (R1.name oa ea r1) ?_;simp only[RD];exact⟨a,by rw[<- R1.len];simp,rfl⟩
end
section
variable{K:PySem.W.Frag}{ρ ρ':List Addr}{H H':Hp}{hd hd':Hd}
def fI(g:Int->Int->Option I):D->D->Hd->Option (D×Hd)
 |.im (.int i),.im (.int j),hd=>(g i j).map (.im ·,hd)
 |_,_,_=>none
def LS{C:Int->Int->Prop}{g:Int->Int->V}{f:Int->Int->Option I}(h:∀i j z,f i j=some z->C i j/\∀H,RI K H z (g i j)):RB K (rI C g) (fI f):=by
 intro ρ H hd d e v u Q z hd' hR h1 h2 hf hQ;unfold fI at hf;split at hf
 .simp only[RD,RI]at h1 h2;subst h1 h2;obtain⟨w,e1,e2⟩:=Ye hf;cases e2;obtain⟨c,r⟩:=h _ _ _ e1;exact⟨_,_,rfl,rfl,c,hQ ρ H _ .refl hR (by simpa only[RD]using r H)⟩
 .cases hf
def FX{g:Int->Int->V}{f:Int->Int->I}(h:∀i j H,RI K H (f i j) (g i j)):RB K (rI0 g) (fI λi j=>some (f i j)):=by
 intro ρ H hd d e v u Q z hd' hR h1 h2 hf hQ;unfold fI at hf;split at hf
 .simp only[RD,RI]at h1 h2;subst h1 h2;cases hf;exact⟨_,_,rfl,rfl,hQ ρ H _ .refl hR (by simpa only[RD]using h _ _ H)⟩
 .cases hf
def Fi(f g:D->D->Hd->Option (D×Hd)):D->D->Hd->Option (D×Hd):=λd e hd=>match f d e hd with
 |some z=>some z
 |none=>g d e hd
def EH{r r':R2}{f g:D->D->Hd->Option (D×Hd)}(h:RB K r f)(h':RB K r' g):RB K (λx y H Q=>r x y H Q∨r' x y H Q) (Fi f g):=by
 intro ρ H hd d e v u Q z hd' hR h1 h2 hf hQ;unfold Fi at hf;split at hf
 .next q=>cases hf;exact .inl (h ρ H hd d e v u Q z hd' hR h1 h2 q hQ)
 .exact .inr (h' ρ H hd d e v u Q z hd' hR h1 h2 hf hQ)
abbrev V4:D->D->Hd->Option (D×Hd):=fI λi j=>some (.int (i+j))
abbrev Cd:D->D->Hd->Option (D×Hd):=fI λi j=>some (.int (i-j))
def Te:RB K (rI0 λi j=>.int (i+j)) V4:=FX λ_ _ _=>by simp[RI]
def TY:RB K (rI0 λi j=>.int (i-j)) Cd:=FX λ_ _ _=>by simp[RI]
open Classical in
abbrev GI:D->D->Hd->Option (D×Hd):=fI λi j=>if Ef i j then some (.int (i*j))else none
def Tc:RB K (rI CMul λi j=>.int (i*j)) GI:=LS λi j z h=>by
 split at h
 .next q=>cases h;exact⟨q,λ_=>by simp[RI]⟩
 .cases h
open Classical in
abbrev Eo:D->D->Hd->Option (D×Hd):=fI λi j=>if CH j then some (.int (i%j))else none
def Td:RB K (rI (λ_ j=>0<j) λi j=>.int (i%j)) Eo:=LS λi j z h=>by
 split at h
 .next q=>cases h;exact⟨q,λ_=>by simp[RI]⟩
 .cases h
open Classical in
abbrev Go:D->D->Hd->Option (D×Hd):=fI λi j=>if Ik j then some (.int (i/j))else none
def Qf:RB K (rI VT λi j=>.int (i/j)) Go:=LS λi j z h=>by
 split at h
 .next q=>cases h;exact⟨q,λ_=>by simp[RI]⟩
 .cases h
open Classical in
abbrev Ow:D->D->Hd->Option (D×Hd):=fI λi j=>if La i j then some (.int (i^j.toNat))else none
def TZ:RB K (rI VS λi j=>.int (i^j.toNat)) Ow:=LS λi j z h=>by
 split at h
 .next q=>cases h;exact⟨q,λ_=>by simp[RI]⟩
 .cases h
abbrev gLt:D->D->Hd->Option (D×Hd):=fI λi j=>some (.bl (decide (i<j)))
abbrev gLe:D->D->Hd->Option (D×Hd):=fI λi j=>some (.bl (decide (i<=j)))
abbrev gGt:D->D->Hd->Option (D×Hd):=fI λi j=>some (.bl (decide (j<i)))
abbrev gGe:D->D->Hd->Option (D×Hd):=fI λi j=>some (.bl (decide (j<=i)))
def PR:RB K (rI0 λi j=>.bl (decide (i<j))) gLt:=FX λ_ _ _=>by simp[RI]
def PU:RB K (rI0 λi j=>.bl (decide (i<=j))) gLe:=FX λ_ _ _=>by simp[RI]
def Vg:RB K (rI0 λi j=>.bl (decide (j<i))) gGt:=FX λ_ _ _=>by simp[RI]
def PV:RB K (rI0 λi j=>.bl (decide (j<=i))) gGe:=FX λ_ _ _=>by simp[RI]
def scI:I->Option V
 |.non=>some .non
 |.bl b=>some (.bl b)
 |.int i=>some (.int i)
 |.str x=>some (.str x)
 |.tup _=>none
def GX{i:I}{v w:V}(e:scI i=some w)(h:RI K H i v):v=w:=by
 cases i with
 |tup _=>simp[scI]at e
 |_=>simp only[scI,Option.some.injEq]at e;subst e;simpa only[RI]using h
def Dw(neg:Bool):D->D->Hd->Option (D×Hd)
 |.im i,.im j,hd=>match scI i,scI j with
  |some x,some y=>if JH x y=true then some (.im (.bl (if neg then !decide (x=y)else decide (x=y))),hd)else none
  |_,_=>none
 |_,_,_=>none
def Mk:RB K rEq (Dw false):=by
 intro ρ H hd d e v u Q z hd' hR h1 h2 hf hQ;unfold Dw at hf;split at hf
 .split at hf
  .next x y e1 e2=>
   split at hf
   .next s=>
    cases hf;simp only[RD]at h1 h2;rw[GX e1 h1,GX e2 h2];exact⟨s,hQ ρ H _ .refl hR (by simp[RD,RI])⟩
   .cases hf
  .cases hf
 .cases hf
def Mi:RB K rNe (Dw true):=by
 intro ρ H hd d e v u Q z hd' hR h1 h2 hf hQ;unfold Dw at hf;split at hf
 .split at hf
  .next x y e1 e2=>
   split at hf
   .next s=>
    cases hf;simp only[RD]at h1 h2;rw[GX e1 h1,GX e2 h2];exact⟨s,hQ ρ H _ .refl hR (by simp[RD,RI])⟩
   .cases hf
  .cases hf
 .cases hf
mutual
def I.py:I->PyData
 |.non=>.none
 |.bl b=>.bool b
 |.int i=>.int i
 |.str x=>.str x
 |.tup ds=>.tuple (I.pys ds)
def I.pys:List I->List PyData
 |[]=>[]
 |d::ds=>I.py d::I.pys ds
end
mutual
theorem RI.rep:∀{i:I} {v:V},RI K H i v->Rep K H i.py v
 |.non,v,h=>by simpa only[RI,I.py,Rep]using h
 |.bl _,v,h=>by simpa only[RI,I.py,Rep]using h
 |.int _,v,h=>by simpa only[RI,I.py,Rep]using h
 |.str _,v,h=>by simpa only[RI,I.py,Rep]using h
 |.tup ds,v,h=>by
  simp only[RI]at h;obtain⟨a,xs,e,q,r⟩:=h;simp only[I.py,Rep];exact⟨a,xs,e,q,RIs.rep r⟩
theorem RIs.rep:∀{i:List I} {v:List V},RIs K H i v->BE K H (I.pys i) v
 |[],v,h=>by simpa only[RIs,I.pys,BE]using h
 |d::ds,v,h=>by
  simp only[RIs]at h;obtain⟨x,r,e,q,z⟩:=h;simp only[I.pys,BE];exact⟨x,r,e,q.rep,RIs.rep z⟩
end
def pyD(hd:Hd):D->Option PyData
 |.im i=>some i.py
 |.mu n=>match hd[n]? with
  |some (.lst ds)=>(Aj ds).map λis=>.list (I.pys is)
  |_=>none
 |.ro ns=>some (.list (I.pys (ns.map I.int)))
 |_=>none
def Cl{d:D}{v:V}{p:PyData}(hR:RH K ρ H hd)(h:RD K ρ H d v)(e:pyD hd d=some p):Rep K H p v:=by
 cases d with
 |im i=>simp only[pyD,Option.some.injEq]at e;subst e;simp only[RD]at h;exact h.rep
 |mu n=>
  simp only[pyD]at e;simp only[RD]at h;obtain⟨a,hn,rfl⟩:=h;split at e
  .next q=>
   obtain⟨is,e1,rfl⟩:=Ye e;obtain⟨xs,e2,e3⟩:=hR.lst hn q;rw[Ev e1]at e3;simp only[Rep];exact⟨a,xs,rfl,SqL.of e2,e3.is.rep⟩
  .cases e
 |ro ns=>
  simp only[pyD,Option.some.injEq]at e;subst e;obtain⟨a,xs,rfl,q,r⟩:=h.lst hR (hd:=hd) (ds:=ns.map λn=>.im (.int n)) rfl;simp only[Rep];refine⟨a,xs,rfl,q,RIs.rep (RDs.is (ρ:=ρ) ?_)⟩;rw[map_map];exact r
 |tm _=>simp[pyD]at e
 |op _ _ _=>simp[pyD]at e
 |fv _ _=>simp[pyD]at e
def HY(neg:Bool):D->D->Hd->Option (D×Hd):=λd e hd=>match pyD hd d,pyD hd e with
 |some x,some y=>if x.canLay0=true/\y.canLay0=true/\min x.depth y.depth<=60 then some (.im (.bl (if neg then !PyData.eqv x y else PyData.eqv x y)),hd)else none
 |_,_=>none
def Ml:RB K (O9 K) (HY false):=by
 intro ρ H hd d e v u Q z hd' hR h1 h2 hf hQ;unfold HY at hf;split at hf
 .next e1 e2=>
  split at hf
  .next c=>cases hf;exact⟨_,_,Cl hR h1 e1,Cl hR h2 e2,c.1,c.2.1,c.2.2,hQ ρ H _ .refl hR (by simp[RD,RI])⟩
  .cases hf
 .cases hf
def Mj:RB K (LV K) (HY true):=by
 intro ρ H hd d e v u Q z hd' hR h1 h2 hf hQ;unfold HY at hf;split at hf
 .next e1 e2=>
  split at hf
  .next c=>cases hf;exact⟨_,_,Cl hR h1 e1,Cl hR h2 e2,c.1,c.2.1,c.2.2,hQ ρ H _ .refl hR (by simp[RD,RI])⟩
  .cases hf
 .cases hf
abbrev gEq:=Fi (Dw false) (HY false)
abbrev gNe:=Fi (Dw true) (HY true)
def gIx:D->D->Hd->Option (D×Hd)
 |d,.im (.int i),hd=>(Am hd d).bind λds=>(atI ds i).map (·,hd)
 |_,_,_=>none
def Kt{α β:Type}{xs:List α}{ys:List β}{i:Int}{y:β}(h:xs.length=ys.length)(e:atI ys i=some y):∃(j:Nat),ys[j]?=some y/\∀x,xs[j]?=some x->atI xs i=some x:=by
 unfold atI at e;obtain⟨j,e1,e2⟩:=Yd e;exact⟨j,e2,λx q=>by unfold atI;rw[h,e1];exact q⟩
def Ig(K:PySem.W.Frag):R2:=λx y H Q=>HH K x y H Q∨O8 K x y H Q
def Vf:RB K (Ig K) gIx:=by
 intro ρ H hd d e v u Q z hd' hR h1 h2 hf hQ;unfold gIx at hf;split at hf
 .obtain⟨ds,e1,hf⟩:=Yd hf;obtain⟨w,e2,e3⟩:=Ye hf;cases e3;obtain⟨a,xs,rfl,q,r⟩:=h1.seq hR e1;simp only[RD,RI]at h2;subst h2;obtain⟨j,j1,j2⟩:=Kt r.len e2;obtain⟨x,x1,x2⟩:=r.get j1;rcases q with q|q
  .exact .inl ⟨a,xs,_,x,rfl,rfl,q,j2 x x1,hQ ρ H x .refl hR x2⟩
  .exact .inr ⟨a,xs,_,x,rfl,rfl,q,j2 x x1,hQ ρ H x .refl hR x2⟩
 .cases hf
def Cf(xs:List D)(lo hi:Option Int):List D:=(xs.drop (HT.sIx xs.length 0 lo)).take (HT.sIx xs.length xs.length hi-HT.sIx xs.length 0 lo)
def Kq{ds:List D}{xs:List V}{lo hi:Option Int}(r:RDs K ρ H ds xs):RDs K ρ H (Cf ds lo hi) (E3 xs lo hi):=by
 unfold Cf E3;rw[r.len];exact(r.drop _).take _
abbrev MO1:=Ls->Hd->Option (Option Int×Hd)
def RO1(K:PySem.W.Frag)(t:TO)(m:MO1):Prop:=∀(ρ:List Addr) (σ:St) (H:Hp) (hd:Hd) (ls:Ls) (Q:Option Int->Hp->Prop) (d:Option Int) (hd':Hd),RH K ρ H hd->RL K ρ H ls σ->m ls hd=some (d,hd') ->
 (∀ρ' H',Ext ρ H ρ' H'->RH K ρ' H' hd'->Q d H')->t σ H Q
def DL:MO1:=λ_ hd=>some (none,hd)
def Fb(m:ME):MO1:=λls hd=>(m ls hd).bind λp=>match p.1 with
 |.im (.int i)=>some (some i,p.2)
 |_=>none
def QK:RO1 K HB DL:=by
 and_intros;cases hm;exact hQ ρ H .refl hR
def QJ{t:TE}{m:ME}(h:RE K t m):RO1 K (L9 t) (Fb m):=by
 and_intros;obtain⟨⟨d1,h1⟩,e1,hm⟩:=Yd hm;dsimp only at hm;split at hm
 .cases hm;exact h ρ σ H hd ls _ _ _ hR hL e1 λρ1 H1 v x1 R1 r1=>⟨_,by simpa only[RD,RI]using r1,hQ ρ1 H1 x1 R1⟩
 .cases hm
def Wo(m:ME)(ml mh:MO1):ME:=λls hd=>(m ls hd).bind λp=>(ml ls p.2).bind λl=>(mh ls l.2).bind λh=>(AZ p.1).bind λds=>
 if ¬ (HT.sIx ds.length 0 l.1=0/\HT.sIx ds.length ds.length h.1=ds.length)then some (AV (Cf ds l.1 h.1),h.2)else none
def Jf(m:ME)(ml mh:MO1):MA:=λls hd=>(m ls hd).bind λp=>(ml ls p.2).bind λl=>(mh ls l.2).bind λh=>(Aa h.2 p.1).bind λds=>some (Cf ds l.1 h.1,h.2)
def T8{t:TE}{tl th:TO}{m:ME}{ml mh:MO1}(h:RE K t m)(hl:RO1 K tl ml)(hh:RO1 K th mh):RN K (tSl (LU K) t tl th) (Jf m ml mh):=by
 and_intros;obtain⟨⟨d1,h1⟩,e1,hm⟩:=Yd hm;obtain⟨⟨d2,h2⟩,e2,hm⟩:=Yd hm;obtain⟨⟨d3,h3⟩,e3,hm⟩:=Yd hm;obtain⟨ds,e4,hm⟩:=Yd hm;dsimp only at e2 e3 e4 hm;cases hm;refine h ρ σ H hd ls _ d1 h1 hR hL e1 λρ1 H1 v1 x1 R1 r1=>?_;refine hl ρ1 σ H1 h1 ls _ d2 h2 R1 (hL.ext hR x1) e2 λρ2 H2 x2 R2=>?_;refine hh ρ2 σ H2 h2 ls _ d3 _ R2 (hL.ext hR (x1.trans R1 x2)) e3 λρ3 H3 x3 R3=>?_;obtain⟨a,xs,rfl,q,r⟩:=RD.lst R3 ((r1.ext R1 x2).ext R2 x3) e4;refine⟨a,xs,rfl,q,λp hp=>?_⟩;obtain⟨R4,x4⟩:=R3.hid (ho:=.lst (E3 xs d2 d3)) hp;have x123:=(x1.trans R1 x2).trans R2 x3;exact hQ ρ3 _ p _ (x123.trans R3 x4) R4 (x123.none hR hp R3) (R3.out hp) AE ((Kq r).ext R3 x4)
def mCB(f:List D->Hd->Option (D×Hd))(ma:MA):ME:=λls hd=>(ma ls hd).bind λp=>f p.1 p.2
def PP{r:List V->Hp->VK->Prop}{f:List D->Hd->Option (D×Hd)}{t:TA}{m:MA}(hr:RF K r f)(h:RA K t m):RE K (tCB r t) (mCB f m):=by
 and_intros;obtain⟨⟨d1,h1⟩,e1,hm⟩:=Yd hm;refine h ρ σ H hd ls _ d1 h1 hR hL e1 λρ1 H1 v1 x1 R1 r1=>?_;exact hr ρ1 H1 h1 d1 v1 Q d hd' R1 r1 hm λρ' H' w x2 R2 r2=>hQ ρ' H' w (x1.trans R1 x2) R2 r2
def f1(tp:Bool)(g:List D->Option D):List D->Hd->Option (D×Hd)
 |[d],hd=>((if tp then Am hd d else Aa hd d)).bind λds=>(g ds).map (·,hd)
 |_,_=>none
def G5{tp:Bool}{r:List V->Hp->VK->Prop}{g:List D->Option D}(h:RG K tp r g):RF K r (f1 tp g):=by
 intro ρ H hd ds vs Q z hd' hR h1 hf hQ;unfold f1 at hf;split at hf
 .next d hd'=>
  obtain⟨es,e1,hf⟩:=Yd hf;obtain⟨w,e2,e3⟩:=Ye hf;cases e3;simp only[RDs]at h1;obtain⟨x,r,rfl,rx,rfl⟩:=h1;cases tp with
  |true=>
   rw[if_pos rfl]at e1;obtain⟨a,xs,rfl,q,rr⟩:=rx.seq hR e1;exact h ρ H hd a xs es Q z hR (q.imp id λq=>⟨rfl,q⟩) rr e2 λH' w x R r=>hQ ρ H' w x R r
  |false=>
   rw[if_neg Bool.false_ne_true]at e1;obtain⟨a,xs,rfl,q,rr⟩:=rx.lst hR e1;exact h ρ H hd a xs es Q z hR (.inl q) rr e2 λH' w x R r=>hQ ρ H' w x R r
 .cases hf
def Bn(g:List D->Option D)(ml:MA):ME:=λls hd=>(ml ls hd).bind λp=>(g p.1).map (·,p.2)
def TX{tp:Bool}{r:List V->Hp->VK->Prop}{g:List D->Option D}{t:TE}{m:MA}(hr:RG K tp r g)(h:RN K t m):RE K (tCB r (BF t C6)) (Bn g m):=by
 and_intros;obtain⟨⟨d1,h1⟩,e1,hm⟩:=Yd hm;obtain⟨w,e2,e3⟩:=Ye hm;cases e3;refine h ρ σ H hd ls _ d1 _ hR hL e1 λρ1 H1 a xs x1 R1 na oa ea r1=>?_;exact hr ρ1 H1 _ a xs d1 Q d R1 (.inl (SqL.of ea)) r1 e2 λH' w x R r=>hQ ρ1 H' w (x1.trans R1 x) R r
def BD(ds:List D):Option D:=some (.im (.int ds.length))
def TK:RG K true (Th K) BD:=by
 intro ρ H hd a xs ds Q z hR q r e hQ;cases e;refine⟨a,xs,rfl,q.imp id λq=>q.2,?_⟩;rw[r.len];exact hQ H _ .refl hR (by simp[RD,RI])
def DE(ds:List D):Option D:=some (AV ds)
def Nx:RG K true (JS K) DE:=by
 intro ρ H hd a xs ds Q z hR q r e hQ;cases e;refine⟨a,xs,rfl,?_⟩;rcases q with q|⟨_,q⟩
 .refine .inl ⟨q,λp hp=>?_⟩;obtain⟨R2,x2⟩:=hR.hid (ho:=.tup xs) hp;exact hQ _ _ x2 R2 (BW (SqT.of AE) (r.ext hR x2))
 .exact .inr ⟨q,hQ H _ .refl hR (BW q r)⟩
def Em(ds:List D):Option D:=(BJ ds).map λbs=>.im (.bl (bs.all id))
def GG(ds:List D):Option D:=(BJ ds).map λbs=>.im (.bl (bs.any id))
def Mg:RG K false (Tj K) Em:=by
 intro ρ H hd a xs ds Q z hR q r e hQ;obtain⟨ns,e1,rfl⟩:=Ye e;rw[Hf e1]at r;have:=JR r;subst this;rcases q with q|⟨q,_⟩
 .exact⟨a,ns,rfl,q,hQ H _ .refl hR (by simp[RD,RI])⟩
 .cases q
def Mf:RG K false (Ti K) GG:=by
 intro ρ H hd a xs ds Q z hR q r e hQ;obtain⟨ns,e1,rfl⟩:=Ye e;rw[Hf e1]at r;have:=JR r;subst this;rcases q with q|⟨q,_⟩
 .exact⟨a,ns,rfl,q,hQ H _ .refl hR (by simp[RD,RI])⟩
 .cases q
def Eh:List Int->Int
 |[]=>0
 |[x]=>x
 |x::r=>if Eh r>x then Eh r else x
def Eg:List Int->Int
 |[]=>0
 |[x]=>x
 |x::r=>if Eg r<x then Eg r else x
theorem FH:∀{xs:List Int},xs≠[]->Eh xs∈xs/\∀x∈xs,x<=Eh xs
 |[],h=>absurd rfl h
 |[x],_=>by simp[Eh]
 |x::y::r,_=>by
  obtain⟨h1,h2⟩:=FH (xs:=y::r) (by simp);rw[Eh];split
  .next h=>exact⟨mem_cons_of_mem _ h1,λz m=>by rcases mem_cons.mp m with rfl|m;omega;exact h2 z m⟩
  .next h=>exact⟨mem_cons_self,λz m=>by rcases mem_cons.mp m with rfl|m;omega;exact Int.le_trans (h2 z m) (by omega)⟩
  .simp
theorem FG:∀{xs:List Int},xs≠[]->Eg xs∈xs/\∀x∈xs,Eg xs<=x
 |[],h=>absurd rfl h
 |[x],_=>by simp[Eg]
 |x::y::r,_=>by
  obtain⟨h1,h2⟩:=FG (xs:=y::r) (by simp);rw[Eg];split
  .next h=>exact⟨mem_cons_of_mem _ h1,λz m=>by rcases mem_cons.mp m with rfl|m;omega;exact h2 z m⟩
  .next h=>exact⟨mem_cons_self,λz m=>by rcases mem_cons.mp m with rfl|m;omega;exact Int.le_trans (by omega) (h2 z m)⟩
  .simp
def HV(ds:List D):Option D:=(Af ds).bind λns=>if ns=[]then none else some (.im (.int (Eh ns)))
def Dv(ds:List D):Option D:=(Af ds).bind λns=>if ns=[]then none else some (.im (.int (Eg ns)))
def Wi(K:PySem.W.Frag):List V->Hp->VK->Prop:=λxs H Q=>PZ K xs H Q∨PY K xs H Q
def DM{α:Type}{xs:List α}(h:xs≠[]):0<xs.length:=by cases xs<;>simp_all
def Me:RG K true (Wi K) HV:=by
 intro ρ H hd a xs ds Q z hR q r e hQ;obtain⟨ns,e1,e⟩:=Yd e;split at e
 .cases e
 .next hn=>
  cases e;rw[De e1]at r;have:=EG r;subst this;have u:∀M:Int,M∈ns->(∀x∈ns,x<=M)->M=Eh ns:=λM m1 m2=>by
   obtain⟨n1,n2⟩:=FH hn;have:=n2 M m1;have:=m2 _ n1;omega
  rcases q with q|⟨_,q⟩
  .exact .inl ⟨a,ns,rfl,q,DM hn,λM m1 m2=>by rw[u M m1 m2];exact hQ H _ .refl hR (by simp[RD,RI])⟩
  .exact .inr ⟨a,ns,rfl,q,DM hn,λM m1 m2=>by rw[u M m1 m2];exact hQ H _ .refl hR (by simp[RD,RI])⟩
def Md:RG K false (PX K) Dv:=by
 intro ρ H hd a xs ds Q z hR q r e hQ;obtain⟨ns,e1,e⟩:=Yd e;split at e
 .cases e
 .next hn=>
  cases e;rw[De e1]at r;have:=EG r;subst this;have u:∀M:Int,M∈ns->(∀x∈ns,M<=x)->M=Eg ns:=λM m1 m2=>by
   obtain⟨n1,n2⟩:=FG hn;have:=n2 M m1;have:=m2 _ n1;omega
  rcases q with q|⟨q,_⟩
  .exact⟨a,ns,rfl,q,DM hn,λM m1 m2=>by rw[u M m1 m2];exact hQ H _ .refl hR (by simp[RD,RI])⟩
  .cases q
def Es:List D->Hd->Option (D×Hd)
 |[.im (.int i),.im (.int j)],hd=>some (.im (.int (if j>i then j else i)),hd)
 |_,_=>none
def WC:List D->Hd->Option (D×Hd)
 |[.im (.int i),.im (.int j)],hd=>some (.im (.int (if j<i then j else i)),hd)
 |_,_=>none
def QV:RF K (λxs H Q=>∃i j,xs=[.int i,.int j]/\Q (.int (if j>i then j else i)) H) Es:=by
 intro ρ H hd ds vs Q z hd' hR h1 hf hQ;unfold Es at hf;split at hf
 .cases hf;simp only[RDs,RD,RI]at h1;obtain⟨x,r,rfl,rfl,y,r2,rfl,rfl,rfl⟩:=h1;exact⟨_,_,rfl,hQ ρ H _ .refl hR (by simp[RD,RI])⟩
 .cases hf
def Wv:List D->Hd->Option (D×Hd)
 |[.im (.int i)],hd=>some (.im (.int (if i<0 then -i else i)),hd)
 |_,_=>none
def W5(ma:ME):MA:=λls hd=>(ma ls hd).bind λp=>(Am p.2 p.1).map (·,p.2)
def FJ(ml:MA):MA:=ml
def Nv{t:TE}{m:MA}(h:RN K t m):RN K (tCB (HF K) (BF t C6)) (FJ m):=by
 and_intros;refine h ρ σ H hd ls _ d _ hR hL hm λρ1 H1 a xs x1 R1 na oa ea r1=>?_;refine⟨a,xs,rfl,.inl (SqL.of ea),λl hl=>?_⟩;obtain⟨R2,x2⟩:=R1.hid (ho:=.lst xs) hl;exact hQ ρ1 _ l xs (x1.trans R1 x2) R2 (x1.none hR hl R1) (R1.out hl) AE (r1.ext R1 x2)
def Pn:I->Option V
 |.non=>some .non
 |.bl b=>some (.bl b)
 |.int i=>some (.int i)
 |.str x=>some (.str x)
 |.tup _=>none
def N7:List D->Option (List V)
 |[]=>some []
 |.im i::r=>(Pn i).bind λv=>(N7 r).map (v::·)
 |_::_=>none
def mMt(f:D->List D->Hd->Option (D×Hd))(mo:ME)(ma:MA):ME:=λls hd=>(mo ls hd).bind λp=>match Aa p.2 p.1 with
 |some _=>(ma ls p.2).bind λq=>f p.1 q.1 q.2
 |none=>none
def RM(K:PySem.W.Frag)(r:V->List V->Hp->VK->Prop)(f:D->List D->Hd->Option (D×Hd)):Prop:=∀(ρ:List Addr) (H:Hp) (hd:Hd) (d:D) (v:V) (ds:List D) (vs:List V) (Q:VK) (z:D) (hd':Hd),RH K ρ H hd->RD K ρ H d v->RDs K ρ H ds vs->f d ds hd=some (z,hd') ->
 (∀ρ' H' w,Ext ρ H ρ' H'->RH K ρ' H' hd'->RD K ρ' H' z w->Q w H')->r v vs H Q
def Vd{r:V->List V->Hp->VK->Prop}{f:D->List D->Hd->Option (D×Hd)}{to:TE}{t:TA}{mo:ME}{ma:MA}(hr:RM K r f)(ho:RE K to mo)(ha:RA K t ma):RE K (tBM K "list" r to t) (mMt f mo ma):=by
 and_intros;obtain⟨⟨d1,h1⟩,e1,hm⟩:=Yd hm;dsimp only at hm;split at hm
 .next e=>
  obtain⟨⟨d2,h2⟩,e2,hm⟩:=Yd hm;refine ho ρ σ H hd ls _ d1 h1 hR hL e1 λρ1 H1 v x1 R1 r1=>⟨?_,?_⟩
  .obtain⟨a,xs,rfl,q,_⟩:=r1.lst R1 e;exact .inl ⟨rfl,xs,q⟩
  .exact ha ρ1 σ H1 h1 ls _ d2 h2 R1 (hL.ext hR x1) e2 λρ2 H2 vs x2 R2 r2=>hr ρ2 H2 h2 d1 v d2 vs Q d hd' R2 (r1.ext R1 x2) r2 hm λρ' H' w x3 R3 r3=>hQ ρ' H' w ((x1.trans R1 x2).trans R2 x3) R3 r3
 .cases hm
open Classical in
def BV:D->List D->Hd->Option (D×Hd)
 |.mu n,[x],hd=>match hd[n]? with
  |some (.lst ds)=>if Er ds.length then some (.im .non,hd.set n (.lst (ds++[x])))else none
  |_=>none
 |_,_,_=>none
def Mb:RM K Ka BV:=by
 intro ρ H hd d v ds vs Q z hd' hR h1 h2 hf hQ;unfold BV at hf;split at hf
 .split at hf
  .next q=>
   split at hf
   .next c=>
    cases hf;simp only[RD]at h1;obtain⟨a,hn,rfl⟩:=h1;simp only[RDs]at h2;obtain⟨x,r,rfl,rx,rfl⟩:=h2;obtain⟨xs,e1,e2⟩:=hR.lst hn q;obtain⟨R2,x2⟩:=hR.put hn (o:=.lst (_++[_])) (ho:=.lst (xs++[x])) ⟨_,rfl,e2.app (.cons rx .nil)⟩;exact⟨a,xs,x,rfl,rfl,e1,by rw[e2.len];exact c,hQ ρ _ _ x2 R2 (by simp[RD,RI])⟩
   .cases hf
  .cases hf
 .cases hf
end
end L2
namespace L2
open PySem PySem.Spec PyProof.Rows
section
variable{K:PySem.W.Frag}{ρ ρ':List Addr}{H H':Hp}{hd hd':Hd}
def Ao:MS:=λls hd=>some (.nx ls,hd)
def KU:RS K GS Ao:=by
 intro ρ σ H hd ls E f hd' hR hL hm hQ;cases hm;exact hQ ρ H .refl hR σ hL
def AA(a b:MS):MS:=λls hd=>(a ls hd).bind λp=>match p.1 with
 |.nx ls1=>b ls1 p.2
 |f=>some (f,p.2)
def T4{t u:TS}{a b:MS}(ha:RS K t a)(hb:RS K u b):RS K (Nd t u) (AA a b):=by
 intro ρ σ H hd ls E f hd' hR hL hm hQ;obtain⟨⟨f1,h1⟩,e1,hm⟩:=Yd hm;refine ha ρ σ H hd ls { E with nx:=u E } f1 h1 hR hL e1 λρ1 H1 x1 R1=>?_;cases f1 with
 |nx ls1=>
  intro σ1 L1;exact hb ρ1 σ1 H1 h1 ls1 E f hd' R1 L1 hm λρ2 H2 x2 R2=>hQ ρ2 H2 (x1.trans R1 x2) R2
 |bk ls1=>cases hm;exact hQ ρ1 H1 x1 R1
 |ct ls1=>cases hm;exact hQ ρ1 H1 x1 R1
 |rt d=>cases hm;exact hQ ρ1 H1 x1 R1
def Us:MS:=λls hd=>some (.bk ls,hd)
def W7:MS:=λls hd=>some (.ct ls,hd)
def Cb(m:ME):MS:=λls hd=>(m ls hd).bind λp=>some (.nx ls,p.2)
def QC{t:TE}{m:ME}(h:RE K t m):RS K (LG t) (Cb m):=by
 intro ρ σ H hd ls E f hd' hR hL hm hQ;obtain⟨⟨d1,h1⟩,e1,hm⟩:=Yd hm;cases hm;exact h ρ σ H hd ls _ d1 _ hR hL e1 λρ1 H1 v x1 R1 r1=>hQ ρ1 H1 x1 R1 σ (hL.ext hR x1)
def AY(m:ME):MS:=λls hd=>(m ls hd).bind λp=>some (.rt p.1,p.2)
def T5{t:TE}{m:ME}(h:RE K t m):RS K (Nf t) (AY m):=by
 intro ρ σ H hd ls E f hd' hR hL hm hQ;obtain⟨⟨d1,h1⟩,e1,hm⟩:=Yd hm;cases hm;exact h ρ σ H hd ls _ d1 _ hR hL e1 λρ1 H1 v x1 R1 r1=>hQ ρ1 H1 x1 R1 v r1
def W3:MS:=λ_ hd=>some (.rt (.im .non),hd)
def B8(c:MT)(a b:MS):MS:=λls hd=>(c ls hd).bind λp=>if p.1=true then a ls p.2 else b ls p.2
def Vb{tc:TT}{t u:TS}{c:MT}{a b:MS}(hc:RT K tc c)(ha:RS K t a)(hb:RS K u b):RS K (Nk tc t u) (B8 c a b):=by
 intro ρ σ H hd ls E f hd' hR hL hm hQ;obtain⟨⟨d1,h1⟩,e1,hm⟩:=Yd hm;refine hc ρ σ H hd ls _ d1 h1 hR hL e1 λρ1 H1 x1 R1=>?_;cases d1 with
 |true=>
  rw[if_pos rfl]at hm ⊢;exact ha ρ1 σ H1 h1 ls E f hd' R1 (hL.ext hR x1) hm λρ2 H2 x2 R2=>hQ ρ2 H2 (x1.trans R1 x2) R2
 |false=>
  rw[if_neg Bool.false_ne_true]at hm ⊢;exact hb ρ1 σ H1 h1 ls E f hd' R1 (hL.ext hR x1) hm λρ2 H2 x2 R2=>hQ ρ2 H2 (x1.trans R1 x2) R2
def EL:MS:=λ_ _=>none
def Nu:RS K J9 EL:=by
 intro ρ σ H hd ls E f hd' hR hL hm hQ;cases hm
abbrev MG:=D->Ls->Hd->Option Ls
abbrev MGs:=List D->Ls->Hd->Option Ls
def RGt(K:PySem.W.Frag)(t:TG)(m:MG):Prop:=∀(ρ:List Addr) (σ:St) (H:Hp) (hd:Hd) (ls ls':Ls) (d:D) (v:V) (Q:St->Hp->Prop),RH K ρ H hd->RL K ρ H ls σ->RD K ρ H d v->m d ls hd=some ls' ->
 (∀σ',RL K ρ H ls' σ'->Q σ' H)->t v σ H Q
def K5(K:PySem.W.Frag)(t:TGs)(m:MGs):Prop:=∀(ρ:List Addr) (σ:St) (H:Hp) (hd:Hd) (ls ls':Ls) (d:List D) (v:List V) (Q:St->Hp->Prop),RH K ρ H hd->RL K ρ H ls σ->RDs K ρ H d v->m d ls hd=some ls' ->
 (∀σ',RL K ρ H ls' σ'->Q σ' H)->t v σ H Q
theorem RL.set{ls:Ls}{σ:St}{d:D}{v:V}(h:RL K ρ H ls σ)(i:Nat)(r:RD K ρ H d v):RL K ρ H (ls.set i (some d)) (σ.set i (some v)):=by
 refine⟨by simp[h.len],λj e q=>?_⟩;by_cases hij:i=j
 .subst hij;have hl:i<ls.length:=by
   have:=(List.getElem?_eq_some_iff.mp q).1;simpa using this
  rw[List.getElem?_set_self hl]at q;cases q;exact⟨v,by rw[List.getElem?_set_self (by rw[<- h.len];exact hl)],r⟩
 .rw[List.getElem?_set_ne hij]at q;obtain⟨w,e1,e2⟩:=h.ob j e q;exact⟨w,by rw[List.getElem?_set_ne hij];exact e1,e2⟩
def AB(i:Nat):MG:=λd ls _=>some (ls.set i (some d))
def FW{i:Nat}:RGt K (C1 i) (AB i):=by
 intro ρ σ H hd ls ls' d v Q hR hL hd hm hQ;cases hm;exact hQ _ (hL.set i hd)
def CM:MGs:=λds ls _=>match ds with
 |[]=>some ls
 |_=>none
def AQ(m:MG)(r:MGs):MGs:=λds ls hd=>match ds with
 |d::es=>(m d ls hd).bind λls1=>r es ls1 hd
 |[]=>none
def QQ:K5 K Ox CM:=by
 intro ρ σ H hd ls ls' d v Q hR hL hd hm hQ;cases d with
 |nil=>
  simp only[RDs]at hd;subst hd;cases hm;exact⟨rfl,hQ _ hL⟩
 |cons a b=>cases hm
def Nw{t:TG}{u:TGs}{m:MG}{r:MGs}(h:RGt K t m)(h':K5 K u r):K5 K (Lz t u) (AQ m r):=by
 intro ρ σ H hd ls ls' d v Q hR hL hd hm hQ;cases d with
 |nil=>cases hm
 |cons a b=>
  simp only[RDs]at hd;obtain⟨x,y,rfl,h1,h2⟩:=hd;obtain⟨ls1,e1,e2⟩:=Yd hm;exact⟨x,y,rfl,h ρ σ H _ ls ls1 a x _ hR hL h1 e1 λσ1 L1=>h' ρ σ1 H _ ls1 ls' b y Q hR L1 h2 e2 hQ⟩
def CL(n:Nat)(r:MGs):MG:=λd ls hd=>(AZ d).bind λds=>if ds.length=n then r ds ls hd else none
def TJ{n:Nat}{u:TGs}{r:MGs}(h':K5 K u r):RGt K (Ly K n u) (CL n r):=by
 intro ρ σ H hd ls ls' d v Q hR hL hd hm hQ;obtain⟨ds,e1,hm⟩:=Yd hm;split at hm
 .next c=>
  obtain⟨a,xs,rfl,q,rr⟩:=hd.tup e1;exact⟨a,xs,rfl,q,by rw[rr.len];exact c,h' ρ σ H _ ls ls' ds xs Q hR hL rr hm hQ⟩
 .cases hm
def FL(m:ME)(g:MG):MS:=λls hd=>(m ls hd).bind λp=>(g p.1 ls p.2).map λls'=>(.nx ls',p.2)
def Ga{t:TE}{m:ME}{g:TG}{n:MG}(h:RE K t m)(hg:RGt K g n):RS K (CQ t g) (FL m n):=by
 intro ρ σ H hd ls E f hd' hR hL hm hQ;obtain⟨⟨d1,h1⟩,e1,hm⟩:=Yd hm;obtain⟨ls',e2,e3⟩:=Ye hm;cases e3;exact h ρ σ H hd ls _ d1 _ hR hL e1 λρ1 H1 v x1 R1 r1=>hg ρ1 σ H1 _ ls ls' d1 v _ R1 (hL.ext hR x1) r1 e2 λσ' L'=>hQ ρ1 H1 x1 R1 σ' L'
abbrev AM(i:Nat)(m:ME):MS:=FL m (AB i)
def Oi(ix:List Nat)(ma:MA):MS:=λls hd=>(ma ls hd).bind λp=>if p.1.length=ix.length then some (.nx ((ix.zip p.1).foldl (λl q=>l.set q.1 (some q.2)) ls),p.2)else none
def W4(i j k:Nat)(ma:MA):MS:=Oi [k,j,i] (λls hd=>(ma ls hd).map λp=>(p.1.reverse,p.2))
abbrev Gd:=List (Nat×List D)
abbrev MI:=Ls->Hd->Option ((List D×Gd)×Hd)
def GOk(hd:Hd)(g:Gd):Prop:=∀p∈g,hd[p.1]?=some (.lst p.2)
@[simp] theorem AJ(hd:Hd):GOk hd []:=λp h=>by cases h
def Gw(K:PySem.W.Frag)(ρ:List Addr)(H:Hp)(J:It)(ds:List D)(g:Gd):Prop:=∀(ρ2:List Addr) (H2:Hp) (hd2:Hd),Ext ρ H ρ2 H2->RH K ρ2 H2 hd2->GOk hd2 g ->
 ∀i:Nat,(i<ds.length->J.go i H2/\∀x H3,J.yld i H2 x H3->∃ρ3 d,Ext ρ2 H2 ρ3 H3/\ρ3=ρ2/\RH K ρ3 H3 hd2/\ds[i]?=some d/\RD K ρ3 H3 d x)/\(i=ds.length->J.stop i H2)
def RIt(K:PySem.W.Frag)(t:TI)(m:MI):Prop:=∀(ρ:List Addr) (σ:St) (H:Hp) (hd:Hd) (ls:Ls) (Q:It->Hp->Prop) (d:List D) (g:Gd) (hd':Hd),RH K ρ H hd->RL K ρ H ls σ->m ls hd=some ((d,g),hd') ->
 (∀ρ' H' J,Ext ρ H ρ' H'->RH K ρ' H' hd'->GOk hd' g->Gw K ρ' H' J d g->Q J H')->t σ H Q
def Ku{a:Addr}{xs:List V}{ds:List D}(hR:RH K ρ H hd)(q:SqT K H a xs)(r:RDs K ρ H ds xs)(g:Gd):Gw K ρ H (Itt K a) ds g:=by
 intro ρ2 H2 hd2 x2 R2 _ i;have q2:=(x2.grow hR).sq q;have r2:=r.ext hR x2;have uniq:∀ys,SqT K H2 a ys->True:=λ_ _=>trivial;refine⟨λhi=>?_,λhi=>⟨xs,q2,by rw[r2.len,hi];exact le_refl _⟩⟩;have e:ds[i]?=some ds[i]:=by simp[hi]
 obtain⟨x,x1,x3⟩:=r2.get e;refine⟨⟨xs,x,q2,x1⟩,λy H3 ⟨e3,hy⟩=>?_⟩;subst e3;have:=hy xs q2;rw[x1]at this;cases this;exact⟨ρ2,_,.refl,rfl,R2,e,x3⟩
def Ai(m:ME):MI:=λls hd=>(m ls hd).bind λp=>(AZ p.1).map λds=>((ds,[]),p.2)
def TF{t:TE}{m:ME}(h:RE K t m):RIt K (Lq K t) (Ai m):=by
 intro ρ σ H hd ls Q d g hd' hR hL hm hQ;obtain⟨⟨d1,h1⟩,e1,hm⟩:=Yd hm;obtain⟨ds,e2,e3⟩:=Ye hm;cases e3;refine h ρ σ H hd ls _ d1 _ hR hL e1 λρ1 H1 v x1 R1 r1=>?_;obtain⟨a,xs,rfl,q,r⟩:=r1.tup e2;exact⟨a,rfl,⟨xs,q⟩,hQ ρ1 H1 _ x1 R1 (AJ _) (Ku R1 q r [])⟩
def Co(m:ME):MI:=λls hd=>(m ls hd).bind λp=>match p.1 with
 |.mu n=>match p.2[n]? with
  |some (.lst ds)=>some ((ds,[(n,ds)]),p.2)
  |_=>none
 |.ro ns=>some ((ns.map λn=>.im (.int n),[]),p.2)
 |_=>none
def QM{t:TE}{m:ME}(h:RE K t m):RIt K (Fh K t) (Co m):=by
 intro ρ σ H hd ls Q d g hd' hR hL hm hQ;obtain⟨⟨d1,h1⟩,e1,hm⟩:=Yd hm;dsimp only at hm;split at hm
 .next n=>
  split at hm
  .next ds q=>
   cases hm;refine h ρ σ H hd ls _ _ _ hR hL e1 λρ1 H1 v x1 R1 r1=>?_;simp only[RD]at r1;obtain⟨a,hn,rfl⟩:=r1;obtain⟨xs,e2,e3⟩:=R1.lst hn q;refine⟨a,rfl,⟨xs,SqL.of e2⟩,hQ ρ1 H1 _ x1 R1 (λp z=>by simp at z;subst z;exact q) ?_⟩;intro ρ2 H2 hd2 x2 R2 G2 i;have q2:=G2 (n,d) (by simp);have hn2:ρ2[n]?=some a:=by
    obtain⟨r,rfl,_⟩:=x2.pre;rw[List.getElem?_append_left (List.getElem?_eq_some_iff.mp hn).1];exact hn
   obtain⟨ys,e4,e5⟩:=R2.lst hn2 q2;refine⟨λhi=>?_,λhi=>⟨ys,SqL.of e4,by rw[e5.len,hi];exact le_refl _⟩⟩;have e:d[i]?=some d[i]:=by simp[hi]
   obtain⟨x,y1,y2⟩:=e5.get e;refine⟨⟨ys,x,SqL.of e4,y1⟩,λy H3 ⟨e6,hy⟩=>?_⟩;subst e6;have:=hy ys (SqL.of e4);rw[y1]at this;cases this;exact⟨ρ2,_,.refl,rfl,R2,e,y2⟩
  .cases hm
 .next ns=>
  cases hm;refine h ρ σ H hd ls _ _ _ hR hL e1 λρ1 H1 v x1 R1 r1=>?_;simp only[RD]at r1;obtain⟨a,rfl,q⟩:=r1;refine⟨a,rfl,⟨_,q.sq⟩,hQ ρ1 H1 _ x1 R1 (AJ _) ?_⟩;intro ρ2 H2 hd2 x2 R2 G2 i;have q2:=(q.grow (x2.grow R1)).sq;have e5:RDs K ρ2 H2 (ns.map λn=>.im (.int n)) (ns.map V.int):=Fg;refine⟨λhi=>?_,λhi=>⟨_,q2,by rw[e5.len,hi];exact le_refl _⟩⟩;have e:(ns.map λn=>D.im (.int n))[i]?=some ((ns.map λn=>D.im (.int n))[i]):=by simp[hi]
  obtain⟨x,y1,y2⟩:=e5.get e;refine⟨⟨_,x,q2,y1⟩,λy H3 ⟨e6,hy⟩=>?_⟩;subst e6;have:=hy _ q2;rw[y1]at this;cases this;exact⟨ρ2,_,.refl,rfl,R2,e,y2⟩
 .cases hm
def Dc(ml:MA):MI:=λls hd=>(ml ls hd).map λp=>((p.1,[]),p.2)
def TH{t:TE}{m:MA}(h:RN K t m):RIt K (Fh K t) (Dc m):=by
 intro ρ σ H hd ls Q d g hd' hR hL hm hQ;obtain⟨⟨d1,h1⟩,e1,e3⟩:=Ye hm;obtain⟨⟨rfl,rfl⟩,rfl⟩:=Prod.mk.inj e3 |>.imp Prod.mk.inj id;clear e3 hm;refine h ρ σ H hd ls _ _ _ hR hL e1 λρ1 H1 a xs x1 R1 na oa ea r1=>?_;refine⟨a,rfl,⟨xs,SqL.of ea⟩,hQ ρ1 H1 _ x1 R1 (AJ _) ?_⟩;intro ρ2 H2 hd2 x2 R2 G2 i;have q2:SqL K H2 a xs:=SqL.of (x2.keep a _ ea oa nt);have r2:=r1.ext R1 x2;refine⟨λhi=>?_,λhi=>⟨xs,q2,by rw[r2.len,hi];exact le_refl _⟩⟩;have hi:i<d1.length:=hi;have e:d1[i]?=some d1[i]:=by simp[hi]
 obtain⟨x,y1,y2⟩:=r2.get e;refine⟨⟨xs,x,q2,y1⟩,λy H3 ⟨e6,hy⟩=>?_⟩;subst e6;have:=hy xs q2;rw[y1]at this;cases this;exact⟨ρ2,_,.refl,rfl,R2,e,y2⟩
def Ae(lo:Int):Nat->List D
 |0=>[]
 |n+1=>.im (.int lo)::Ae (lo+1) n
@[simp] theorem Gc(lo:Int)(n:Nat):(Ae lo n).length=n:=by
 induction n generalizing lo with
 |zero=>rfl
 |succ n ih=>simp[Ae,ih]
def Ge{n:Nat}:∀{lo:Int} {i:Nat},i<n->(Ae lo n)[i]?=some (.im (.int (lo+i))):=by
 induction n with
 |zero=>intro lo i h;omega
 |succ n ih=>
  intro lo i h;cases i with
  |zero=>simp[Ae]
  |succ i=>
   simp only[Ae,List.getElem?_cons_succ];rw[ih (by omega)]
   congr 3
   push_cast
   omega
def Kv{lo:Int}{n:Nat}{g:Gd}:Gw K ρ H (Itr lo n) (Ae lo n) g:=by
 intro ρ2 H2 hd2 x2 R2 G2 i;refine⟨λhi=>?_,λhi=>by rw[hi,Gc];exact le_refl _⟩;rw[Gc]at hi;refine⟨hi,λx H3 ⟨e1,e2⟩=>?_⟩;subst e1 e2;exact⟨ρ2,_,.refl,rfl,R2,Ge hi,by simp[RD,RI]⟩
open Classical in
def Ds(m:MA):MI:=λls hd=>(m ls hd).bind λp=>match p.1 with
 |[.im (.int j)]=>if HE j then some ((Ae 0 j.toNat,[]),p.2)else none
 |_=>none
def QL{t:TA}{m:MA}(h:RA K t m):RIt K (Lu t) (Ds m):=by
 intro ρ σ H hd ls Q d g hd' hR hL hm hQ;obtain⟨⟨d1,h1⟩,e1,hm⟩:=Yd hm;dsimp only at hm;split at hm
 .next j=>
  split at hm
  .next c=>
   cases hm;refine h ρ σ H hd ls _ _ _ hR hL e1 λρ1 H1 v x1 R1 r1=>?_;simp only[RDs,RD,RI]at r1;obtain⟨x,r,rfl,rfl,rfl⟩:=r1;exact⟨j,rfl,c.1,c.2,hQ ρ1 H1 _ x1 R1 (AJ _) Kv⟩
  .cases hm
 .cases hm
open Classical in
def W6(m:MA):MI:=λls hd=>(m ls hd).bind λp=>match p.1 with
 |[.im (.int i),.im (.int j)]=>if T7 i j then some ((Ae i (j-i).toNat,[]),p.2)else none
 |_=>none
open Classical in
def B4(n:MG)(b:MS)(g:Gd):List D->Ls->Hd->Option (Fl×Hd)
 |[],ls,hd=>some (.nx ls,hd)
 |d::r,ls,hd=>(n d ls hd).bind λls1=>(b ls1 hd).bind λp=>match p.1 with
  |.nx ls2=>if GOk p.2 g then B4 n b g r ls2 p.2 else none
  |.ct ls2=>if GOk p.2 g then B4 n b g r ls2 p.2 else none
  |.bk ls2=>some (.nx ls2,p.2)
  |.rt d=>some (.rt d,p.2)
def Ca(mi:MI)(n:MG)(b:MS):MS:=λls hd=>(mi ls hd).bind λp=>B4 n b p.1.2 p.1.1 ls p.2
def T6{wi:TI}{g:TG}{tb:TS}{mi:MI}{n:MG}{b:MS}(hi:RIt K wi mi)(hg:RGt K g n)(hb:RS K tb b):RS K (Nl wi g tb) (Ca mi n b):=by
 intro ρ σ H hd ls E f hd' hR hL hm hQ;obtain⟨⟨⟨ds,gd⟩,h1⟩,e1,hm⟩:=Yd hm;refine hi ρ σ H hd ls _ ds gd h1 hR hL e1 λρ1 H1 J x1 R1 G1 Y=>?_;dsimp only at hm;refine⟨λi m σ2 H2=>m=ds.length-i/\i<=ds.length/\∃ρ2 ls2 hd2,Ext ρ1 H1 ρ2 H2/\RH K ρ2 H2 hd2/\RL K ρ2 H2 ls2 σ2/\GOk hd2 gd/\B4 n b gd (ds.drop i) ls2 hd2=some (f,hd'),
  ⟨ds.length,by simp,zero_le _,ρ1,ls,h1,.refl,R1,hL.ext hR x1,G1,by simpa using hm⟩,?_⟩
 rintro i m σ2 H2 ⟨rfl,hi,ρ2,ls2,hd2,x2,R2,L2',G2,hm2⟩;obtain⟨Y1,Y2⟩:=Y ρ2 H2 hd2 x2 R2 G2 i;by_cases hlt:i<ds.length
 .obtain⟨go,Y1⟩:=Y1 hlt;have ed:ds.drop i=ds[i]::ds.drop (i+1):=drop_eq_getElem_cons hlt;rw[ed]at hm2;unfold B4 at hm2;obtain⟨ls3,e3,hm2⟩:=Yd hm2;obtain⟨⟨fl,hd4⟩,e4,hm2⟩:=Yd hm2;refine .inr ⟨go,λσ' H'=>∃ρ2 ls2 hd2,Ext ρ1 H1 ρ2 H'/\RH K ρ2 H' hd2/\RL K ρ2 H' ls2 σ'/\GOk hd2 gd/\B4 n b gd (ds.drop (i+1)) ls2 hd2=some (f,hd'),λσ' H' z=>⟨ds.length-(i+1),by omega,rfl,hlt,z⟩,λx H3 y=>?_⟩;obtain⟨ρ3,d3,x3,rfl,R3,e5,r3⟩:=Y1 x H3 y;have e6:d3=ds[i]:=by
   have:ds[i]?=some ds[i]:=by simp[hlt]
   rw[this]at e5;exact(Option.some.inj e5).symm
  subst e6;refine hg ρ3 σ2 H3 hd2 ls2 ls3 _ x _ R3 (L2'.ext R2 x3) r3 e3 λσ4 L4=>?_;refine hb ρ3 σ4 H3 hd2 ls3 _ fl hd4 R3 L4 e4 λρ5 H5 x5 R5=>?_;have x15:=(x2.trans R2 x3).trans R3 x5;cases fl with
  |nx ls5=>
   intro σ5 L5;dsimp only at hm2;split at hm2
   .next c=>exact⟨ρ5,ls5,hd4,x15,R5,L5,c,hm2⟩
   .cases hm2
  |ct ls5=>
   intro σ5 L5;dsimp only at hm2;split at hm2
   .next c=>exact⟨ρ5,ls5,hd4,x15,R5,L5,c,hm2⟩
   .cases hm2
  |bk ls5=>
   intro σ5 L5;cases hm2;exact hQ ρ5 H5 (x1.trans R1 x15) R5 σ5 L5
  |rt d5=>
   intro v5 r5;cases hm2;exact hQ ρ5 H5 (x1.trans R1 x15) R5 v5 r5
 .have e:i=ds.length:=by omega
  subst e;rw[drop_length]at hm2;unfold B4 at hm2;cases hm2;exact .inl ⟨Y2 rfl,hQ ρ2 H2 (x1.trans R1 x2) R2 σ2 L2'⟩
open Classical in
def Ag(n:MG)(c:MT)(m:ME)(g:Gd):List D->Ls->Hd->Option (List D×Hd)
 |[],_,hd=>some ([],hd)
 |d::r,ls,hd=>(n d ls hd).bind λls1=>(c ls1 hd).bind λp=>if p.1=true then(m ls1 p.2).bind λq=>if GOk q.2 g then(Ag n c m g r ls1 q.2).map λz=>(q.1::z.1,z.2)else none else if GOk p.2 g then Ag n c m g r ls1 p.2 else none
def D0(k:Nat)(ix:List Nat)(ls:Ls):Ls:=List.replicate k none++ix.map λi=>(ls[i]?).join
open Classical in
def Ab(k:Nat)(ix:List Nat)(mi:MI)(n:MG)(c:MT)(m:ME):MA:=λls hd=>(mi ls hd).bind λp=>if BO p.1.1.length then Ag n c m p.1.2 p.1.1 (D0 k ix ls) p.2 else none
def Ks{k:Nat}{ix:List Nat}{ls:Ls}{σ:St}(h:RL K ρ H ls σ):RL K ρ H (D0 k ix ls) (E5 k ix σ):=by
 refine⟨by simp[D0,E5],λi d e=>?_⟩;unfold D0 at e;unfold E5;by_cases hi:i<k
 .rw[List.getElem?_append_left (by simpa using hi),List.getElem?_replicate]at e;split at e<;>cases e
 .have hi':k<=i:=Nat.not_lt.mp hi;rw[List.getElem?_append_right (by simpa using hi'),List.length_replicate,List.getElem?_map]at e ⊢;cases q:ix[i-k]? with
  |none=>rw[q]at e;cases e
  |some j=>
   rw[q]at e;simp only[map_some,Option.some.injEq]at e ⊢;have e5:ls[j]?=some (some d):=by
    cases w:ls[j]? with
    |none=>rw[w]at e;cases e
    |some z=>rw[w]at e;simpa using e
   obtain⟨v,e6,e7⟩:=h.ob j d e5;exact⟨v,by rw[e6];rfl,e7⟩
def KY{k:Nat}{ix:List Nat}{wi:TI}{g:TG}{tf:TT}{te:TE}{mi:MI}{n:MG}{c:MT}{m:ME}(hi:RIt K wi mi)(hg:RGt K g n)(hf:RT K tf c)(he:RE K te m):RN K (EV k ix wi g tf te) (Ab k ix mi n c m):=by
 intro ρ σ H hd ls Q out hd' hR hL hm hQ;obtain⟨⟨⟨ds,gd⟩,h1⟩,e1,hm⟩:=Yd hm;dsimp only at hm;split at hm
 .next hlen=>
  have hlen:ds.length<=sizeLine:=hlen;refine hi ρ σ H hd ls _ ds gd h1 hR hL e1 λρ1 H1 J x1 R1 G1 Y=>?_;intro Da hDa;obtain⟨R1',x1'⟩:=R1.hid (ho:=.lst []) hDa;have oD:Da∉ρ1:=R1.out hDa;have nD:H Da=none:=x1.none hR hDa R1;refine⟨λi mm σ2 ys H2=>mm=ds.length-i/\i<=ds.length/\∃ρ2 ls2 hd2 es rest,Ext ρ1 (upd H1 Da (.lst ys)) ρ2 H2/\Ext ρ1 H1 ρ2 H2/\Da∉ρ2/\H2 Da=some (.lst ys)/\RH K ρ2 H2 hd2/\RL K ρ2 H2 ls2 σ2/\RDs K ρ2 H2 es ys/\es.length<=i/\GOk hd2 gd/\Ag n c m gd (ds.drop i) ls2 hd2=some (rest,hd')/\out=es++rest,
   ⟨ds.length,by simp,zero_le _,ρ1,_,h1,[],out,.refl,x1',oD,AE,R1',(Ks ((hL.ext hR x1).ext R1 x1')),.nil,le_refl _,G1,by simpa using hm,rfl⟩,?_⟩
  rintro i mm σ2 ys H2 ⟨rfl,hi,ρ2,ls2,hd2,es,rest,x2',x2,oD2,hD2,R2,L2',r2,hle,G2,hm2,rfl⟩;refine⟨hD2,?_⟩;obtain⟨Y1,Y2⟩:=Y ρ2 H2 hd2 x2 R2 G2 i;by_cases hlt:i<ds.length
  .obtain⟨go,Y1⟩:=Y1 hlt;have ed:ds.drop i=ds[i]::ds.drop (i+1):=drop_eq_getElem_cons hlt;rw[ed]at hm2;unfold Ag at hm2;obtain⟨ls3,e3,hm2⟩:=Yd hm2;obtain⟨⟨bb,hd4⟩,e4,hm2⟩:=Yd hm2;refine .inr ⟨go,Nat.lt_of_le_of_lt (by rw[r2.len];exact hle) (by omega),λσ' ys' H'=>∃ρ2 ls2 hd2 es' rest',Ext ρ1 (upd H1 Da (.lst ys')) ρ2 H'/\Ext ρ1 H1 ρ2 H'/\Da∉ρ2/\H' Da=some (.lst ys')/\RH K ρ2 H' hd2/\RL K ρ2 H' ls2 σ'/\RDs K ρ2 H' es' ys'/\es'.length<=i+1/\GOk hd2 gd/\Ag n c m gd (ds.drop (i+1)) ls2 hd2=some (rest',hd')/\es++rest=es'++rest',λσ' ys' H' z=>⟨ds.length-(i+1),by omega,rfl,hlt,z⟩,λx H3 y=>?_⟩;obtain⟨ρ3,d3,x3,rfl,R3,e5,r3⟩:=Y1 x H3 y;have e6:d3=ds[i]:=by
    have:ds[i]?=some ds[i]:=by simp[hlt]
    rw[this]at e5;exact(Option.some.inj e5).symm
   subst e6;refine hg ρ3 σ2 H3 hd2 ls2 ls3 _ x _ R3 (L2'.ext R2 x3) r3 e3 λσ4 L4=>?_;refine hf ρ3 σ4 H3 hd2 ls3 _ bb hd4 R3 L4 e4 λρ5 H5 x5 R5=>?_;have hD5:H5 Da=some (.lst ys):=x5.keep Da _ (x3.keep Da _ hD2 oD2 nt) oD2 nt;have out5:Da∉ρ5:=by
    obtain⟨r,rfl,fr⟩:=x5.pre;intro z;rcases mem_append.mp z with z|z
    .exact oD2 z
    .have:=fr _ z;rw[x3.keep Da _ hD2 oD2 nt]at this;cases this
   cases bb with
   |false=>
    rw[if_neg Bool.false_ne_true]at hm2 ⊢;have y25:=x3.trans R3 x5;split at hm2
    .next g5=>exact⟨ρ5,ls3,hd4,es,rest,x2'.trans R2 y25,(x2.trans R2 y25),out5,hD5,R5,L4.ext R3 x5,(r2.ext R2 y25),by omega,g5,hm2,rfl⟩
    .cases hm2
   |true=>
    rw[if_pos rfl]at hm2 ⊢;obtain⟨⟨z,hd6⟩,e6,hm2⟩:=Yd hm2;obtain⟨g6,hm2⟩:GOk hd6 gd/\((Ag n c m gd (ds.drop (i+1)) ls3 hd6).map λq=>(z::q.1,q.2))=some (rest,hd'):=by
     dsimp only at hm2;split at hm2
     .next g6=>exact⟨g6,hm2⟩
     .cases hm2
    obtain⟨⟨zs,hd7⟩,e7,e8⟩:=Ye hm2;cases e8;refine he ρ5 σ4 H5 hd4 ls3 _ z hd6 R5 (L4.ext R3 x5) e6 λρ6 H6 v6 x6 R6 r6=>?_;have hD6:H6 Da=some (.lst ys):=x6.keep Da _ hD5 out5 nt;have out6:Da∉ρ6:=by
     obtain⟨r,rfl,fr⟩:=x6.pre;intro z;rcases mem_append.mp z with z|z
     .exact out5 z
     .have:=fr _ z;rw[hD5]at this;cases this
    refine⟨hD6,?_⟩;have y26:=(x3.trans R3 x5).trans R5 x6;have gr:Grow H6 (upd H6 Da (.lst (ys++[v6]))):=Grow.refl.put (.lst hD6);have R7:=R6.hput (ho:=.lst (ys++[v6])) out6 hD6;have x12:=x2.trans R2 y26;have ext7:Ext ρ1 H1 ρ6 (upd H6 Da (.lst (ys++[v6]))):=⟨x12.pre,λb o q nb t=>by
     have:b≠Da:=AG q hDa;rw[A4 this];exact x12.keep b o q nb t,λb ps q=>by
     have:b≠Da:=AG q hDa;rw[A4 this];exact x12.tab b ps q⟩
    have ext8:Ext ρ1 (upd H1 Da (.lst (ys++[v6]))) ρ6 (upd H6 Da (.lst (ys++[v6]))):=by
     obtain⟨r,er,fr⟩:=x12.pre;refine⟨⟨r,er,λb hb=>?_⟩,λb o q nb t=>?_,λb ps q=>?_⟩
     .have:b≠Da:=λz=>out6 (by rw[er,<- z];exact mem_append_right _ hb);rw[A4 this];exact fr b hb
     .by_cases hb:b=Da
      .subst hb;rw[AE]at q ⊢;exact q
      .rw[A4 hb]at q ⊢;exact x12.keep b o q nb t
     .by_cases hb:b=Da
      .subst hb;rw[AE]at q;cases q
      .rw[A4 hb]at q ⊢;exact x12.tab b ps q
    refine⟨ρ6,ls3,hd6,es++[z],zs,ext8,ext7,out6,AE,R7,?_,?_,by simp;omega,g6,e7,by simp⟩
    .have L6:=(L4.ext R3 x5).ext R5 x6;exact⟨L6.len,λi d e=>let ⟨v,a,b⟩:=L6.ob i d e;⟨v,a,by simpa using b.mono gr []⟩⟩
    .have:=((r2.ext R2 y26).app (.cons r6 .nil)).mono gr [];simpa using this
  .have e:i=ds.length:=by omega
   subst e;rw[drop_length]at hm2;unfold Ag at hm2;cases hm2;refine .inl ⟨Y2 rfl,?_⟩;exact hQ ρ2 H2 Da ys (x1.trans R1 x2) R2 nD oD2 hD2 (by simpa using r2)
 .cases hm
end
mutual
def clD(w:Nat):D->Bool
 |.im _=>true
 |.mu n=>decide (n<w)
 |.tm ds=>Ar w ds
 |.ro _=>true
 |.op _ _ ds=>Ar w ds
 |.fv _ ds=>Ar w ds
def Ar(w:Nat):List D->Bool
 |[]=>true
 |d::ds=>clD w d&&Ar w ds
end
def E4(w:Nat):List (Key×D)->Bool
 |[]=>true
 |d::ds=>clD w d.2&&E4 w ds
def clO(w:Nat):MO->Bool
 |.lst ds=>Ar w ds
 |.dic ds=>E4 w ds
section
variable{K:PySem.W.Frag}{ρ ρ' ρ1:List Addr}{H H' H1:Hp}{hd hd' h1 h2:Hd}
mutual
theorem RD.take(w:Nat):∀{d:D} {v:V},RD K ρ H d v->clD w d=true->RD K (ρ.take w) H d v
 |.im i,v,h,_=>by simp only[RD]at h ⊢;exact h
 |.mu n,v,h,c=>by
  simp only[RD]at h ⊢;obtain⟨a,e,q⟩:=h;exact⟨a,by rw[List.getElem?_take_of_lt (by simpa [clD]using c)];exact e,q⟩
 |.tm ds,v,h,c=>by
  simp only[RD]at h ⊢;obtain⟨a,xs,e,q,z⟩:=h;exact⟨a,xs,e,q,RDs.take' w z (by simpa [clD]using c)⟩
 |.ro ns,v,h,c=>by simp only[RD]at h ⊢;exact h
 |.op nm fs ds,v,h,c=>by
  simp only[RD]at h ⊢;obtain⟨a,xs,e,q,z⟩:=h;exact⟨a,xs,e,q,RDs.take' w z (by simpa [clD]using c)⟩
 |.fv k ds,v,h,c=>by
  simp only[RD]at h ⊢;obtain⟨a,xs,e,q,z⟩:=h;exact⟨a,xs,e,q,RDs.take' w z (by simpa [clD]using c)⟩
theorem RDs.take'(w:Nat):∀{d:List D} {v:List V},RDs K ρ H d v->Ar w d=true->RDs K (ρ.take w) H d v
 |[],v,h,_=>by simpa only[RDs]using h
 |d::ds,v,h,c=>by
  simp only[RDs]at h ⊢;obtain⟨x,r',e,q,z⟩:=h;have c:clD w d=true/\Ar w ds=true:=by simpa [Ar]using c
  exact⟨x,r',e,q.take w c.1,RDs.take' w z c.2⟩
end
theorem RKs.take(w:Nat):∀{d:List (Key×D)} {v:List (Key×V)},RKs K ρ H d v->E4 w d=true->RKs K (ρ.take w) H d v
 |[],v,h,_=>by simpa only[RKs]using h
 |d::ds,v,h,c=>by
  simp only[RKs]at h ⊢;obtain⟨x,r',e,q1,q,z⟩:=h;have c:clD w d.2=true/\E4 w ds=true:=by simpa [E4]using c
  exact⟨x,r',e,q1,q.take w c.1,RKs.take w z c.2⟩
theorem RC.take(w:Nat){o:MO}{ho:HO}(h:RC K ρ H o ho)(c:clO w o=true):RC K (ρ.take w) H o ho:=by
 cases o with
 |lst ds=>obtain⟨xs,e,q⟩:=h;exact⟨xs,e,q.take' w c⟩
 |dic ds=>obtain⟨xs,e,q⟩:=h;exact⟨xs,e,q.take w c⟩
theorem RH.take(h:RH K ρ H hd)(w:Nat)(c:(hd.take w).all (clO w)=true):RH K (ρ.take w) H (hd.take w):=by
 refine⟨by simp[h.len],h.nd.sublist (List.take_sublist _ _),h.tabs,λn o a e1 e2=>?_⟩;have co:=all_eq_true.mp c o (mem_of_getElem? e1);have hn:n<w:=by
  have:=(List.getElem?_eq_some_iff.mp e1).1;simp at this;omega
 rw[List.getElem?_take_of_lt hn]at e1 e2;obtain⟨ho,q1,q2⟩:=h.ob n o a e1 e2;exact⟨ho,q1,q2.take w co⟩
def RH.back(R1:RH K ρ1 H1 h1){w:Nat}(hw:w<=h1.length)(c1:(h1.take w).all (clO w)=true)(x:Ext (ρ1.take w) H1 ρ' H')(R':RH K ρ' H' h2)(c:(h2.take w).all (clO w)=true):
 RH K ρ1 H' (h2.take w++h1.drop w)/\Ext ρ1 H1 ρ1 H'/\ρ'.take w=ρ1.take w:=by
 obtain⟨r,rfl,fr⟩:=x.pre;have lw:(ρ1.take w).length=w:=by rw[length_take,R1.len];omega
 have l2:w<=h2.length:=by rw[<- R'.len];simp[lw]
 have tk:(ρ1.take w++r).take w=ρ1.take w:=by rw[List.take_append_of_le_length (by omega),List.take_take];simp
 refine⟨⟨?_,R1.nd,R'.tabs,λn o a e1 e2=>?_⟩,⟨⟨[],by simp,by simp⟩,λb o q nb t=>x.keep b o q (λm=>nb (List.mem_of_mem_take m)) t,x.tab⟩,tk⟩
 .rw[length_append,length_take,length_drop,R1.len];omega
 .by_cases hn:n<w
  .rw[List.getElem?_append_left (by rw[length_take];omega),List.getElem?_take_of_lt hn]at e1;have e3:(ρ1.take w++r)[n]?=some a:=by
    rw[List.getElem?_append_left (by omega),List.getElem?_take_of_lt hn];exact e2
   obtain⟨ho,q1,q2⟩:=R'.ob n o a e1 e3;have co:=all_eq_true.mp c o (by
    have:(h2.take w)[n]?=some o:=by rw[List.getElem?_take_of_lt hn];exact e1
    exact mem_of_getElem? this)
   have q3:=q2.take w co;rw[tk]at q3;have q4:=q3.mono (Grow.refl (H:=H')) (ρ1.drop w);rw[List.take_append_drop]at q4;exact⟨ho,q1,q4⟩
  .rw[List.getElem?_append_right (by rw[length_take];omega),length_take,List.getElem?_drop]at e1;have e1:h1[n]?=some o:=by
    have:w+(n-min w h2.length)=n:=by omega
    rw[this]at e1;exact e1
   obtain⟨ho,q1,q2⟩:=R1.ob n o a e1 e2;have out:a∉ρ1.take w:=λm=>by
    obtain⟨k,hk⟩:=mem_iff_getElem?.mp m;have kw:k<w:=by
     have:=(List.getElem?_eq_some_iff.mp hk).1;rw[lw]at this;exact this
    rw[List.getElem?_take_of_lt kw]at hk;have:=(List.getElem?_inj (List.getElem?_eq_some_iff.mp e2).1 R1.nd).mp (e2.trans hk.symm);omega
   have gr:=x.grow (R1.take w c1);exact⟨ho,x.keep a ho q1 out (λps z=>by rcases R1.mut (mem_of_getElem? e2)with⟨y,w⟩|⟨y,w⟩<;>(rw[q1,z]at w;cases w)),by simpa using q2.mono gr []⟩
def spF(K:PySem.W.Frag)(k:Nat)(F:List D->Hd->Option (D×Hd)):Sp:=λvs H Q _=>vs.length=k/\∃(ρ:List Addr) (hd:Hd) (ds:List D) (d:D) (hd':Hd),RH K ρ H hd/\RDs K ρ H ds vs/\F ds hd=some (d,hd')/\
 ∀ρ' H' v,Ext ρ H ρ' H'->RH K ρ' H' hd'->RD K ρ' H' d v->Q v H'
def mkF(k n:Nat)(m:MS):List D->Hd->Option (D×Hd):=λds hd=>if ds.length=k then(match m (ds.map some++List.replicate (n-k) none) hd with
 |some (.rt d,hd')=>some (d,hd')
 |some (.nx _,hd')=>some (.im .non,hd')
 | _=>none)else none
def JQ{N:List Str}:∀{ds:List D} {vs:List V},RDs K ρ H ds vs->RL K ρ H (ds.map some++List.replicate (N.length-ds.length) none) (start N vs):=by
 intro ds vs r;have hl:=r.len;refine⟨by simp[start,hl],λi d e=>?_⟩;unfold start;by_cases hi:i<ds.length
 .rw[List.getElem?_append_left (by simpa using hi),List.getElem?_map]at e;have e':ds[i]?=some d:=by
   cases q:ds[i]? with
   |none=>rw[q]at e;cases e
   |some z=>rw[q]at e;simpa using e
  obtain⟨x,x1,x2⟩:=r.get e';exact⟨x,by rw[List.getElem?_append_left (by rw[length_map,hl];exact hi),List.getElem?_map,x1];rfl,x2⟩
 .rw[List.getElem?_append_right (by simpa using Nat.not_lt.mp hi),List.getElem?_replicate]at e;split at e<;>cases e
def KR{k:Nat}{N:List Str}{m:MS}{t:TS}(h:RS K t m){vs:List V}{H:Hp}{Q:VK}{E:XK}(s:spF K k (mkF k N.length m) vs H Q E):t { nx:=λ_ H'=>Q .non H',rt:=Q } (start N vs) H:=by
 obtain⟨hk,ρ,hd,ds,d,hd',hR,hr,hF,hQ⟩:=s;unfold mkF at hF;split at hF
 .next hl=>
  subst hl;split at hF
  .next q=>
   cases hF;exact h ρ _ H hd _ _ _ _ hR (JQ hr) q λρ' H' x R v r=>hQ ρ' H' v x R r
  .next q=>
   cases hF;exact h ρ _ H hd _ _ _ _ hR (JQ hr) q λρ' H' x R σ L=>hQ ρ' H' .non x R (by simp[RD,RI])
  .cases hF
 .cases hF
def CA(F:List D->Hd->Option (D×Hd))(ma:MA):ME:=λls hd=>(ma ls hd).bind λp=>F p.1 p.2
def O2{k:Nat}{F:List D->Hd->Option (D×Hd)}{t:TA}{m:MA}(h:RA K t m)(hk:∀ds hd z,F ds hd=some z->ds.length=k):RE K (Dj (spF K k F) [] E0 t) (CA F m):=by
 and_intros;obtain⟨⟨d1,h1⟩,e1,hm⟩:=Yd hm;refine h ρ σ H hd ls _ d1 h1 hR hL e1 λρ1 H1 v1 x1 R1 r1=>?_;rw[append_nil];exact⟨by rw[r1.len];exact hk _ _ _ hm,ρ1,h1,d1,d,hd',R1,r1,hm,λρ' H' w x2 R2 r2=>hQ ρ' H' w (x1.trans R1 x2) R2 r2⟩
def Kf{k n:Nat}{m:MS}:∀ds hd z,mkF k n m ds hd=some z->ds.length=k:=λds hd z h=>by
 unfold mkF at h;split at h
 .next e=>exact e
 .cases h
def fin(w:Nat)(d:D)(h2 rest:Hd):Option (D×Hd):=if(h2.take w).all (clO w)=true then(match d with
 | .mu k=>if k<w then some (.mu k,h2.take w++rest)else(match h2[k]? with
  |some (.lst ds)=>if Ar w ds=true then some (.mu (w+rest.length),h2.take w++rest++[.lst ds])else none
  | _=>none)
 | d=>if clD w d=true then some (d,h2.take w++rest)else none)else none
def AF(w:Nat)(F:List D->Hd->Option (D×Hd))(ma:MA):ME:=λls hd=>(ma ls hd).bind λp=>
 if w<=p.2.length/\Ar w p.1=true/\(p.2.take w).all (clO w)=true then(F p.1 (p.2.take w)).bind λr=>fin w r.1 r.2 (p.2.drop w)else none
def O0{w k:Nat}{F:List D->Hd->Option (D×Hd)}{t:TA}{m:MA}(h:RA K t m)(hk:∀ds hd z,F ds hd=some z->ds.length=k):RE K (Dj (spF K k F) [] E0 t) (AF w F m):=by
 and_intros;obtain⟨⟨d1,h1⟩,e1,hm⟩:=Yd hm;dsimp only at hm;split at hm
 .next c=>
  obtain⟨c0,c1,c2⟩:=c;obtain⟨⟨d2,h2⟩,e2,hm⟩:=Yd hm;refine h ρ σ H hd ls _ d1 h1 hR hL e1 λρ1 H1 v1 x1 R1 r1=>?_;rw[append_nil];refine⟨by rw[r1.len];exact hk _ _ _ e2,ρ1.take w,h1.take w,d1,d2,h2,R1.take w c2,r1.take' w c1,e2,λρ' H' v x2 R2 r2=>?_⟩;unfold fin at hm;dsimp only at hm;split at hm
  .next c3=>
   obtain⟨R3,x3,tk⟩:=R1.back c0 c2 x2 R2 c3;have up:∀{d:D} {v:V},RD K ρ' H' d v->clD w d=true->RD K ρ1 H' d v:=λr c=>by
    have q:=r.take w c;rw[tk]at q;have q:=q.mono (Grow.refl (H:=H')) (ρ1.drop w);rw[List.take_append_drop]at q;exact q
   have ups:∀{d:List D} {v:List V},RDs K ρ' H' d v->Ar w d=true->RDs K ρ1 H' d v:=λr c=>by
    have q:=r.take' w c;rw[tk]at q;have q:=q.mono (Grow.refl (H:=H')) (ρ1.drop w);rw[List.take_append_drop]at q;exact q
   split at hm
   .next k'=>
    split at hm
    .next hk'=>
     cases hm;exact hQ ρ1 H' v (x1.trans R1 x3) R3 (up r2 (by simpa [clD]using hk'))
    .next hk'=>
     split at hm
     .next ds q=>
      split at hm
      .next c4=>
       cases hm;simp only[RD]at r2;obtain⟨a,ea,rfl⟩:=r2;obtain⟨xs,l1,l2⟩:=R2.lst ea q;have len3:=R3.len;have out:a∉ρ1:=λm=>by
        -- a is one of those made behind the first w
        obtain⟨r,er,fr⟩:=x2.pre;have lw:(ρ1.take w).length=w:=by rw[length_take,R1.len];omega
        have ma:a∈r:=by
         rw[er,List.getElem?_append_right (by rw[lw];omega)]at ea;exact mem_of_getElem? ea
        exact R1.out (fr a ma) m
       have na:H1 a=none:=by
        obtain⟨r,er,fr⟩:=x2.pre;have lw:(ρ1.take w).length=w:=by rw[length_take,R1.len];omega
        have ma:a∈r:=by
         rw[er,List.getElem?_append_right (by rw[lw];omega)]at ea;exact mem_of_getElem? ea
        exact fr a ma
       refine hQ (ρ1++[a]) H' _ (x1.trans R1 (x3.name na)) (R3.name out l1 (ups l2 c4)) ?_;simp only[RD];refine⟨a,?_,rfl⟩;have:w+(List.drop w h1).length=ρ1.length:=by rw[length_drop,R1.len];omega
       rw[this];simp
      .cases hm
     .cases hm
   .next d' nd=>
    split at hm
    .next c4=>cases hm;exact hQ ρ1 H' v (x1.trans R1 x3) R3 (up r2 c4)
    .cases hm
  .cases hm
 .cases hm
def Ap(c:MT)(b:MS):Nat->Ls->Hd->Option (Fl×Hd)
 |0,_,_=>none
 | k+1,ls,hd=>(c ls hd).bind λp=>if p.1=true then(b ls p.2).bind λq=>(match q.1 with
  |.nx ls2=>Ap c b k ls2 q.2
  |.ct ls2=>Ap c b k ls2 q.2
  |.bk ls2=>some (.nx ls2,q.2)
  | .rt d=>some (.rt d,q.2))else some (.nx ls,p.2)
open Classical in
def Db(c:MT)(b:MS):MS:=λls hd=>if h:∃r k,Ap c b k ls hd=some r then some h.choose else none
theorem Ct{c:MT}{b:MS}:∀{k j:Nat} {ls:Ls} {hd:Hd} {r:Fl×Hd},Ap c b k ls hd=some r->k<=j->Ap c b j ls hd=some r
 |0,_,_,_,_,h,_=>by cases h
 |k+1,0,_,_,_,_,hj=>by omega
 |k+1,j+1,ls,hd,r,h,hj=>by
  unfold Ap at h ⊢;obtain⟨p,e1,h⟩:=Yd h;rw[e1];show(if p.1=true then _ else _)=_;split at h
  .next c=>
   rw[if_pos c];obtain⟨q,e2,h⟩:=Yd h;rw[e2];obtain⟨f,hd2⟩:=q;cases f with
   |nx ls2=>exact Ct h (by omega)
   |ct ls2=>exact Ct h (by omega)
   |bk ls2=>exact h
   |rt d=>exact h
  .next c=>rw[if_neg c];exact h
def N0{c:MT}{b:MS}{k:Nat}{ls:Ls}{hd:Hd}{r:Fl×Hd}(h:Ap c b k ls hd=some r):Db c b ls hd=some r:=by
 unfold Db;have ex:∃r k,Ap c b k ls hd=some r:=⟨r,k,h⟩
 rw[dif_pos ex];obtain⟨j,e⟩:=ex.choose_spec;have e1:=Ct e (Nat.le_max_left j k);have e2:=Ct h (Nat.le_max_right j k);rw[e1]at e2;exact e2
def Nt{tc:TT}{tb:TS}{c:MT}{b:MS}(hc:RT K tc c)(hb:RS K tb b):RS K (J8 tc tb) (Db c b):=by
 intro ρ σ H hd ls E f hd' hR hL hm hQ;obtain⟨k,hk⟩:∃k,Ap c b k ls hd=some (f,hd'):=by
  unfold Db at hm;split at hm
  .next ex=>
   obtain⟨j,e⟩:=ex.choose_spec;exact⟨j,by rw[e];exact hm⟩
  .cases hm
 refine⟨λm σ2 H2=>∃ρ2 ls2 hd2,Ext ρ H ρ2 H2/\RH K ρ2 H2 hd2/\RL K ρ2 H2 ls2 σ2/\Ap c b m ls2 hd2=some (f,hd'),⟨k,ρ,ls,hd,.refl,hR,hL,hk⟩,?_⟩;rintro m σ2 H2 ⟨ρ2,ls2,hd2,x2,R2,L2',hm2⟩;cases m with
 |zero=>cases hm2
 |succ m=>
  unfold Ap at hm2;obtain⟨⟨bb,hd3⟩,e1,hm2⟩:=Yd hm2;refine hc ρ2 σ2 H2 hd2 ls2 _ bb hd3 R2 L2' e1 λρ3 H3 x3 R3=>?_;cases bb with
  |false=>
   rw[if_neg Bool.false_ne_true]at hm2 ⊢;cases hm2;exact hQ ρ3 H3 (x2.trans R2 x3) R3 σ2 (L2'.ext R2 x3)
  |true=>
   rw[if_pos rfl]at hm2 ⊢;obtain⟨⟨fl,hd4⟩,e2,hm2⟩:=Yd hm2;refine⟨λσ' H'=>∃ρ2 ls2 hd2,Ext ρ H ρ2 H'/\RH K ρ2 H' hd2/\RL K ρ2 H' ls2 σ'/\Ap c b m ls2 hd2=some (f,hd'),λσ' H' z=>⟨m,Nat.lt_succ_self m,z⟩,?_⟩;refine hb ρ3 σ2 H3 hd3 ls2 _ fl hd4 R3 (L2'.ext R2 x3) e2 λρ5 H5 x5 R5=>?_;have x15:=(x2.trans R2 x3).trans R3 x5;cases fl with
   |nx ls5=>intro σ5 L5;exact⟨ρ5,ls5,hd4,x15,R5,L5,hm2⟩
   |ct ls5=>intro σ5 L5;exact⟨ρ5,ls5,hd4,x15,R5,L5,hm2⟩
   |bk ls5=>intro σ5 L5;cases hm2;exact hQ ρ5 H5 x15 R5 σ5 L5
   |rt d5=>intro v5 r5;cases hm2;exact hQ ρ5 H5 x15 R5 v5 r5
def Bt(kvs:List (Key×D))(k:Key):Option D:=(kvs.find? λkv=>decide (kv.1=k)).map (·.2)
def CV(kvs:List (Key×D))(k:Key)(v:D):List (Key×D):=
 if(kvs.any λkv=>decide (kv.1=k))=true then kvs.map (λkv=>if kv.1=k then(kv.1,v)else kv)else kvs++[(k,v)]
theorem RKs.val:∀{kvs:List (Key×D)} {xs:List (Key×V)} {k:Key} {d:D},RKs K ρ H kvs xs->Bt kvs k=some d->∃v,Ck xs k=some v/\RD K ρ H d v
 |[],xs,k,d,h,e=>by simp[Bt]at e
 |p::kvs,xs,k,d,h,e=>by
  simp only[RKs]at h;obtain⟨x,r,rfl,e1,r1,r2⟩:=h;by_cases hk:p.1=k
  .rw[DR (e1.trans hk)];simp[Bt,find?_cons,hk]at e;subst e;exact⟨_,rfl,r1⟩
  .rw[DS (by rw[e1];exact hk)];simp only[Bt,find?_cons,hk,decide_false]at e;exact RKs.val r2 e
theorem RKs.valN:∀{kvs:List (Key×D)} {xs:List (Key×V)} {k:Key},RKs K ρ H kvs xs->(Ck xs k).isSome=(Bt kvs k).isSome
 |[],xs,k,h=>by simp only[RKs]at h;subst h;rfl
 |p::kvs,xs,k,h=>by
  simp only[RKs]at h;obtain⟨x,r,rfl,e1,r1,r2⟩:=h;by_cases hk:p.1=k
  .rw[DR (e1.trans hk)];simp[Bt,find?_cons,hk]
  .rw[DS (by rw[e1];exact hk)];simp only[Bt,find?_cons,hk,decide_false];exact RKs.valN r2
theorem RKs.any:∀{kvs:List (Key×D)} {xs:List (Key×V)} {k:Key},RKs K ρ H kvs xs->(xs.any λkv=>decide (kv.1=k))=(kvs.any λkv=>decide (kv.1=k))
 |[],xs,k,h=>by simp only[RKs]at h;subst h;rfl
 |p::kvs,xs,k,h=>by
  simp only[RKs]at h;obtain⟨x,r,rfl,e1,r1,r2⟩:=h;simp only[any_cons,e1,RKs.any r2]
theorem RKs.upd:∀{kvs:List (Key×D)} {xs:List (Key×V)} {k:Key} {d:D} {v:V},RKs K ρ H kvs xs->RD K ρ H d v->RKs K ρ H (kvs.map (λkv=>if kv.1=k then(kv.1,d)else kv)) (xs.map (λkv=>if kv.1=k then(kv.1,v)else kv))
 |[],xs,k,d,v,h,_=>by simp only[RKs]at h;subst h;simp[RKs]
 |p::kvs,xs,k,d,v,h,q=>by
  simp only[RKs]at h;obtain⟨x,r,rfl,e1,r1,r2⟩:=h;simp only[map_cons,RKs];refine⟨_,_,rfl,?_,?_,RKs.upd r2 q⟩
  .rw[e1];split<;>simp[e1]
  .rw[e1];split
   .exact q
   .exact r1
theorem RKs.app:∀{kvs ks:List (Key×D)} {xs ys:List (Key×V)},RKs K ρ H kvs xs->RKs K ρ H ks ys->RKs K ρ H (kvs++ks) (xs++ys)
 |[],ks,xs,ys,h,t=>by simp only[RKs]at h;subst h;simpa using t
 |d::ds,ks,xs,ys,h,t=>by
  simp only[RKs]at h;obtain⟨x,r,rfl,e,z,q⟩:=h;simp only[cons_append,RKs];exact⟨_,_,rfl,e,z,q.app t⟩
def RKs.put{kvs:List (Key×D)}{xs:List (Key×V)}{k:Key}{d:D}{v:V}(h:RKs K ρ H kvs xs)(q:RD K ρ H d v):RKs K ρ H (CV kvs k d) (BY xs k v):=by
 unfold CV BY;rw[h.any];split
 .exact h.upd q
 .exact h.app (by simp only[RKs];exact⟨_,_,rfl,rfl,q,rfl⟩)
def Cp:D->Option Key
 |.im (.int i)=>some (.inl i)
 |.im (.str x)=>some (.inr x)
 |_=>none
def HU{d:D}{v:V}{k:Key}(h:RD K ρ H d v)(e:Cp d=some k):v=kV k:=by
 cases d with
 |im i=>
  cases i with
  |int i=>simp only[Cp,Option.some.injEq]at e;subst e;simp only[RD,RI]at h;exact h
  |str i=>simp only[Cp,Option.some.injEq]at e;subst e;simp only[RD,RI]at h;exact h
  |_=>simp[Cp]at e
 |_=>simp[Cp]at e
def DN(hd:Hd):D->Option (List (Key×D))
 |.mu n=>match hd[n]? with
  |some (.dic kvs)=>some kvs
  |_=>none
 |_=>none
theorem RD.dic{d:D}{v:V}{kvs:List (Key×D)}(hR:RH K ρ H hd)(h:RD K ρ H d v)(e:DN hd d=some kvs):∃n a xs,d=.mu n/\v=.ref a/\ρ[n]?=some a/\H a=some (.dK xs)/\RKs K ρ H kvs xs:=by
 cases d with
 |mu n=>
  simp only[DN]at e;simp only[RD]at h;obtain⟨a,hn,rfl⟩:=h;split at e
  .next q=>
   cases e;obtain⟨xs,e1,e2⟩:=hR.dic hn q;exact⟨n,a,xs,rfl,rfl,hn,e1,e2⟩
  .cases e
 |_=>simp[DN]at e
def Bf:D->D->Hd->Option (D×Hd):=λd e hd=>(DN hd d).bind λkvs=>(Cp e).bind λk=>(Bt kvs k).map (·,hd)
def Qc{td ty:TE}{md my:ME}(hd:RE K td md)(hy:RE K ty my):RE K (LI td ty) (mOp Bf md my):=by
 intro ρ σ H hd0 ls Q d hd' hR hL hm hQ;obtain⟨⟨d1,h1⟩,e1,hm⟩:=Yd hm;obtain⟨⟨d2,h2⟩,e2,hm⟩:=Yd hm;obtain⟨kvs,e3,hm⟩:=Yd hm;obtain⟨k,e4,hm⟩:=Yd hm;obtain⟨w,e5,e6⟩:=Ye hm;cases e6;refine hd ρ σ H hd0 ls _ d1 h1 hR hL e1 λρ1 H1 v1 x1 R1 r1=>?_;refine hy ρ1 σ H1 h1 ls _ d2 _ R1 (hL.ext hR x1) e2 λρ2 H2 v2 x2 R2 r2=>?_;obtain⟨n,a,xs,rfl,rfl,hn,l1,l2⟩:=RD.dic R2 (r1.ext R1 x2) e3;have:=HU r2 e4;subst this;obtain⟨v,v1,v2⟩:=l2.val e5;exact⟨a,v,rfl,v1 ▸ DGet.k l1,hQ ρ2 H2 v (x1.trans R1 x2) R2 v2⟩
open Classical in
def Dm(md my mv:ME):MS:=λls hd=>(mv ls hd).bind λp=>(md ls p.2).bind λq=>(my ls q.2).bind λr=>(Cp r.1).bind λk=>match q.1 with
 |.mu n=>match r.2[n]? with
  |some (.dic kvs)=>if Er kvs.length then some (.nx ls,r.2.set n (.dic (CV kvs k p.1)))else none
  |_=>none
 |_=>none
def QD{td ty tv:TE}{md my mv:ME}(hd:RE K td md)(hy:RE K ty my)(hv:RE K tv mv):RS K (LP td ty tv) (Dm md my mv):=by
 intro ρ σ H hd0 ls E f hd' hR hL hm hQ;obtain⟨⟨d1,h1⟩,e1,hm⟩:=Yd hm;obtain⟨⟨d2,h2⟩,e2,hm⟩:=Yd hm;obtain⟨⟨d3,h3⟩,e3,hm⟩:=Yd hm;obtain⟨k,e4,hm⟩:=Yd hm;dsimp only at hm;split at hm
 .split at hm
  .next q=>
   split at hm
   .next c=>
    cases hm;refine hv ρ σ H hd0 ls _ d1 h1 hR hL e1 λρ1 H1 v1 x1 R1 r1=>?_;refine hd ρ1 σ H1 h1 ls _ _ h2 R1 (hL.ext hR x1) e2 λρ2 H2 v2 x2 R2 r2=>?_;refine hy ρ2 σ H2 h2 ls _ d3 _ R2 (hL.ext hR (x1.trans R1 x2)) e3 λρ3 H3 v3 x3 R3 r3=>?_;have r2:=r2.ext R2 x3;simp only[RD]at r2;obtain⟨a,hn,rfl⟩:=r2;obtain⟨xs,l1,l2⟩:=R3.dic hn q;have:=HU r3 e4;subst this;obtain⟨R4,x4⟩:=R3.put hn (o:=.dic (CV _ k d1)) (ho:=.dK (BY xs k v1)) ⟨_,rfl,l2.put ((r1.ext R1 x2).ext R2 x3)⟩;have x13:=(x1.trans R1 x2).trans R2 x3;exact⟨a,_,rfl,DPut.k l1 (by rw[l2.len];exact c),hQ ρ3 _ (x13.trans R3 x4) R4 σ ((hL.ext hR x13).ext R3 x4)⟩
   .cases hm
  .cases hm
 .cases hm
def DC:List (ME×ME)->Ls->Hd->Option (List (Key×D)×Hd)
 |[],_,hd=>some ([],hd)
 |(mk,mv)::r,ls,hd=>(mk ls hd).bind λp=>(mv ls p.2).bind λq=>(DC r ls q.2).bind λz=>(Cp p.1).map λk=>((k,q.1)::z.1,z.2)
def EK(kvs more:List (Key×D)):List (Key×D):=more.foldl (λacc kv=>CV acc kv.1 kv.2) kvs
theorem RKs.merge:∀{more kvs:List (Key×D)} {ms xs:List (Key×V)},RKs K ρ H more ms->RKs K ρ H kvs xs->RKs K ρ H (EK kvs more) (DB xs ms)
 |[],kvs,ms,xs,h,t=>by simp only[RKs]at h;subst h;exact t
 |d::ds,kvs,ms,xs,h,t=>by
  simp only[RKs]at h;obtain⟨x,r,rfl,e,z,q⟩:=h;show RKs K ρ H (EK (CV kvs d.1 d.2) ds) (DB (BY xs x.1 x.2) r);rw[e];exact q.merge (t.put z)
def RPs(K:PySem.W.Frag):List (TE×TE)->List (ME×ME)->Prop
 |[],[]=>True
 |t::ts,m::ms=>RE K t.1 m.1/\RE K t.2 m.2/\RPs K ts ms
 |_,_=>False
theorem JY:∀{trs:List (TE×TE)} {ms:List (ME×ME)},RPs K trs ms->∀(ρ:List Addr) (σ:St) (H:Hp) (hd:Hd) (ls:Ls) (Q:List (V×V)->Hp->Prop) (kvs:List (Key×D)) (hd':Hd),RH K ρ H hd->RL K ρ H ls σ->DC ms ls hd=some (kvs,hd') ->
 (∀ρ' H' xs,Ext ρ H ρ' H'->RH K ρ' H' hd'->RKs K ρ' H' kvs xs->Q (xs.map λkv=>(kV kv.1,kv.2)) H')->F5 trs σ H Q
 |[],[],_,ρ,σ,H,hd,ls,Q,kvs,hd',hR,hL,hm,hQ=>by
  cases hm;exact hQ ρ H [] .refl hR (by simp[RKs])
 |(tk,tv)::ts,(mk,mv)::ms,⟨a,b,c⟩,ρ,σ,H,hd,ls,Q,kvs,hd',hR,hL,hm,hQ=>by
   unfold DC at hm;obtain⟨⟨d1,h1⟩,e1,hm⟩:=Yd hm;obtain⟨⟨d2,h2⟩,e2,hm⟩:=Yd hm;obtain⟨⟨d3,h3⟩,e3,hm⟩:=Yd hm;obtain⟨k,e4,e5⟩:=Ye hm;cases e5;unfold F5;refine a ρ σ H hd ls _ d1 h1 hR hL e1 λρ1 H1 v1 x1 R1 r1=>?_;refine b ρ1 σ H1 h1 ls _ d2 h2 R1 (hL.ext hR x1) e2 λρ2 H2 v2 x2 R2 r2=>?_;refine JY c ρ2 σ H2 h2 ls _ d3 _ R2 (hL.ext hR (x1.trans R1 x2)) e3 λρ3 H3 xs x3 R3 r3=>?_;have:=HU r1 e4;subst this;exact hQ ρ3 H3 ((k,v2)::xs) ((x1.trans R1 x2).trans R2 x3) R3 (by simp only[RKs];exact⟨_,_,rfl,rfl,r2.ext R2 x3,r3⟩)
 |[],_::_,h,_,_,_,_,_,_,_,_,_,_,_,_=>h.elim
 |_::_,[],h,_,_,_,_,_,_,_,_,_,_,_,_=>h.elim
def Ii(ms:List (ME×ME)):ME:=λls hd=>(DC ms ls hd).bind λp=>if p.1.length<=15 then some (.mu p.2.length,p.2++[.dic (EK [] p.1)])else none
def RH.nameD(hR:RH K ρ H hd){a:Addr}{xs:List (Key×V)}{kvs:List (Key×D)}(out:a∉ρ){o:HO}(e:H a=some o)(hs:¬ Stb o)(r:RKs K ρ H kvs xs)(h1:∀ps,o≠.tbl ps:=by intro _ z;cases z)(h2:∀φ,o≠.ext φ:=by intro _ z;cases z):RH K (ρ++[a]) (upd H a (.dK xs)) (hd++[.dic kvs]):=by
 have gr:Grow H (upd H a (.dK xs)):=Grow.refl.put λu st z=>hs (by rw[e]at z;cases z;exact st);refine⟨by simp[hR.len],?_,hR.tabs.upd (λps z=>h1 ps (Option.some.inj (e.symm.trans z))) (λps z=>h2 ps (Option.some.inj (e.symm.trans z))),λn o' b e1 e2=>?_⟩
 .rw[nodup_append];refine⟨hR.nd,by simp,λx hx y hy z=>?_⟩;simp at hy;subst hy;subst z;exact out hx
 .by_cases hn:n<ρ.length
  .rw[List.getElem?_append_left hn]at e2;rw[List.getElem?_append_left (by rw[<- hR.len];exact hn)]at e1;obtain⟨ho',q1,q2⟩:=hR.ob n o' b e1 e2;have:b≠a:=λz=>out (by rw[<- z];exact mem_of_getElem? e2);exact⟨ho',by rw[A4 this];exact q1,q2.mono gr [a]⟩
  .have hn':n=ρ.length:=by
    have:=(List.getElem?_eq_some_iff.mp e2).1;simp at this;omega
   subst hn';simp at e2;rw[hR.len]at e1;simp at e1;subst e1;subst e2;exact⟨_,AE,⟨xs,rfl,r.mono gr [_]⟩⟩
def Qb{trs:List (TE×TE)}{ms:List (ME×ME)}(h:RPs K trs ms):RE K (LH trs) (Ii ms):=by
 and_intros;obtain⟨⟨kvs,h1⟩,e1,hm⟩:=Yd hm;dsimp only at hm;split at hm
 .next c=>
  cases hm;intro p hp;obtain⟨R0,x0⟩:=hR.hid (ho:=.dK []) hp;refine JY h ρ σ _ hd ls _ kvs h1 R0 (hL.ext hR x0) e1 λρ1 H1 xs x1 R1 r1=>?_;have hp1:H1 p=some (.dK []):=x1.keep p _ AE (hR.out hp) nt;have op:p∉ρ1:=by
   obtain⟨r,rfl,fr⟩:=x1.pre;intro z;rcases mem_append.mp z with z|z
   .exact hR.out hp z
   .have:=fr _ z;rw[AE]at this;cases this
  refine⟨hp1,xs,rfl,by rw[r1.len];exact c,?_⟩;have mm:RKs K ρ1 H1 (EK [] kvs) (DB [] xs):=r1.merge (by simp[RKs]);have R2:=R1.nameD op hp1 (λz=>z) mm;have x01:=x0.trans R0 x1;refine hQ (ρ1++[p]) _ _ ?_ R2 ?_
  .obtain⟨r,er,fr⟩:=x01.pre;refine⟨⟨r++[p],by rw[er];simp,λb m=>?_⟩,λb o q nb t=>?_,λb ps q=>?_⟩
   .rcases mem_append.mp m with m|m
    .exact fr b m
    .simp at m;subst m;exact hp
   .have:b≠p:=AG q hp;rw[A4 this];exact x01.keep b o q nb t
   .have:b≠p:=AG q hp;rw[A4 this];exact x01.tab b ps q
  .simp only[RD];exact⟨p,by rw[<- R1.len];simp,rfl⟩
 .cases hm
def CZ(mo mi mv:ME):MS:=λls hd=>(mv ls hd).bind λp=>(mo ls p.2).bind λq=>(mi ls q.2).bind λr=>match q.1,r.1 with
 |.mu n,.im (.int i)=>match r.2[n]? with
  |some (.lst ds)=>(ixN ds.length i).map λj=>(.nx ls,r.2.set n (.lst (ds.set j p.1)))
  |_=>none
 |_,_=>none
def Q9{to ti tv:TE}{mo mi mv:ME}(ho:RE K to mo)(hi:RE K ti mi)(hv:RE K tv mv):RS K (CQ tv (Ov to ti Gf)) (CZ mo mi mv):=by
 intro ρ σ H hd0 ls E f hd' hR hL hm hQ;obtain⟨⟨d1,h1⟩,e1,hm⟩:=Yd hm;obtain⟨⟨d2,h2⟩,e2,hm⟩:=Yd hm;obtain⟨⟨d3,h3⟩,e3,hm⟩:=Yd hm;dsimp only at hm;split at hm
 .split at hm
  .next q=>
   obtain⟨j,e4,e5⟩:=Ye hm;cases e5;refine hv ρ σ H hd0 ls _ d1 h1 hR hL e1 λρ1 H1 v1 x1 R1 r1=>?_;refine ho ρ1 σ H1 h1 ls _ _ h2 R1 (hL.ext hR x1) e2 λρ2 H2 v2 x2 R2 r2=>?_;refine hi ρ2 σ H2 h2 ls _ _ _ R2 (hL.ext hR (x1.trans R1 x2)) e3 λρ3 H3 v3 x3 R3 r3=>?_;have r2:=r2.ext R2 x3;simp only[RD]at r2;obtain⟨a,hn,rfl⟩:=r2;simp only[RD,RI]at r3;subst r3;obtain⟨xs,l1,l2⟩:=R3.lst hn q;obtain⟨R4,x4⟩:=R3.put hn (o:=.lst _) (ho:=.lst (xs.set j v1)) ⟨_,rfl,l2.set j ((r1.ext R1 x2).ext R2 x3)⟩;have x13:=(x1.trans R1 x2).trans R2 x3;exact⟨a,xs,_,j,rfl,rfl,l1,by rw[l2.len];exact e4,hQ ρ3 _ (x13.trans R3 x4) R4 σ ((hL.ext hR x13).ext R3 x4)⟩
  .cases hm
 .cases hm
end
end L2
namespace L2
open PySem PySem.Spec PyProof.Rows
structure QG(K:PySem.W.Frag)(X:Cx)(e:Expr)(t:TG)(m:MG):Prop where
 p:PG X e t
 r:RGt K t m
structure QGs(K:PySem.W.Frag)(X:Cx)(e:List Expr)(t:TGs)(m:MGs):Prop where
 p:PGs X e t
 r:K5 K t m
structure QI(K:PySem.W.Frag)(X:Cx)(tg e:Expr)(t:TI)(m:MI):Prop where
 p:PI X tg e t
 r:RIt K t m
structure QF(K:PySem.W.Frag)(X:Cx)(e:List Expr)(t:TT)(m:MT):Prop where
 p:PF X e t
 r:RT K t m
structure QO(K:PySem.W.Frag)(X:Cx)(e:Option Expr)(t:TO)(m:MO1):Prop where
 p:PO X e t
 r:RO1 K t m
structure QPs(K:PySem.W.Frag)(X:Cx)(pos:Pos)(keys:List (Option Expr))(values:List Expr)(t:List (TE×TE))(m:List (ME×ME)):Prop where
 p:PPs X pos keys values t
 r:RPs K t m
def WN(a b:List D):Prop:=a≠[]/\BO (a.length+b.length)
open Classical in
def M0:D->D->Hd->Option (D×Hd):=λd e hd=>(AZ d).bind λa=>(AZ e).bind λb=>if WN a b then some (AV (a++b),hd)else none
def Qg{K:PySem.W.Frag}:RB K (LW K) M0:=by
 intro ρ H hd d e v u Q z hd' hR h1 h2 hf hQ;unfold M0 at hf;obtain⟨a,e1,hf⟩:=Yd hf;obtain⟨b,e2,hf⟩:=Yd hf;split at hf
 .next c=>
  cases hf;obtain⟨p,xs,rfl,q1,r1⟩:=h1.tup e1;obtain⟨p2,ys,rfl,q2,r2⟩:=h2.tup e2;have l1:=r1.len;have l2:=r2.len;refine⟨p,p2,xs,ys,rfl,rfl,q1,q2,λz=>c.1 (by rw[z]at l1;simpa using l1.symm),by rw[l1,l2];exact c.2,λz=>?_,λ_ p3 hp=>?_⟩
  .have:b=[]:=by rw[z]at l2;simpa using l2.symm
   subst this;exact hQ ρ H _ .refl hR (by rw[append_nil];exact BW q1 r1)
  .obtain⟨R2,x2⟩:=hR.hid (ho:=.tup (xs++ys)) hp;exact hQ ρ _ _ x2 R2 (BW (SqT.of AE) ((r1.app r2).ext hR x2))
 .cases hf
abbrev BR:=Fi V4 M0
def Wr(neg:Bool)(m:ME):ME:=λls hd=>(m ls hd).bind λp=>some (.im (.bl (match p.1 with
 |.im .non=>!neg
 | _=>neg)),p.2)
def Dr(m:ME):ME:=λls hd=>(m ls hd).bind λp=>match p.1 with
 |.im (.int i)=>some (.im (.int (-i)),p.2)
 |_=>none
def TR{K:PySem.W.Frag}{t:TE}{m:ME}(h:RE K t m):RE K (tUn (rU λi=>.int (-i)) t) (Dr m):=by
 and_intros;obtain⟨⟨d1,h1⟩,e1,hm⟩:=Yd hm;dsimp only at hm;split at hm
 .cases hm;exact h ρ σ H hd ls _ _ _ hR hL e1 λρ1 H1 v x1 R1 r1=>⟨_,by simpa only[RD,RI]using r1,hQ ρ1 H1 _ x1 R1 (by simp[RD,RI])⟩
 .cases hm
def BI:MT:=λ_ hd=>some (true,hd)
def T1{K:PySem.W.Frag}:RT K Nb BI:=by
 and_intros;cases hm;exact hQ ρ H .refl hR
section
variable(K:PySem.W.Frag){X:Cx}{a b c e:Expr}{es:List Expr}{ta tb tc te:TE}{ma mb mc me:ME}{tA tB':TT}{nA nB:MT}{t:TA}{m:MA}{pos:Pos}{x:Str}
def qv(i:Nat){x:Str}{pos:Pos}(hN:X.N[i]?=some x:=by rfl)(hv:Vis X.env.scope x:=by first|exact Or.inl rfl|exact Or.inr (Or.inl rfl)|exact Or.inr (Or.inr rfl))(hd:(x==("__debug__":Str))=false:=by decide)
 (hcd:(x==("__classdict__":Str))=false:=by decide):QE K X (.Name x pos) (L8 i) (A0 i):=⟨Mr hN hv hd hcd,TM⟩
def UF{i:Int}{j pos}:QE K X (.Constant (.int i) j pos) (tC (.int i)) (mC (.int i)):=⟨Ub,O3 λ_=>by simp[RI]⟩
def Vn{i:Bool}{j pos}:QE K X (.Constant (.bool i) j pos) (tC (.bl i)) (mC (.bl i)):=⟨Vs,O3 λ_=>by simp[RI]⟩
def U8{x:Str}{j pos}:QE K X (.Constant (.str x) j pos) (tC (.str x)) (mC (.str x)):=⟨UW,O3 λ_=>by simp[RI]⟩
def FY{op:Operator}{r:R2}{f:D->D->Hd->Option (D×Hd)}(ho:OpR X (binaryOp op) r)(hr:RB K r f)(ha:QE K X a ta ma)(hb:QE K X b tb mb):QE K X (.BinOp a op b pos) (tOp r ta tb) (mOp f ma mb):=⟨Lc ho ha.p hb.p,Ie hr ha.r hb.r⟩
def UD(ha:QE K X a ta ma):QE K X (.UnaryOp .USub a pos) (tUn (rU λi=>.int (-i)) ta) (Dr ma):=⟨Vq Sh ha.p,TR ha.r⟩
def FE{op:CmpOp}{r:R2}{f:D->D->Hd->Option (D×Hd)}(ho:OpR X (compareOp op) r)(hr:RB K r f)(ha:QE K X a ta ma)(hb:QE K X b tb mb)(hm:behindInMarks op b=false:=by first|exact Gg _|rfl):QE K X (.Compare a [op] [b] pos) (tOp r ta tb) (mOp f ma mb):=⟨Kd ho ha.p hb.p hm,Ie hr ha.r hb.r⟩
def DY{op:CmpOp}{r:R2}{f:D->D->Hd->Option (D×Hd)}(ho:OpR X (compareOp op) r)(hr:RB K r f)(ha:QE K X a ta ma)(hb:QE K X b tb mb)(hm:behindInMarks op b=false:=by first|exact Gg _|rfl):QT K X (.Compare a [op] [b] pos) (Ic (tOp r ta tb)) (AH (mOp f ma mb)):=⟨Kc ho ha.p hb.p hm,EF (Ie hr ha.r hb.r)⟩
def OB(ha:QE K X a ta ma)(he:∀whole,isTrue a X.env whole=(do let v <- whole;standAt a.pos;holding [v] (truthy v)):=by intro _;rfl)(hK:X.K=K:=by rfl):
 QT K X a (λσ H Q=>ta σ H λx H'=>∃k,K3 K x H' k/\Q k H') (BN ma):=by
 subst hK;exact⟨ON ha.p he,Nr ha.r⟩
def Tm(ha:QT K X a tA nA):QT K X (.UnaryOp .Not a pos) (Ng tA) (CN nA):=⟨UK ha.p,T2 ha.r⟩
def Qj(ha:QT K X a tA nA):QW K X (.BoolOp .And [a] pos) tA nA:=⟨RQ ha.p,ha.r⟩
def Tk(ha:QT K X a tA nA):QW K X (.BoolOp .Or [a] pos) tA nA:=⟨UI ha.p,ha.r⟩
def Tl{rest:List Expr}(ha:QT K X a tA nA)(hb:QW K X (.BoolOp .And (b::rest) pos) tB' nB):QW K X (.BoolOp .And (a::b::rest) pos) (Nm tA tB') (Ej nA nB):=⟨UJ ha.p hb.p,T3 ha.r hb.r⟩
def Vh{rest:List Expr}(ha:QT K X a tA nA)(hb:QW K X (.BoolOp .Or (b::rest) pos) tB' nB):QW K X (.BoolOp .Or (a::b::rest) pos) (tOr tA tB') (mOr nA nB):=⟨Vo ha.p hb.p,Va ha.r hb.r⟩
def QW.toT{K:PySem.W.Frag}{X:Cx}{e:Expr}{t:TT}{m:MT}(h:QW K X e t m):QT K X e t m:=⟨h.p.pt,h.r⟩
def UA{op}(ha:QE K X a ta ma):QE K X (.BoolOp op [a] pos) ta ma:=⟨UX ha.p,ha.r⟩
def UG{rest:List Expr}(ha:QE K X a ta ma)(hb:QE K X (.BoolOp .And (b::rest) pos) tb mb):QE K X (.BoolOp .And (a::b::rest) pos) (LK ta tb) (Cv ma mb):=⟨Uc ha.p hb.p,Qd ha.r hb.r⟩
def UB(ha:QE K X a ta ma):QE K X (.UnaryOp .Not a pos) (LB ta) (Fc ma):=⟨UY ha.p,QY ha.r⟩
def OJ(hc:QT K X c tA nA)(ha:QE K X a ta ma)(hb:QE K X b tb mb):QE K X (.IfExp c a b pos) (tIf tA ta tb) (mIf nA ma mb):=⟨OW hc.p ha.p hb.p,Ve hc.r ha.r hb.r⟩
def UH:QA K X [] C6 A8:=⟨D9,Tf⟩
def RP(ha:QE K X e te me)(hr:QA K X es t m)(hs:starEach (e::es) X.env=(false,eval e X.env)::starEach es X.env:=by rfl):QA K X (e::es) (BF te t) (A2 me m):=⟨C0 ha.p hr.p hs,Qh ha.r hr.r⟩
def U7{x1}(h:QA K X es t m):QE K X (.Tuple es x1 pos) (Nc t) (Bv m):=⟨UV h.p,TN h.r⟩
def Tw(h:QA K X es t m):QN K X (.List es pos) (Nh t) (CY m):=⟨UZ h.p,TB h.r⟩
def UC(h:QN K X e te m):QE K X e te (Ah m):=⟨h.p,Mh h.r⟩
def Vl(ha:QE K X a ta ma)(hb:QE K X b tb mb)(hs:Hi b:=by exact λ_ _=>rfl)(hK:X.K=K:=by rfl):QE K X (.Subscript a b pos) (tOp (Ig K) ta tb) (mOp gIx ma mb):=⟨Pb ((Ji K hK).or (Kj K hK)) ha.p hb.p hs,Ie Vf ha.r hb.r⟩
def RO(hu:X.A.units+1<cLine)(ha:QE K X a ta ma)(hb:QE K X b tb mb)(hs:P9 b:=by exact λ_ _=>rfl):QE K X (.Subscript a b pos) (LI ta tb) (mOp Bf ma mb):=⟨Rr hu ha.p hb.p hs,Qc ha.r hb.r⟩
def Qv:QO K X none HB DL:=⟨Re,QK⟩
def Qu(h:QE K X e te me):QO K X (some e) (L9 te) (Fb me):=⟨Rc h.p,QJ h.r⟩
def Tu{lo hi:Option Expr}{tl th:TO}{ml mh:MO1}{p2:Pos}(h:QE K X e te me)(hl:QO K X lo tl ml)(hh:QO K X hi th mh)(hK:X.K=K:=by rfl):QN K X (.Subscript e (.Slice lo hi none p2) pos) (tSl (LU K) te tl th) (Jf me ml mh):=⟨JX (Nq K hK) h.p hl.p hh.p,T8 h.r hl.r hh.r⟩
def Ed{id:String}{p:Pos}{r:List V->Hp->VK->Prop}{f:List D->Hd->Option (D×Hd)}(hc:CallR X (.builtin id) r)(hr:RF K r f)(hm:X.mg x=none)(hv:bootBuiltins x=some (.builtin id))(ha:QA K X (e::es) t m)(hg:Gl X x:=by rfl)(hn:x≠"__name__":=by decide)(hdb:(x==("__debug__":Str))=false:=by decide)
 (he:starEach (e::es) X.env=(false,eval e X.env)::starEach es X.env:=by rfl) (hpl:(backTo pos (starEach es X.env)).any (·.1)=false:=by rfl):QE K X (.Call (.Name x p) (e::es) [] pos) (tCB r t) (mCB f m):=⟨Ee hc hg hm hv ha.p hn hdb he hpl,PP hr ha.r⟩
def Vm{id:String}{p:Pos}{r:List V->Hp->VK->Prop}{f:List D->Hd->Option (D×Hd)}(hc:CallR X (.type id) r)(hr:RF K r f)(hm:X.mg x=none)(hv:bootBuiltins x=some (.type id))(ha:QA K X (e::es) t m)(hg:Gl X x:=by rfl)(hn:x≠"__name__":=by decide)(hdb:(x==("__debug__":Str))=false:=by decide)
 (he:starEach (e::es) X.env=(false,eval e X.env)::starEach es X.env:=by rfl) (hpl:(backTo pos (starEach es X.env)).any (·.1)=false:=by rfl):QE K X (.Call (.Name x p) (e::es) [] pos) (tCB r t) (mCB f m):=⟨Hs hc hg hm hv ha.p hn hdb he hpl,PP hr ha.r⟩
def Ih{id:String}{p:Pos}{r:List V->Hp->VK->Prop}{tp:Bool}{g:List D->Option D}(hc:CallR X (.builtin id) r)(hr:RG K tp r g)(hm:X.mg x=none)(hv:bootBuiltins x=some (.builtin id))(ha:QN K X e te m)(hg:Gl X x:=by rfl)(hn:x≠"__name__":=by decide)(hdb:(x==("__debug__":Str))=false:=by decide)
 (he:starEach [e] X.env=[(false,eval e X.env)]:=by rfl):QE K X (.Call (.Name x p) [e] [] pos) (tCB r (BF te C6)) (Bn g m):=⟨Ee hc hg hm hv (C0 ha.p D9 he) hn hdb he rfl,TX hr ha.r⟩
def OH{p:Pos}(hm:X.mg "list"=none)(ha:QN K X e te m)(hg:Gl X "list":=by rfl)(he:starEach [e] X.env=[(false,eval e X.env)]:=by rfl)(hK:X.K=K:=by rfl):QN K X (.Call (.Name "list" p) [e] [] pos) (tCB (HF K) (BF te C6)) (FJ m):=⟨Hs (M8 K hK) hg hm SY (C0 ha.p D9 he) (by decide) (by decide) he rfl,Nv ha.r⟩
def Vk{id:String}{r:V->List V->Hp->VK->Prop}{f:D->List D->Hd->Option (D×Hd)}{name:Str}{apos cpos:Pos}{o:Expr}{to:TE}{mo:ME}(slot:Slot "list" name id)(hty:typeOf (.builtin id)=pure (.type "method_descriptor"))(hm:MtM X id r)(hr:RM K r f)(ho:QE K X o to mo)(ha:QA K X (e::es) t m)
 (hbase:attributeBase o name X.env (eval o X.env)=eval o X.env:=by rfl)
 (hfew:((backTo cpos (starEach (e::es) X.env)).all (λx=>!x.1)&&(backToKw cpos (keywordEach [] X.env)).all (λx=>x.1.isSome)
  && decide ((e::es).length+([]:List Keyword).length+(if([]:List Keyword).isEmpty then 0 else 1)<30))=true:=by rfl)
 (hline:(apos.endLine==cpos.line)=true:=by rfl) (hs:starEach (e::es) X.env=(false,eval e X.env)::starEach es X.env:=by rfl) (hplain:(backTo cpos (starEach es X.env)).any (·.1)=false:=by rfl) (hK:X.K=K:=by rfl):
 QE K X (.Call (.Attribute o name apos) (e::es) [] cpos) (tBM K "list" r to t) (mMt f mo m):=by
 subst hK;exact⟨Vr PySem.F.plainAttrs_list slot hty hm ho.p ha.p hbase hfew hline hs hplain,Vd hr ho.r ha.r⟩
def OK(w:Nat){j k:Nat}{f:Addr}{fd:FuncData}{ps:List Str}{n:Nat}{F:List D->Hd->Option (D×Hd)}{st:Stmt}{p:Pos}(G:FnOk X.prog X.w X.K X.mg X.base CX0 j f fd ps (spF K n F))(hr:Room k X.A)(DA:DefAt X.K X.mg x st f fd ps)(ha:QA K X (e::es) t m)(hF:∀ds hd z,F ds hd=some z->ds.length=n)
 (hjk:j<=k:=by decide) (hg:Gl X x:=by rfl) (hdb:(x==("__debug__":Str))=false:=by decide) (he:starEach (e::es) X.env=(false,eval e X.env)::starEach es X.env:=by rfl) (hpl:(backTo pos (starEach es X.env)).any (·.1)=false:=by rfl):
 QE K X (.Call (.Name x p) (e::es) [] pos) (Dj (spF K n F) [] E0 t) (AF w F m):=⟨Pd G hr DA ha.p hjk hg hdb he hpl,O0 ha.r hF⟩
def OM{j k:Nat}{f:Addr}{fd:FuncData}{ps:List Str}{n:Nat}{F:List D->Hd->Option (D×Hd)}{st:Stmt}{p:Pos}(G:FnOk X.prog X.w X.K X.mg X.base CX0 j f fd ps (spF K n F))(hr:Room k X.A)(DA:DefAt X.K X.mg x st f fd ps)(ha:QA K X (e::es) t m)(hF:∀ds hd z,F ds hd=some z->ds.length=n)
 (hjk:j<=k:=by decide) (hg:Gl X x:=by rfl) (hdb:(x==("__debug__":Str))=false:=by decide) (he:starEach (e::es) X.env=(false,eval e X.env)::starEach es X.env:=by rfl) (hpl:(backTo pos (starEach es X.env)).any (·.1)=false:=by rfl):
 QE K X (.Call (.Name x p) (e::es) [] pos) (Dj (spF K n F) [] E0 t) (CA F m):=⟨Pd G hr DA ha.p hjk hg hdb he hpl,O2 ha.r hF⟩
def Qt{pos:Pos}:QPs K X pos [] [] [] []:=⟨Rb,trivial⟩
def OG{pos:Pos}{k v:Expr}{ks:List (Option Expr)}{vs:List Expr}{tk tv:TE}{mk mv:ME}{trs:List (TE×TE)}{ms:List (ME×ME)}(hk:QE K X k tk mk)(hv:QE K X v tv mv)(hr:QPs K X pos ks vs trs ms):QPs K X pos (some k::ks) (v::vs) ((tk,tv)::trs) ((mk,mv)::ms):=⟨OS hk.p hv.p hr.p,hk.r,hv.r,hr.r⟩
def RK{pos:Pos}{keys:List (Option Expr)}{values:List Expr}{trs:List (TE×TE)}{ms:List (ME×ME)}(h:QPs K X pos keys values trs ms)(hall:keys.all (·.isSome)=true:=by rfl)(hl:keys.length=values.length:=by rfl)(h0:keys≠[]:=by simp)
 (h15:keys.length<=15:=by decide):QE K X (.Dict keys values pos) (LH trs) (Ii ms):=⟨Rq h.p hall hl h0 h15,Qb h.r⟩
def R9{i:Nat}(hN:X.N.Nodup)(hi:X.N[i]?=some x)(hx:Loc X.env.scope x)(hf:X.fn x=true∨X.env.scope.names.lookup x=some .local:=by first|exact .inl rfl|exact .inr rfl|assumption):QG K X (.Name x pos) (C1 i) (AB i):=⟨Rn hN hi hx hf,FW⟩
def R8:QGs K X [] Ox CM:=⟨Rl,QQ⟩
def OI{tg:TG}{tgs:TGs}{n:MG}{ns:MGs}(h1:QG K X e tg n)(h2:QGs K X es tgs ns)(hs:(assignEach (e::es) X.env).map (·.2)=assign e X.env::(assignEach es X.env).map (·.2):=by rfl):QGs K X (e::es) (Lz tg tgs) (AQ n ns):=⟨OV h1.p h2.p hs,Nw h1.r h2.r⟩
def U4{k n:Nat}{tgs:TGs}{ns:MGs}(hc:X.calm=true)(h:QGs K X es tgs ns)(hK:X.K=K:=by rfl)(hn:(assignEach es X.env).length=n:=by rfl)(hst:(assignEach es X.env).findIdx? (·.1)=none:=by rfl):QG K X (.Tuple es k pos) (Ly K n tgs) (CL n ns):=⟨Rm K hc h.p hK hn hst,TJ h.r⟩
def U2{tg:Expr}(h:QE K X e te me)(hK:X.K=K:=by rfl):QI K X tg e (Lq K te) (Ai me):=⟨Ri K h.p hK,TF h.r⟩
def Qy{tg:Expr}(h:QE K X e te me)(hK:X.K=K:=by rfl):QI K X tg e (Fh K te) (Co me):=⟨JW K h.p hK,QM h.r⟩
def U3{tg:Expr}(h:QN K X e te m)(hK:X.K=K:=by rfl):QI K X tg e (Fh K te) (Dc m):=⟨JW K h.p hK,TH h.r⟩
def Qx{tg:Expr}{p:Pos}(hm:X.mg "range"=none)(ha:QA K X [a] t m)(hg:Gl X "range":=by rfl)(hs:starEach [a] X.env=[(false,eval a X.env)]:=by rfl):QI K X tg (.Call (.Name "range" p) [a] [] pos) (Lu t) (Ds m):=⟨Mp hg hm ha.p hs,QL ha.r⟩
def U6:QF K X [] Nb BI:=⟨UU,T1⟩
def U5(h:QT K X c tA nA):QF K X [c] tA nA:=⟨UT h.p,h.r⟩
def Qw{elt tg iter:Expr}{ifs:List Expr}{scope:Scope}{loc fr:List Str}{ix:List Nat}{wi:TI}{g:TG}{tf:TT}{te:TE}{mi:MI}{n:MG}{mf:MT}{mm:ME}(hc:X.calm=true)(S:CSc X scope fr ix)(hi:QI K X tg iter wi mi)
 (hg:∀s H ex,QG K (cCx X (loc++fr) scope s H ex) tg g n) (hf:∀s H ex,QF K (cCx X (loc++fr) scope s H ex) ifs tf mf) (he:∀s H ex,QE K (cCx X (loc++fr) scope s H ex) elt te mm)
 (hs:∀x,foldedSetIterable iter X.env x=pure x:=by intro _;rfl):QN K X (.ListComp elt [⟨tg,iter,ifs,0⟩] scope pos) (EV loc.length ix wi g tf te) (Ab loc.length ix mi n mf mm):=
 ⟨Rs hc S hi.p (λs H ex=>(hg s H ex).p) (λs H ex=>(hf s H ex).p) (λs H ex=>(he s H ex).p) hs,KY hi.r (hg X.s₀ X.H₀ []).r (hf X.s₀ X.H₀ []).r (he X.s₀ X.H₀ []).r⟩
def Qn:QSs K X [] GS Ao:=⟨RV,KU⟩
def OC{st:Stmt}{rest:List Stmt}{u v:TS}{m1 m2:MS}(h1:QS K X st u m1)(h2:QSs K X rest v m2):QSs K X (st::rest) (Nd u v) (AA m1 m2):=⟨OO h1.p h2.p,T4 h1.r h2.r⟩
def Qm{st:Stmt}{u:TS}{m1:MS}(h1:QS K X st u m1):QSs K X [st] u m1:=⟨RU h1.p,h1.r⟩
def Qp:QS K X (.Pass pos) GS Ao:=⟨RX,KU⟩
def Qr(he:QE K X e te me)(hs:swapsWith e none pos.line X.env=pure false:=by rfl):QS K X (.Expr e pos) (LG te) (Cb me):=⟨RY he.p hs,QC he.r⟩
def Tq(he:QE K X e te me):QS K X (.Return (some e) pos) (Nf te) (AY me):=⟨UN he.p,T5 he.r⟩
def Vi{a b:List Stmt}{u v:TS}{m1 m2:MS}(hc:QT K X c tA nA)(ha:QSs K X a u m1)(hb:QSs K X b v m2):QS K X (.If c a b pos) (Nk tA u v) (B8 nA m1 m2):=⟨Vp hc.p ha.p hb.p,Vb hc.r ha.r hb.r⟩
def OF{st:Stmt}:QS K X st J9 EL:=⟨OR,Nu⟩
def Ts{tg:Expr}{g:TG}{n:MG}(he:QE K X e te me)(hg:QG K X tg g n)(hs:swapsWithSole [tg] e pos.line X.env=pure false:=by rfl)(hw:swappedStores [tg] e X.env=pure none:=by rfl)
 (h1:(assignEach [tg] X.env).map (·.2)=[assign tg X.env]:=by rfl):QS K X (.Assign [tg] e pos) (CQ te g) (FL me n):=⟨Mn he.p hg.p hs hw h1,Ga he.r hg.r⟩
def To{i:Nat}{pos':Pos}(hN:X.N.Nodup)(hi:X.N[i]?=some x)(hx:Loc X.env.scope x)(he:QE K X e te me)(hs:swapsWith e (some (.Name x pos')) pos.line X.env=pure false:=by rfl)(hf:X.fn x=true∨X.env.scope.names.lookup x=some .local:=by first|exact .inl rfl|exact .inr rfl|assumption):
 QS K X (.Assign [.Name x pos'] e pos) (CQ te (C1 i)) (AM i me):=⟨UM hN hi hx he.p hs hf,Ga he.r FW⟩
def Qo{i:Nat}{y:Str}{elt tg iter:Expr}{ifs:List Expr}{scope:Scope}{spos py:Pos}{loc fr:List Str}{ix:List Nat}{wi:TI}{g:TG}{tf:TT}{te:TE}{mi:MI}{n:MG}{mf:MT}{mm:ME}(hN:X.N.Nodup)(hiN:X.N[i]?=some y)(hy:X.env.scope.names.lookup y=some .local)
 (hc:X.calm=true) (S:CSc X scope fr ix) (hi:QI K X tg iter wi mi)
 (hg:∀s H ex,QG K (cCx X (loc++fr) scope s H ex) tg g n) (hf:∀s H ex,QF K (cCx X (loc++fr) scope s H ex) ifs tf mf) (he:∀s H ex,QE K (cCx X (loc++fr) scope s H ex) elt te mm)
 (hsw:swapsWith (.ListComp elt [⟨tg,iter,ifs,0⟩] scope pos) (some (.Name y py)) spos.line X.env=pure true:=by rfl) (hs:∀x,foldedSetIterable iter X.env x=pure x:=by intro _;rfl):
 QS K X (.Assign [.Name y py] (.ListComp elt [⟨tg,iter,ifs,0⟩] scope pos) spos) (CQ (EV loc.length ix wi g tf te) (C1 i)) (AM i (Ah (Ab loc.length ix mi n mf mm))):=
 ⟨RW hN hiN hy hc S hi.p (λs H ex=>(hg s H ex).p) (λs H ex=>(hf s H ex).p) (λs H ex=>(he s H ex).p) hsw hs,Ga (Mh (KY hi.r (hg X.s₀ X.H₀ []).r (hf X.s₀ X.H₀ []).r (he X.s₀ X.H₀ []).r)) FW⟩
def Qs{o i value:Expr}{pos':Pos}{td ty tv:TE}{md my mv:ME}(hu:X.A.units+1<cLine)(ho:QE K X o td md)(hi:QE K X i ty my)(hv:QE K X value tv mv)(hs:swapsWith value (some (.Subscript o i pos')) pos.line X.env=pure false:=by rfl):
 QS K X (.Assign [.Subscript o i pos'] value pos) (LP td ty tv) (Dm md my mv):=⟨RZ hu ho.p hi.p hv.p hs,QD ho.r hi.r hv.r⟩
def Qq{o i value:Expr}{pos':Pos}{to ti tv:TE}{mo mi mv:ME}(ho:QE K X o to mo)(hi:QE K X i ti mi)(hv:QE K X value tv mv)(hs:swapsWithSole [.Subscript o i pos'] value pos.line X.env=pure false:=by rfl)(hw:swappedStores [.Subscript o i pos'] value X.env=pure none:=by rfl)
 (h1:(assignEach [.Subscript o i pos'] X.env).map (·.2)=[assign (.Subscript o i pos') X.env]:=by rfl)
 (ha:∀v,assign (.Subscript o i pos') X.env v=(do
  let ov <- holding [v] (eval o X.env)
  let iv <- holding [v,ov] (eval i X.env)
  standAt pos'
  holding [v,ov,iv] (setItem ov iv v)
  release [v,ov,iv] []):=by intro _;rfl):QS K X (.Assign [.Subscript o i pos'] value pos) (CQ tv (Ov to ti Gf)) (CZ mo mi mv):=⟨Mn hv.p (US ho.p hi.p JG ha) hs hw h1,Q9 ho.r hi.r hv.r⟩
def Tr{tg iter:Expr}{body:List Stmt}{wi:TI}{g:TG}{tb:TS}{mi:MI}{n:MG}{mb:MS}(hc:X.calm=true)(hi:QI K X tg iter wi mi)(hg:QG K X tg g n)(hb:QSs K X body tb mb)(hp:PassesOwn (model X.prog X.w) X.A X.env X.xe:=by exact PassesOwn.never)
 (hs:∀x,foldedSetIterable iter X.env x=pure x:=by intro _;rfl):QS K X (.For tg iter body [] pos) (Nl wi g tb) (Ca mi n mb):=⟨UO hp hc hi.p hg.p hb.p hs,T6 hi.r hg.r hb.r⟩
def OD{body:List Stmt}{tb:TS}{mb:MS}(hc:QT K X c tA nA)(hb:QSs K X body tb mb)(hp:PassesOwn (model X.prog X.w) X.A X.env X.xe:=by exact PassesOwn.never):QS K X (.While c body [] pos) (J8 tA tb) (Db nA mb):=⟨OP hp hc.p hb.p,Nt hc.r hb.r⟩
end
def Ry{P:Program}{w:World}{K:PySem.W.Frag}{mg:Str->Option Value}{base:Heap}{x:Str}{st:Stmt}{f:Addr}{fd:FuncData}{N ps:List Str}{j:Nat}{m:MS}(DA:DefAt K mg x st f fd ps)(S:FnScope N ps (A6 st))
 (h:∀(cdv:Value) (A:Around) (outer:List Env) (s:Shared) (H:Hp) (E:XK),Room j (A.deeper (envOfC x (A6 st) s.heap.objs.size f cdv))->∃t,QSs K (E2 CX0 P w K mg base N x (A6 st) f cdv A outer s H E).nox (Aq st) t m):
 FnOk P w K mg base CX0 (j+1) f fd ps (spF K ps.length (mkF ps.length N.length m)):=by
 refine DA.fn.ok S (λvs H Q E h=>h.1) (λcdv A outer s H vs Q E hr hs=>?_);obtain⟨t,q⟩:=h cdv A outer s H E hr;exact⟨t,q.p,KR q.r hs⟩
section
variable{X:Cx}{pins:List (Addr×Obj)}{σ:List (Option V)}{H H':Hp}{s:Shared}{h':Heap}
def Inv.turns{tk:Nat}{fp:List Addr}(I:Inv X pins σ H s)(k:∀b o,b∉fp->s.heap.get? b=some o->h'.get? b=some o)(hf:∀b∈fp,FpOk X pins H b):Inv X pins σ H { s with heap:=h',toks:=tk }:=by
 have out:∀b u,H b=some u->b∉fp:=λb u e z=>by rw[(hf b z).1]at e;cases e
 have hL:X.env.locals∉fp:=λz=>(hf _ z).2.1 rfl;refine I.step (g':=s.gens) (d':=s.drawn) (ch:=fp) (λb hb=>⟨(hf b hb).2.2.2.1,(hf b hb).2.1,(hf b hb).2.2.2.2.1,(hf b hb).2.2.2.2.2⟩) (λb o _ _ hc e _=>k b o hc e) (λb o _ _ hc e _=>⟨o.slots,k b o hc e⟩) (λ_ _ _ _ n=>n)
  (λb o hc e=>⟨o,k b o hc e⟩) (λ_ _ e=>e) (λ_ _ _ e=>e) (λb ps e=>⟨#[],by rw[e];simp⟩) (λm hm=>?_) (λb u e=>?_) I.bare
 .obtain⟨o,es,ep,ho,r⟩:=hm;exact⟨o,es,ep,k _ o hL ho,r⟩
 .refine(I.hok b u e).stay (λc v hc q=>k c v ?_ q) (λ_ q=>q) λ_ _ q=>q;rcases hc with z|z
  .rw[z];exact out b u e
  .exact out c _ z
end
def Inv.turnsL{X:Cx}{pins:List (Addr×Obj)}{σ:List (Option V)}{H:Hp}{s:Shared}{h':Heap}{tk:Nat}{fp:List Addr}{a:Addr}{o:HO}(I:Inv X pins σ H s)(k:∀b o,b∉fp->s.heap.get? b=some o->h'.get? b=some o)(hf:∀b∈fp,FpOk X pins H b)(ha:s.heap.objs.size<=a)(new:ObjOk X.prog X.w (upd H a o) h' a o):
 Inv X pins σ (upd H a o) { s with heap:=h',toks:=tk }:=by
 have out:∀b u,H b=some u->b∉fp:=λb u e z=>by rw[(hf b z).1]at e;cases e
 have hL:X.env.locals∉fp:=λz=>(hf _ z).2.1 rfl;have fr:H a=none:=I.hok.fresh ha;refine I.step (g':=s.gens) (d':=s.drawn) (ch:=fp) (λb hb=>⟨(hf b hb).2.2.2.1,(hf b hb).2.1,(hf b hb).2.2.2.2.1,(hf b hb).2.2.2.2.2⟩) (λb o _ _ hc e _=>k b o hc e) (λb o _ _ hc e _=>⟨o.slots,k b o hc e⟩)
  (λb o _ e n=>by rw[A4 (ne_of_lt (lt_of_lt_of_le (Heap.lt_size e) ha))];exact n) (λb o hc e=>⟨o,k b o hc e⟩) (λb xs e=>by rw[A4 (AG e fr)];exact e) (λb o u e=>by rw[A4 (AG e fr)];exact e)
  (λb ps e=>⟨#[],by rw[A4 (AG e fr),e];simp⟩) (λm hm=>?_) (λb u e=>?_) I.bare
 .obtain⟨o,es,ep,ho,r⟩:=hm;exact⟨o,es,ep,k _ o hL ho,r⟩
 .by_cases hb:b=a
  .subst hb;rw[AE]at e;cases e;exact new
  .rw[A4 hb]at e;refine(I.hok b u e).stay (λc v hc q=>k c v ?_ q) (λc q=>by rw[A4 (AG q fr)];exact q) λc xs q=>by rw[A4 (AG q fr)];exact q
   rcases hc with z|z
   .rw[z];exact out b u e
   .exact out c _ z
def RowI(tp:Bool)(h:Heap)(it l:Addr)(k:Nat):Prop:=match tp with
 |true=>h.IsTupleIter it l k
 |false=>h.IsListIter it l k
def RowL(tp:Bool)(h:Heap)(l:Addr)(xs:Array Value):Prop:=match tp with
 |true=>h.IsTuple l xs
 |false=>h.IsList l xs
theorem RowI.at{tp:Bool}{h h':Heap}{it l:Addr}{k:Nat}(x:RowI tp h it l k)(e:∀o,h.get? it=some o->h'.get? it=some o):RowI tp h' it l k:=by
 cases tp with
 |true=>exact Heap.IsTupleIter.at x e
 |false=>exact Heap.IsListIter.at x e
def RowL.at{tp:Bool}{h h':Heap}{l:Addr}{xs:Array Value}(x:RowL tp h l xs)(e:∀o,h.get? l=some o->h'.get? l=some o):RowL tp h' l xs:=by
 cases tp with
 |true=>obtain⟨o,e1,r⟩:=(show h.IsTuple l xs from x);exact⟨o,e _ e1,r⟩
 |false=>obtain⟨o,e1,r⟩:=(show h.IsList l xs from x);exact⟨o,e _ e1,r⟩
def RowI.obj{tp:Bool}{h:Heap}{it l:Addr}{k:Nat}(x:RowI tp h it l k):∃o,h.get? it=some o/\o.data=.fields #[.ref l,.int k 0]:=by
 cases tp with
 |true=>obtain⟨o,e,_,d⟩:=(show h.IsTupleIter it l k from x);exact⟨o,e,d⟩
 |false=>obtain⟨o,e,_,d⟩:=(show h.IsListIter it l k from x);exact⟨o,e,d⟩
def RowL.obj{tp:Bool}{h:Heap}{l:Addr}{xs:Array Value}(x:RowL tp h l xs):∃o n,h.get? l=some o/\o.data=.seq xs n:=by
 cases tp with
 |true=>obtain⟨o,e,_,n,d⟩:=(show h.IsTuple l xs from x);exact⟨o,n,e,d⟩
 |false=>obtain⟨o,e,_,n,d⟩:=(show h.IsList l xs from x);exact⟨o,n,e,d⟩
section
variable{prog:Program}{w:World}{A:Around}{E:Value->Shared->Prop}{s:Shared}{it l:Addr}{k:Nat}{xs:Array Value}{x:Value}
def NX(hit:s.heap.IsTupleIter it l k)(hl:s.heap.IsTuple l xs)(hx:xs[k]?=some x){Q:Value->Shared->Prop}(hQ:∀g,g.IsTupleIter it l (k+1)->Heap.SameBut it s.heap g->Q x { s with heap:=g }):
 wpAny (model prog w) A (Builtin.SmallTypes.nextOf (.ref it)) Q E s:=by
 obtain⟨o,eo,ec,ed⟩:=id hit;obtain⟨ol,el,_,nl,edl⟩:=hl;unfold Builtin.SmallTypes.nextOf;refine wpAny_bind (wpAny_callSpecial?_slot (name:=Str.ofString "__next__") hit.typeIs PyProof.Rows.slot_tupleiter_next (wpAny_call_entry PyProof.Rows.slot_tupleiter_next hit.typeIs PyProof.Rows.entry_tupleiter_next ?_ (PyProof.Rows.args_tupleiter_next _)));show wpAny _ _ (field (.ref it) 0 >>= _) _ _ s;refine wpAny_bind (wpAny_field eo ed (x:=.ref l) rfl ?_);show wpAny _ _ (if(Value.ref l==Value.none)=true then _ else _) _ _ s;rw[if_neg (show ¬ (Value.ref l==Value.none)=true from Bool.false_ne_true)];show wpAny _ _ (field (.ref it) 1 >>= _) _ _ s;refine wpAny_bind (wpAny_field eo ed (x:=.int k 0) rfl ?_);show wpAny _ _ (seqItems? (.ref l) >>= _) _ _ s;refine wpAny_bind (wpAny_seqItems el edl ?_);simp only[toNat_natCast,hx];refine wpAny_bind (wpAny_setField eo ed (by simp) (wpAny_pure ⟨x,rfl,wpAny_pure (hQ _ ⟨_,Heap.get?_update_self _ eo (Obj.isFreed_of_fields (Obj.data_mapFields ed _)),(Obj.cls_mapFields ..).trans ec,?_⟩ (Heap.SameBut.update ..))⟩));rw[Obj.data_mapFields ed];simp[rawInt]
def NW(hh:A.handled=none)(hit:s.heap.IsTupleIter it l k)(hl:s.heap.IsTuple l xs)(hx:xs[k]?=none){Q:Value->Shared->Prop}(hE:∀g e,Heap.ExtBut it s.heap g->(∃o,g.get? e=some o/\o.cls=.type "StopIteration")->E (.ref e) { s with heap:=g }):
 wpAny (model prog w) A (Builtin.SmallTypes.nextOf (.ref it)) Q E s:=by
 obtain⟨o,eo,ec,ed⟩:=id hit;obtain⟨ol,el,_,nl,edl⟩:=hl;unfold Builtin.SmallTypes.nextOf;refine wpAny_bind (wpAny_callSpecial?_slot (name:=Str.ofString "__next__") hit.typeIs PyProof.Rows.slot_tupleiter_next (wpAny_call_entry PyProof.Rows.slot_tupleiter_next hit.typeIs PyProof.Rows.entry_tupleiter_next ?_ (PyProof.Rows.args_tupleiter_next _)));show wpAny _ _ (field (.ref it) 0 >>= _) _ _ s;refine wpAny_bind (wpAny_field eo ed (x:=.ref l) rfl ?_);show wpAny _ _ (if(Value.ref l==Value.none)=true then _ else _) _ _ s;rw[if_neg (show ¬ (Value.ref l==Value.none)=true from Bool.false_ne_true)];show wpAny _ _ (field (.ref it) 1 >>= _) _ _ s;refine wpAny_bind (wpAny_field eo ed (x:=.int k 0) rfl ?_);show wpAny _ _ (seqItems? (.ref l) >>= _) _ _ s;refine wpAny_bind (wpAny_seqItems el edl ?_);simp only[toNat_natCast,hx];refine wpAny_bind (wpAny_rule (wpAny_bind (wpAny_setField eo ed (by simp) ?_)));show wpAny _ _ (newExc (.type "StopIteration") [] >>= _) _ _ _;refine wpAny_bind ?_;simp only[newExc,newTuple];refine wpAny_bind (wpAny_newObj_type ?_ (by size_fits));refine wpAny_bind (m:=firstArgMember _ _) (wpAny_of_eq (a:=Value.none) (by first|rfl|(simp only[firstArgMember];rfl)) ?_);refine wpAny_newObj_type ?_ (by size_fits);simp only[raiseNew];refine wpAny_bind (wpAny_handled ?_)
 first|rw[show A.in1.handled=none from hh]|rw[hh]
 exact wpAny_bind (wpAny_pure (wpAny_throw (hE _ _ (((Heap.SameBut.update ..).extBut.push _).push _) ⟨_,Heap.get?_push_size _ rfl,rfl⟩)))
def G4{tp:Bool}(hit:RowI tp s.heap it l k)(hl:RowL tp s.heap l xs)(hx:xs[k]?=some x){Q:Value->Shared->Prop}(hQ:∀g,RowI tp g it l (k+1)->Heap.SameBut it s.heap g->Q x { s with heap:=g }):
 wpAny (model prog w) A (Builtin.SmallTypes.nextOf (.ref it)) Q E s:=by
 cases tp with
 |true=>exact NX hit hl hx hQ
 |false=>exact wpAny_nextOf_list_item hit hl hx hQ
def JP{tp:Bool}(hh:A.handled=none)(hit:RowI tp s.heap it l k)(hl:RowL tp s.heap l xs)(hx:xs[k]?=none){Q:Value->Shared->Prop}(hE:∀g e,Heap.ExtBut it s.heap g->(∃o,g.get? e=some o/\o.cls=.type "StopIteration")->E (.ref e) { s with heap:=g }):
 wpAny (model prog w) A (Builtin.SmallTypes.nextOf (.ref it)) Q E s:=by
 cases tp with
 |true=>exact NW hh hit hl hx hE
 |false=>exact wpAny_nextOf_list_end hh hit hl hx hE
end
structure ZAt(t1 t2:Bool)(h:Heap)(z a b i1 i2 l1 l2:Addr)(f0:Value)(j k:Nat):Prop where
 z:IsZip h z a b f0
 p:IsPair h a (.ref i1) (.ref i2)
 o:∃u v,IsPair h b u v
 r1:RowI t1 h i1 l1 j
 r2:RowI t2 h i2 l2 k
structure ZNe(z a b i1 i2 l1 l2:Addr):Prop where
 az:a≠z
 bz:b≠z
 iz:i1≠z
 jz:i2≠z
 ab:a≠b
 ai:a≠i1
 aj:a≠i2
 bi:b≠i1
 bj:b≠i2
 ij:i1≠i2
 lz:l1≠z
 lb:l1≠b
 li:l1≠i1
 lj:l1≠i2
 mz:l2≠z
 mb:l2≠b
 mi:l2≠i1
 mj:l2≠i2
section
variable{prog:Program}{w:World}{A:Around}{E:Value->Shared->Prop}{s:Shared}{t1 t2:Bool}{z a b i1 i2 l1 l2:Addr}{j k:Nat}{xs ys:Array Value}{x y:Value}
abbrev MD(z b i1 i2:Addr)(h h':Heap):Prop:=∀c o,c≠z->c≠b->c≠i1->c≠i2->h.get? c=some o->h'.get? c=some o
def NN(N:ZNe z a b i1 i2 l1 l2)(Z:ZAt t1 t2 s.heap z a b i1 i2 l1 l2 .none j k)(hl1:RowL t1 s.heap l1 xs)(hl2:RowL t2 s.heap l2 ys)(hx:xs[j]?=some x)(hy:ys[k]?=some y){Q:Value->Shared->Prop}
 (hQ:∀g,ZAt t1 t2 g z a b i1 i2 l1 l2 (rawInt s.heap.objs.size) (j+1) (k+1)->IsPair g s.heap.objs.size x y->MD z b i1 i2 s.heap g->Q (.ref s.heap.objs.size) { s with heap:=g }):
 wpAny (model prog w) A (Builtin.«zip.__next__» ⟨[.ref z],[]⟩) (λfin s'=>∃v,fin=.done (.ret v)/\Q v s') E s:=by
 obtain⟨hz,hp,⟨u,v,hb⟩,q1,q2⟩:=Z;show wpAny _ _ (field (.ref z) 2 >>= _) _ _ _;refine wpAny_bind (wpAny_field hz rfl (x:=.bool false) rfl ?_);show wpAny _ _ (field (.ref z) 3 >>= _) _ _ _;refine wpAny_bind (wpAny_field hz rfl (x:=.ref a) rfl (wpAny_bind (wpAny_seqItems hp rfl ?_)));show wpAny _ _ (Builtin.SmallTypes.ownedTupleIsFree (.ref z) >>= _) _ _ _;unfold Builtin.SmallTypes.ownedTupleIsFree;refine wpAny_bind (wpAny_bind (wpAny_field hz rfl (x:=.none) rfl (wpAny_pure ?_)));simp only[if_true];refine wpAny_bind (wpAny_rule (wpAny_bind (wpAny_field hz rfl (x:=.ref b) rfl ?_)));refine wpAny_bind (wpAny_setField_rec hz (by simp) λg1 z1 s1=>?_);have z1:IsZip g1 z a b .ellipsis:=z1;refine wpAny_bind ?_;simp only[List.zipIdx_cons,List.zipIdx_nil,List.forIn_cons,List.forIn_nil];refine wpAny_bind (wpAny_bind (wpAny_onRaise ?_));show wpAny _ _ (Builtin.SmallTypes.nextOf (.ref i1) >>= _) _ _ _;refine wpAny_bind (G4 (s:={ s with heap:=g1 }) (q1.at λo e=>s1.extBut _ _ N.iz e) (hl1.at λo e=>s1.extBut _ _ N.lz e) hx λg2 r2 s2=>wpAny_pure ?_);have b2:IsPair g2 b u v:=s2.extBut _ _ N.bi (s1.extBut _ _ N.bz hb);refine wpAny_bind (wpAny_seqItems b2 rfl (wpAny_bind (wpAny_updateSeq_pair b2 λg3 b3 s3=>?_)));have b3:IsPair g3 b x v:=b3;refine wpAny_bind (wpAny_letGo (wpAny_pure (wpAny_bind (wpAny_bind (wpAny_onRaise ?_)))));show wpAny _ _ (Builtin.SmallTypes.nextOf (.ref i2) >>= _) _ _ _;have q3:RowI t2 g3 i2 l2 k:=q2.at λo e=>s3.extBut _ _ N.bj.symm (s2.extBut _ _ N.ij.symm (s1.extBut _ _ N.jz e));have m3:RowL t2 g3 l2 ys:=hl2.at λo e=>s3.extBut _ _ N.mb (s2.extBut _ _ N.mi (s1.extBut _ _ N.mz e));refine wpAny_bind (G4 (s:={ s with heap:=g3 }) q3 m3 hy λg4 r4 s4=>wpAny_pure ?_);have b4:IsPair g4 b x v:=s4.extBut _ _ N.bj b3;refine wpAny_bind (wpAny_seqItems b4 rfl (wpAny_bind (wpAny_updateSeq_pair b4 λg5 b5 s5=>?_)));have b5:IsPair g5 b x y:=b5;refine wpAny_bind (wpAny_letGo (wpAny_pure (wpAny_pure (wpAny_bind (wpAny_seqItems b5 rfl (wpAny_bind (wpAny_newTuple ?_)))))));have sz:g5.objs.size=s.heap.objs.size:=by rw[s5.1,s4.1,s3.1,s2.1,s1.1]
 have z5:IsZip g5 z a b .ellipsis:=s5.extBut _ _ N.bz.symm (s4.extBut _ _ N.jz.symm (s3.extBut _ _ N.bz.symm (s2.extBut _ _ N.iz.symm z1)));have kp:MD z b i1 i2 s.heap g5:=λc o c1 c2 c3 c4 e=>s5.extBut _ _ c2 (s4.extBut _ _ c4 (s3.extBut _ _ c2 (s2.extBut _ _ c3 (s1.extBut _ _ c1 e))));have w1:RowI t1 g5 i1 l1 (j+1):=r2.at λo e=>s5.extBut _ _ N.bi.symm (s4.extBut _ _ N.ij (s3.extBut _ _ N.bi.symm e));have w2:RowI t2 g5 i2 l2 (k+1):=r4.at λo e=>s5.extBut _ _ N.bj.symm e;have zlt:=Heap.lt_size z5;show wpAny _ _ (Builtin.SmallTypes.ownedTupleHandOut (.ref z) (.ref g5.objs.size) >>= _) _ _ _;unfold Builtin.SmallTypes.ownedTupleHandOut;have z6:IsZip (g5.push { cls:=.type "tuple",data:=.seq #[x,y] }) z a b .ellipsis:=Heap.get?_push_of_some _ z5;refine wpAny_bind (wpAny_bind (wpAny_setField_rec z6 (by simp) λg7 z7 s7=>?_));have z7:IsZip g7 z a b (rawInt g5.objs.size):=z7;refine wpAny_setField_rec z7 (by simp) λg8 z8 s8=>wpAny_pure ⟨_,rfl,?_⟩;have z8:IsZip g8 z a b (rawInt g5.objs.size):=z8;have up:∀c o,c≠z->g5.get? c=some o->g8.get? c=some o:=λc o c1 e=>s8.extBut _ _ c1 (s7.extBut _ _ c1 (Heap.get?_push_of_some _ e));have t8:IsPair g8 g5.objs.size x y:=s8.extBut _ _ (ne_of_gt zlt) (s7.extBut _ _ (ne_of_gt zlt) (Heap.get?_push_size _ rfl));show Q (.ref g5.objs.size) _;rw[sz]at z8 t8 ⊢;exact hQ g8 ⟨z8,up _ _ N.az (kp _ _ N.az N.ab N.ai N.aj hp),⟨_,_,up _ _ N.bz b5⟩,w1.at λo e=>up _ o N.iz e,w2.at λo e=>up _ o N.jz e⟩ t8 λc o c1 c2 c3 c4 e=>up c o c1 (kp c o c1 c2 c3 c4 e)
def NM(hh:A.handled=none)(N:ZNe z a b i1 i2 l1 l2)(Z:ZAt t1 t2 s.heap z a b i1 i2 l1 l2 .none j k)(hl1:RowL t1 s.heap l1 xs)(hl2:RowL t2 s.heap l2 ys)(hend:xs[j]?=none∨ys[k]?=none){Q:Fin->Shared->Prop}
 (hE:∀g e,MD z b i1 i2 s.heap g->(∃o,g.get? e=some o/\o.cls=.type "StopIteration")->E (.ref e) { s with heap:=g }):
 wpAny (model prog w) A (Builtin.«zip.__next__» ⟨[.ref z],[]⟩) Q E s:=by
 obtain⟨hz,hp,⟨u,v,hb⟩,q1,q2⟩:=Z;show wpAny _ _ (field (.ref z) 2 >>= _) _ _ _;refine wpAny_bind (wpAny_field hz rfl (x:=.bool false) rfl ?_);show wpAny _ _ (field (.ref z) 3 >>= _) _ _ _;refine wpAny_bind (wpAny_field hz rfl (x:=.ref a) rfl (wpAny_bind (wpAny_seqItems hp rfl ?_)));show wpAny _ _ (Builtin.SmallTypes.ownedTupleIsFree (.ref z) >>= _) _ _ _;unfold Builtin.SmallTypes.ownedTupleIsFree;refine wpAny_bind (wpAny_bind (wpAny_field hz rfl (x:=.none) rfl (wpAny_pure ?_)));simp only[if_true];refine wpAny_bind (wpAny_rule (wpAny_bind (wpAny_field hz rfl (x:=.ref b) rfl ?_)));refine wpAny_bind (wpAny_setField_rec hz (by simp) λg1 z1 s1=>?_);have z1:IsZip g1 z a b .ellipsis:=z1;refine wpAny_bind ?_;simp only[List.zipIdx_cons,List.zipIdx_nil,List.forIn_cons,List.forIn_nil];refine wpAny_bind (wpAny_bind (wpAny_onRaise ?_));show wpAny _ _ (Builtin.SmallTypes.nextOf (.ref i1) >>= _) _ _ _;have o1:RowI t1 g1 i1 l1 j:=q1.at λo e=>s1.extBut _ _ N.iz e;have m1:RowL t1 g1 l1 xs:=hl1.at λo e=>s1.extBut _ _ N.lz e;cases hx:xs[j]? with
 |none=>
  refine wpAny_bind (JP (s:={ s with heap:=g1 }) hh o1 m1 hx λg2 e s2 he=>?_);obtain⟨oe,he1,he2⟩:=he;have z2:IsZip g2 z a b .ellipsis:=s2 _ _ N.iz.symm z1;have ne:e≠z:=λq=>by subst q;rw[z2]at he1;cases he1;simp at he2
  exact wpAny_setField_rec z2 (by simp) λg3 _ s3=>hE g3 e (λc o c1 _ c3 _ q=>s3.extBut _ _ c1 (s2 _ _ c3 (s1.extBut _ _ c1 q))) ⟨oe,s3.extBut _ _ ne he1,he2⟩
 |some x=>
  have hy:ys[k]?=none:=by
   rcases hend with q|q
   .rw[hx]at q;cases q
   .exact q
  refine wpAny_bind (G4 (s:={ s with heap:=g1 }) o1 m1 hx λg2 r2 s2=>wpAny_pure ?_);have b2:IsPair g2 b u v:=s2.extBut _ _ N.bi (s1.extBut _ _ N.bz hb);refine wpAny_bind (wpAny_seqItems b2 rfl (wpAny_bind (wpAny_updateSeq_pair b2 λg3 b3 s3=>?_)));refine wpAny_bind (wpAny_letGo (wpAny_pure (wpAny_bind (wpAny_bind (wpAny_onRaise ?_)))));show wpAny _ _ (Builtin.SmallTypes.nextOf (.ref i2) >>= _) _ _ _;have q3:RowI t2 g3 i2 l2 k:=q2.at λo e=>s3.extBut _ _ N.bj.symm (s2.extBut _ _ N.ij.symm (s1.extBut _ _ N.jz e));have m3:RowL t2 g3 l2 ys:=hl2.at λo e=>s3.extBut _ _ N.mb (s2.extBut _ _ N.mi (s1.extBut _ _ N.mz e));refine wpAny_bind (JP (s:={ s with heap:=g3 }) hh q3 m3 hy λg4 e s4 he=>?_);obtain⟨oe,he1,he2⟩:=he;have z4:IsZip g4 z a b .ellipsis:=s4 _ _ N.jz.symm (s3.extBut _ _ N.bz.symm (s2.extBut _ _ N.iz.symm z1));have ne:e≠z:=λq=>by subst q;rw[z4]at he1;cases he1;simp at he2
  exact wpAny_setField_rec z4 (by simp) λg5 _ s5=>hE g5 e (λc o c1 c2 c3 c4 q=>s5.extBut _ _ c1 (s4 _ _ c4 (s3.extBut _ _ c2 (s2.extBut _ _ c3 (s1.extBut _ _ c1 q))))) ⟨oe,s5.extBut _ _ ne he1,he2⟩
end
def SqS(K:PySem.W.Frag)(tp:Bool)(H:Hp)(a:Addr)(xs:List V):Prop:=match tp with
 |true=>SqT K H a xs
 |false=>SqL K H a xs
def Itz(K:PySem.W.Frag)(t1 t2:Bool)(a b:Addr):It:=
 ⟨λi H=>∃xs ys x y,SqS K t1 H a xs/\SqS K t2 H b ys/\xs[i]?=some x/\ys[i]?=some y,
  λi H x H'=>∃p u v,H p=none/\H'=upd H p (.tup [u,v])/\x=.ref p/\(∀xs,SqS K t1 H a xs->xs[i]?=some u)/\∀ys,SqS K t2 H b ys->ys[i]?=some v,
  λi H=>∃xs ys,SqS K t1 H a xs/\SqS K t2 H b ys/\(xs.length<=i∨ys.length<=i)⟩
section
variable{X:Cx}{pins:List (Addr×Obj)}{σ:List (Option V)}{H:Hp}{s:Shared}
def Inv.row{tp:Bool}{a:Addr}{xs:List V}(I:Inv X pins σ H s)(h:SqS X.K tp H a xs):∃its:List Value,Vals xs its/\RowL tp s.heap a its.toArray/\xs.length<=sizeLine:=by
 cases tp with
 |true=>obtain⟨its,r,p,z⟩:=I.tuple h;exact⟨its,r,(show s.heap.IsTuple a its.toArray from p),z⟩
 |false=>obtain⟨its,r,p,z⟩:=I.list h;exact⟨its,r,p.isList,z⟩
def Inv.row_inj{tp:Bool}{a:Addr}{xs ys:List V}(I:Inv X pins σ H s)(h:SqS X.K tp H a xs)(h':SqS X.K tp H a ys):xs=ys:=by
 cases tp with
 |true=>exact I.tuple_inj h h'
 |false=>exact I.list_inj h h'
end
def RowL.lt{tp:Bool}{h:Heap}{l:Addr}{xs:Array Value}(x:RowL tp h l xs):l<h.objs.size:=by
 obtain⟨o,n,e,_⟩:=x.obj;exact Heap.lt_size e
def Sb{M:Model}{A:Around}{E:Value->Shared->Prop}{s:Shared}{elts:List Expr}{x1}{pos:Pos}{z a b T:Addr}{Q:Unit->Shared->Prop}(hz:IsZip s.heap z a b (rawInt T)){prog:Program}{w:World}
 (hQ:∀g,IsZip g z a b .none->Heap.SameBut z s.heap g->Q () { s with heap:=g }):wpAny (model prog w) A (letOwnedTupleGo (.Tuple elts x1 pos) (.ref z) (.ref T)) Q E s:=wpAny_letOwnedTupleGo_zip hz hQ
def NV{P:Program}{w:World}{K:PySem.W.Frag}{elts:List Expr}{kk:Nat}{tpos:Pos}{t1 t2:Bool}{z a b i1 i2 l1 l2:Addr}(N:ZNe z a b i1 i2 l1 l2):Turn P w K (.Tuple elts kk tpos) (Itz K t1 t2 l1 l2) [z,a,b,i1,i2] z (λi h=>ZAt t1 t2 h z a b i1 i2 l1 l2 .none i i) where
 mem:=by simp
 obj:=λi h st c hc=>by
  obtain⟨hz,hp,⟨u,v,hb⟩,q1,q2⟩:=st;simp only[mem_cons,not_mem_nil,or_false]at hc;rcases hc with rfl|rfl|rfl|rfl|rfl
  .exact⟨_,hz,λv z=>by cases(show Data.fields _=Data.cell v from z)⟩
  .exact⟨_,hp,λv z=>by cases(show Data.seq _ _=Data.cell v from z)⟩
  .exact⟨_,hb,λv z=>by cases(show Data.seq _ _=Data.cell v from z)⟩
  .obtain⟨o,e,d⟩:=q1.obj;exact⟨o,e,λv z=>by rw[d]at z;cases z⟩
  .obtain⟨o,e,d⟩:=q2.obj;exact⟨o,e,λv z=>by rw[d]at z;cases z⟩
 keep:=λi h h' st k=>by
  obtain⟨hz,hp,⟨u,v,hb⟩,q1,q2⟩:=st;exact⟨k z (by simp) _ hz,k a (by simp) _ hp,⟨u,v,k b (by simp) _ hb⟩,q1.at λo e=>k i1 (by simp) o e,q2.at λo e=>k i2 (by simp) o e⟩
 item:=by
  intro X hP hw hK hc i pins s σ H E I hf st hg;subst hP hw hK;obtain⟨xs,ys,x,y,h1,h2,hx,hy⟩:=hg;obtain⟨ix,rx,px,zx⟩:=I.row h1;obtain⟨iy,ry,py,zy⟩:=I.row h2;obtain⟨u,hu,ru⟩:=rx.get hx;obtain⟨v,hv,rv⟩:=ry.get hy;have hT:s.TypeIs (.ref z) "zip":=⟨_,st.z,rfl⟩
  unfold pyNext;refine wpAny_bind (wpAny_attempt (wpAny_callSpecial?_slot (name:=Str.ofString "__next__") hT F.slot_zip_next (wpAny_call_entry F.slot_zip_next hT F.entry_zip_next
   (NN N st px py (x:=u) (y:=v) (by simpa using hu) (by simpa using hv) λg Z g5 kp=>wpAny_pure ⟨_,rfl,?_⟩) (F.args_zip_next_1 _))))
  refine Sb (M:=model X.prog X.w) (s:={ s with heap:=g }) Z.z λg' z' sb=>?_;have kp2:∀c o,c∉[z,a,b,i1,i2]->s.heap.get? c=some o->g'.get? c=some o:=λc o nc e=>by
   simp only[mem_cons,not_mem_nil,or_false,not_or]at nc;exact sb.extBut _ _ nc.1 (kp c o nc.1 nc.2.2.1 nc.2.2.2.1 nc.2.2.2.2 e)
  have hTz:s.heap.objs.size≠z:=ne_of_gt (Heap.lt_size st.z);have hpair:IsPair g' s.heap.objs.size u v:=sb.extBut _ _ hTz g5;have fresh:H s.heap.objs.size=none:=I.hok.fresh (le_refl _);have I2:Inv X pins σ (upd H s.heap.objs.size (.tup [x,y])) { s with heap:=g' }:=I.turnsL (tk:=s.toks) (o:=.tup [x,y]) kp2 hf (le_refl _)
   (show ObjOk X.prog X.w _ g' _ (.tup [x,y])from⟨by show 2<=sizeLine;decide,[u,v],.cons ru (.cons rv .nil),⟨_,hpair,rfl,⟨_,rfl⟩,rfl⟩⟩)
  refine⟨.ref s.heap.objs.size,_,I2,rfl,⟨_,x,y,fresh,rfl,rfl,λxs' q=>by rw[I.row_inj q h1];exact hx,λys' q=>by rw[I.row_inj q h2];exact hy⟩,⟨z',?_,?_,?_,?_⟩,λc hc=>?_⟩
  .exact sb.extBut _ _ N.az Z.p
  .obtain⟨p,q,e⟩:=Z.o;exact⟨p,q,sb.extBut _ _ N.bz e⟩
  .exact Z.r1.at λo e=>sb.extBut _ _ N.iz e
  .exact Z.r2.at λo e=>sb.extBut _ _ N.jz e
  .have lt:c<s.heap.objs.size:=by
    obtain⟨hz,hp,⟨u,v,hb⟩,q1,q2⟩:=st;simp only[mem_cons,not_mem_nil,or_false]at hc;rcases hc with rfl|rfl|rfl|rfl|rfl
    .exact Heap.lt_size hz
    .exact Heap.lt_size hp
    .exact Heap.lt_size hb
    .obtain⟨o,e,_⟩:=q1.obj;exact Heap.lt_size e
    .obtain⟨o,e,_⟩:=q2.obj;exact Heap.lt_size e
   rw[A4 (ne_of_lt lt)];exact(hf c hc).1
 done:=by
  intro X hP hw hK hc i pins s σ H E I hf st hg;subst hP hw hK;obtain⟨xs,ys,h1,h2,hend⟩:=hg;obtain⟨ix,rx,px,zx⟩:=I.row h1;obtain⟨iy,ry,py,zy⟩:=I.row h2;have l1':=rx.length;have l2':=ry.length;have hT:s.TypeIs (.ref z) "zip":=⟨_,st.z,rfl⟩
  unfold pyNext;refine wpAny_bind (wpAny_attempt (wpAny_callSpecial?_slot (name:=Str.ofString "__next__") hT F.slot_zip_next (wpAny_call_entry F.slot_zip_next hT F.entry_zip_next
   (NM (A:=X.A.in1) (show X.A.in1.handled=none from I.ok.hd hc) N st px py (hend.imp (λq=>by simp;omega) λq=>by simp;omega) λg e kp he=>?_) (F.args_zip_next_1 _))))
  obtain⟨o,ho,hcl⟩:=he;refine wpAny_bind (wpAny_isInstance (T:="StopIteration") (b:=true) ⟨o,ho,hcl⟩ isSubtype_stop (wpAny_pure ⟨rfl,?_⟩));exact I.turns (tk:=s.toks) (λc o nc e=>by
   simp only[mem_cons,not_mem_nil,or_false,not_or]at nc;exact kp c o nc.1 nc.2.2.1 nc.2.2.2.1 nc.2.2.2.2 e) hf
 self:=λ_ _ _ _ _ st h=>wpAny_pyIter_zip st.z h
abbrev Cw(tp:Bool)(l:Addr):Obj:={ cls:=.type (match tp with|true=>"tuple_iterator" | false=>"list_iterator"),data:=.fields #[.ref l,.int 0 0] }
abbrev zh1(t1:Bool)(h:Heap)(l1:Addr):Heap:=h.push (Cw t1 l1)
abbrev zh2(t1 t2:Bool)(h:Heap)(l1 l2:Addr):Heap:=(zh1 t1 h l1).push (Cw t2 l2)
abbrev zh3(t1 t2:Bool)(h:Heap)(l1 l2:Addr):Heap:=(zh2 t1 t2 h l1 l2).push { cls:=.type "tuple",data:=.seq #[.ref h.objs.size,.ref (zh1 t1 h l1).objs.size] }
abbrev zh4(t1 t2:Bool)(h:Heap)(l1 l2:Addr):Heap:=(zh3 t1 t2 h l1 l2).push { cls:=.type "tuple",data:=.seq #[.none,.none] }
abbrev zh5(t1 t2:Bool)(h:Heap)(l1 l2:Addr):Heap:=(zh4 t1 t2 h l1 l2).push { cls:=.type "zip",data:=.fields #[.none,.bool false,.bool false,.ref (zh2 t1 t2 h l1 l2).objs.size,.ref (zh3 t1 t2 h l1 l2).objs.size] }
set_option maxHeartbeats 4000000 in
def NO(t1 t2:Bool)(l1 l2:Addr)(xs ys:Array Value):
 Meets (Builtin.«zip.__new__» ⟨[.type "zip",.ref l1,.ref l2],[]⟩) (λ_ R s=>RowL t1 s.heap l1 xs/\RowL t2 s.heap l2 ys/\R (.ok (.ret (.ref (zh4 t1 t2 s.heap l1 l2).objs.size))) { s with heap:=zh5 t1 t2 s.heap l1 l2 }):=
 .of_wp λprog w A R s h=>by
  obtain⟨hp,g,d,tk,os⟩:=s;obtain⟨q1,q2,h⟩:=h;have hsub:=sub_zip;have q2':RowL t2 (hp.push (Cw t1 l1)) l2 ys:=q2.at λo e=>Heap.get?_push_of_some _ e;cases t1<;>cases t2
  .have p1:Heap.IsList (Shared.heap ⟨hp,g,d,tk,os⟩) l1 xs:=q1;have p2:Heap.IsList (Shared.heap ⟨hp.push (Cw false l1),g,d,tk,os⟩) l2 ys:=q2'
   wp_walk using wpAny_pyIter_list p1,wpAny_pyIter_list p2
   exact⟨_,rfl,h⟩
  .have p1:Heap.IsList (Shared.heap ⟨hp,g,d,tk,os⟩) l1 xs:=q1;have p2:Heap.IsTuple (Shared.heap ⟨hp.push (Cw false l1),g,d,tk,os⟩) l2 ys:=q2'
   wp_walk using wpAny_pyIter_list p1,wpAny_pyIter_tuple p2
   exact⟨_,rfl,h⟩
  .have p1:Heap.IsTuple (Shared.heap ⟨hp,g,d,tk,os⟩) l1 xs:=q1;have p2:Heap.IsList (Shared.heap ⟨hp.push (Cw true l1),g,d,tk,os⟩) l2 ys:=q2'
   wp_walk using wpAny_pyIter_tuple p1,wpAny_pyIter_list p2
   exact⟨_,rfl,h⟩
  .have p1:Heap.IsTuple (Shared.heap ⟨hp,g,d,tk,os⟩) l1 xs:=q1;have p2:Heap.IsTuple (Shared.heap ⟨hp.push (Cw true l1),g,d,tk,os⟩) l2 ys:=q2'
   wp_walk using wpAny_pyIter_tuple p1,wpAny_pyIter_tuple p2
   exact⟨_,rfl,h⟩
def Pq{n l1 l2:Addr}(h1:l1<n)(h2:l2<n):ZNe (n+4) (n+2) (n+3) n (n+1) l1 l2:=by
 have k1:@LT.lt Nat _ l1 n:=h1;have k2:@LT.lt Nat _ l2 n:=h2;constructor<;>(intro z;have z:@Eq Nat _ _:=z;omega)
def KW{tp:Bool}{h:Heap}{a l:Addr}(e:h.get? a=some (Cw tp l)):RowI tp h a l 0:=by
 cases tp with
 |true=>exact⟨_,e,rfl,rfl⟩
 |false=>exact⟨_,e,rfl,rfl⟩
section
variable{prog:Program}{w:World}{A:Around}{E:Value->Shared->Prop}{s:Shared}
def NP{t1 t2:Bool}{l1 l2:Addr}{xs ys:Array Value}{Q:Value->Shared->Prop}(q1:RowL t1 s.heap l1 xs)(q2:RowL t2 s.heap l2 ys)
 (h:∀g,ZAt t1 t2 g (s.heap.objs.size+4) (s.heap.objs.size+2) (s.heap.objs.size+3) s.heap.objs.size (s.heap.objs.size+1) l1 l2 .none 0 0->(∀c o,s.heap.get? c=some o->g.get? c=some o)->Q (.ref (s.heap.objs.size+4)) { s with heap:=g }):
 wpAny (model prog w) A (call (.type "zip") [.ref l1,.ref l2]) Q E s:=by
 refine callType_new F.called_zip (by decide) (F.typeCall_zip_2 _ _) (F.newCall_zip_2 _ _) (λobj=>F.args_object_init_3 obj _ _) F.entry_zip_new (NO t1 t2 l1 l2 xs ys) ⟨q1,q2,?_⟩;have n1:(zh1 t1 s.heap l1).objs.size=s.heap.objs.size+1:=Heap.size_push ..;have n2:(zh2 t1 t2 s.heap l1 l2).objs.size=s.heap.objs.size+2:=by rw[Heap.size_push,n1]
 have n3:(zh3 t1 t2 s.heap l1 l2).objs.size=s.heap.objs.size+3:=by rw[Heap.size_push,n2]
 have n4:(zh4 t1 t2 s.heap l1 l2).objs.size=s.heap.objs.size+4:=by rw[Heap.size_push,n3]
 have up:∀{g:Heap} {c:Addr} {o x:Obj},g.get? c=some o->(g.push x).get? c=some o:=λe=>Heap.get?_push_of_some _ e;have e5:(zh5 t1 t2 s.heap l1 l2).get? (zh4 t1 t2 s.heap l1 l2).objs.size=some _:=Heap.get?_push_size _ rfl;have e4:(zh5 t1 t2 s.heap l1 l2).get? (zh3 t1 t2 s.heap l1 l2).objs.size=some _:=up (Heap.get?_push_size _ rfl);have e3:(zh5 t1 t2 s.heap l1 l2).get? (zh2 t1 t2 s.heap l1 l2).objs.size=some _:=up (up (Heap.get?_push_size _ rfl));have e2:(zh5 t1 t2 s.heap l1 l2).get? (zh1 t1 s.heap l1).objs.size=some (Cw t2 l2):=up (up (up (Heap.get?_push_size _ (by cases t2<;>rfl))));have e1:(zh5 t1 t2 s.heap l1 l2).get? s.heap.objs.size=some (Cw t1 l1):=up (up (up (up (Heap.get?_push_size _ (by cases t1<;>rfl)))));show _/\_;rw[n2,n3,n4]at e5;rw[n1,n2]at e3;rw[n3]at e4;rw[n1]at e2;rw[n4];exact⟨⟨_,e5,rfl⟩,h _ ⟨e5,e3,⟨_,_,e4⟩,KW e1,KW e2⟩ λc o x=>up (up (up (up (up x))))⟩
end
def Lo(K:PySem.W.Frag)(t1 t2:Bool)(ta:TA):TI:=λσ H R=>ta σ H λvs H1=>∃a b xs ys,vs=[.ref a,.ref b]/\SqS K t1 H1 a xs/\SqS K t2 H1 b ys/\R (Itz K t1 t2 a b) H1
section
variable{X:Cx}
def UP{t1 t2:Bool}{a b:Expr}{ta:TA}{elts:List Expr}{kk:Nat}{tpos p pos:Pos}(hg:Gl X "zip")(hm:X.mg "zip"=none)(ha:PA X [a,b] ta)(hs:starEach [a,b] X.env=[(false,eval a X.env),(false,eval b X.env)]:=by rfl)(hs2:starEach [b] X.env=[(false,eval b X.env)]:=by rfl):
 PI X (.Tuple elts kk tpos) (.Call (.Name "zip" p) [a,b] [] pos) (Lo X.K t1 t2 ta):=by
 intro pins s σ H R I h;refine Call_ (DD I hg hm boot_zip (PyProof.Rows.callWith_type1 (thn (ha pos pins s σ H _ I h) λus s1 ⟨vs,H1,I1,r1,q1⟩=>?_) (by rw[hs,hs2]) (by rw[hs2];rfl)));obtain⟨l1,l2,xs,ys,e,c1,c2,q⟩:=q1;subst e;obtain⟨u,v,rfl,ru,rv⟩:=PD r1;cases ru;cases rv;obtain⟨ix,rx,px,zx⟩:=I1.row c1;obtain⟨iy,ry,py,zy⟩:=I1.row c2;refine NP px py λg Z kp=>wpAny_pyIter_zip Z.z ?_;refine⟨_,_,_,_,H1,rfl,I1.kept (t':=s1.toks) kp,NV (Pq px.lt py.lt),Z,λc hc=>?_,q⟩;simp only[mem_cons,not_mem_nil,or_false]at hc;have le:s1.heap.objs.size<=c:=by
  rcases hc with rfl|rfl|rfl|rfl|rfl
  .exact le_add_right _ _
  .exact le_add_right _ _
  .exact le_add_right _ _
  .exact le_refl _
  .exact le_add_right _ _
 exact I1.fpOk le (I1.hok.fresh le)
def Rh(K:PySem.W.Frag){t1 t2:Bool}{a b:Expr}{ta:TA}{elts:List Expr}{kk:Nat}{tpos p pos:Pos}(hg:Gl X "zip")(hm:X.mg "zip"=none)(ha:PA X [a,b] ta)(hK:X.K=K:=by rfl)(hs:starEach [a,b] X.env=[(false,eval a X.env),(false,eval b X.env)]:=by rfl)(hs2:starEach [b] X.env=[(false,eval b X.env)]:=by rfl):
 PI X (.Tuple elts kk tpos) (.Call (.Name "zip" p) [a,b] [] pos) (Lo K t1 t2 ta):=by subst hK;exact UP hg hm ha hs hs2
end
def WR(K:PySem.W.Frag)(ρ:List Addr)(H:Hp)(tp:Bool)(a:Addr)(ds:List D)(g:Gd):Prop:=∀(ρ2:List Addr) (H2:Hp) (hd2:Hd),Ext ρ H ρ2 H2->RH K ρ2 H2 hd2->GOk hd2 g->∃xs,SqS K tp H2 a xs/\RDs K ρ2 H2 ds xs
def RRw(K:PySem.W.Frag)(tp:Bool)(t:TE)(m:MI):Prop:=∀(ρ:List Addr) (σ:St) (H:Hp) (hd:Hd) (ls:Ls) (Q:VK) (d:List D) (g:Gd) (hd':Hd),RH K ρ H hd->RL K ρ H ls σ->m ls hd=some ((d,g),hd') ->
 (∀ρ' H' a,Ext ρ H ρ' H'->RH K ρ' H' hd'->GOk hd' g->WR K ρ' H' tp a d g->Q (.ref a) H')->t σ H Q
structure QR(K:PySem.W.Frag)(tp:Bool)(X:Cx)(e:Expr)(t:TE)(m:MI):Prop where
 p:PE X e t
 r:RRw K tp t m
section
variable{K:PySem.W.Frag}{ρ ρ':List Addr}{H H':Hp}{hd hd':Hd}
def Sx{t:TE}{m:ME}(h:RE K t m):RRw K true t (Ai m):=by
 intro ρ σ H hd ls Q d g hd' hR hL hm hQ;obtain⟨⟨d1,h1⟩,e1,hm⟩:=Yd hm;obtain⟨ds,e2,e3⟩:=Ye hm;cases e3;refine h ρ σ H hd ls _ d1 _ hR hL e1 λρ1 H1 v x1 R1 r1=>?_;obtain⟨a,xs,rfl,q,r⟩:=r1.tup e2;exact hQ ρ1 H1 a x1 R1 (AJ _) λρ2 H2 hd2 x2 R2 _=>⟨xs,(x2.grow R1).sq q,r.ext R1 x2⟩
def Sy{t:TE}{m:MA}(h:RN K t m):RRw K false t (Dc m):=by
 intro ρ σ H hd ls Q d g hd' hR hL hm hQ;obtain⟨⟨d1,h1⟩,e1,e3⟩:=Ye hm;cases e3;refine h ρ σ H hd ls _ _ _ hR hL e1 λρ1 H1 a xs x1 R1 na oa ea r1=>?_;exact hQ ρ1 H1 a x1 R1 (AJ _) λρ2 H2 hd2 x2 R2 _=>⟨xs,SqL.of (x2.keep a _ ea oa nt),r1.ext R1 x2⟩
open Classical in
def HN(ma mb:MI):MI:=λls hd=>(ma ls hd).bind λp=>(mb ls p.2).bind λq=>if GOk q.2 p.1.2 then some ((List.zipWith (λx y=>AV [x,y]) p.1.1 q.1.1,p.1.2++q.1.2),q.2)else none
def TD{t1 t2:Bool}{ta tb:TE}{ma mb:MI}(ha:RRw K t1 ta ma)(hb:RRw K t2 tb mb):RIt K (Lo K t1 t2 (BF ta (BF tb C6))) (HN ma mb):=by
 intro ρ σ H hd ls Q d g hd' hR hL hm hQ;obtain⟨⟨⟨d1,g1⟩,h1⟩,e1,hm⟩:=Yd hm;obtain⟨⟨⟨d2,g2⟩,h2⟩,e2,hm⟩:=Yd hm;dsimp only at hm;split at hm
 .next gk=>
  cases hm;refine ha ρ σ H hd ls _ d1 g1 h1 hR hL e1 λρ1 H1 a x1 R1 G1 S1=>?_;refine hb ρ1 σ H1 h1 ls _ d2 g2 _ R1 (hL.ext hR x1) e2 λρ2 H2 b x2 R2 G2 S2=>?_;obtain⟨xs,c1,r1⟩:=S1 ρ2 H2 _ x2 R2 gk;obtain⟨ys,c2,r2⟩:=S2 ρ2 H2 _ .refl R2 G2;refine⟨a,b,xs,ys,rfl,c1,c2,hQ ρ2 H2 _ (x1.trans R1 x2) R2 (λp hp=>(mem_append.mp hp).elim (gk p) (G2 p)) ?_⟩;intro ρ3 H3 hd3 x3 R3 G3 i;obtain⟨xs,c1,r1⟩:=S1 ρ3 H3 _ (x2.trans R2 x3) R3 λp hp=>G3 p (mem_append_left _ hp);obtain⟨ys,c2,r2⟩:=S2 ρ3 H3 _ x3 R3 λp hp=>G3 p (mem_append_right _ hp);have l1:=r1.len;have l2:=r2.len;refine⟨λhi=>?_,λhi=>⟨xs,ys,c1,c2,?_⟩⟩
  .simp only[List.length_zipWith]at hi;have i1:d1[i]?=some (d1[i]'(by omega)):=List.getElem?_eq_getElem _;have i2:d2[i]?=some (d2[i]'(by omega)):=List.getElem?_eq_getElem _;obtain⟨x,x4,x5⟩:=r1.get i1;obtain⟨y,y4,y5⟩:=r2.get i2;refine⟨⟨xs,ys,x,y,c1,c2,x4,y4⟩,λz H4 hz=>?_⟩;obtain⟨p,u,v,fp,rfl,rfl,hu,hv⟩:=hz;have eu:=hu xs c1;rw[x4]at eu;cases eu;have ev:=hv ys c2;rw[y4]at ev;cases ev;obtain⟨R4,x6⟩:=R3.hid (ho:=.tup [x,y]) fp;refine⟨ρ3,AV [d1[i]'(by omega),d2[i]'(by omega)],x6,rfl,R4,?_,BW (SqT.of AE) (.cons (x5.ext R3 x6) (.cons (y5.ext R3 x6) .nil))⟩;simp[List.getElem?_zipWith,i1,i2]
  .simp only[List.length_zipWith]at hi;omega
 .cases hm
end
section
variable(K:PySem.W.Frag){X:Cx}{a b e:Expr}{ta tb te:TE}{me:ME}{m:MA}
def Mm(h:QE K X e te me):QR K true X e te (Ai me):=⟨h.p,Sx h.r⟩
def Tt(h:QN K X e te m):QR K false X e te (Dc m):=⟨h.p,Sy h.r⟩
def U1{t1 t2:Bool}{ma mb:MI}{elts:List Expr}{kk:Nat}{tpos p pos:Pos}(hm:X.mg "zip"=none)(ha:QR K t1 X a ta ma)(hb:QR K t2 X b tb mb)(hg:Gl X "zip":=by rfl)(hK:X.K=K:=by rfl)(hs:starEach [a,b] X.env=[(false,eval a X.env),(false,eval b X.env)]:=by rfl)(hs2:starEach [b] X.env=[(false,eval b X.env)]:=by rfl):
 QI K X (.Tuple elts kk tpos) (.Call (.Name "zip" p) [a,b] [] pos) (Lo K t1 t2 (BF ta (BF tb C6))) (HN ma mb):=⟨Rh K hg hm (C0 ha.p (C0 hb.p D9 hs2) (by rw[hs,hs2])) hK hs hs2,TD ha.r hb.r⟩
end
section
variable{K:PySem.W.Frag}
def GF(ml:MA)(mb:ME):ME:=λls hd=>(ml ls hd).bind λp=>(mb ls p.2).bind λq=>match q.1 with
 |.im (.int i)=>(atI p.1 i).map (·,q.2)
 |_=>none
def TU{ta tb:TE}{ml:MA}{mb:ME}(ha:RN K ta ml)(hb:RE K tb mb):RE K (tOp (Ig K) ta tb) (GF ml mb):=by
 and_intros;obtain⟨⟨d1,h1⟩,e1,hm⟩:=Yd hm;obtain⟨⟨d2,h2⟩,e2,hm⟩:=Yd hm;dsimp only at hm;split at hm
 .obtain⟨w,e3,e4⟩:=Ye hm;cases e4;refine ha ρ σ H hd ls _ d1 h1 hR hL e1 λρ1 H1 a xs x1 R1 na oa ea r1=>?_;refine hb ρ1 σ H1 h1 ls _ _ _ R1 (hL.ext hR x1) e2 λρ2 H2 v2 x2 R2 r2=>?_;simp only[RD,RI]at r2;subst r2;have r1':=r1.ext R1 x2;obtain⟨j,j1,j2⟩:=Kt r1'.len e3;obtain⟨x,y1,y2⟩:=r1'.get j1;exact .inl ⟨a,xs,_,x,rfl,rfl,SqL.of (x2.keep a _ ea oa nt),j2 x y1,hQ ρ2 H2 x (x1.trans R1 x2) R2 y2⟩
 .cases hm
def GJ(neg:Bool)(x y:PyData)(hd:Hd):Option (D×Hd):=if x.canLay0=true/\y.canLay0=true/\min x.depth y.depth<=60 then some (.im (.bl (if neg then !PyData.eqv x y else PyData.eqv x y)),hd)else none
def BP(neg:Bool)(ma:ME)(ml:MA):ME:=λls hd=>(ma ls hd).bind λp=>(ml ls p.2).bind λq=>(pyD q.2 p.1).bind λx=>(Aj q.1).bind λis=>GJ neg x (.list (I.pys is)) q.2
def rEN(K:PySem.W.Frag)(neg:Bool):R2:=λx y H Q=>∃d e,Rep K H d x/\Rep K H e y/\d.canLay0=true/\e.canLay0=true/\min d.depth e.depth<=60/\Q (.bl (if neg then !PyData.eqv d e else PyData.eqv d e)) H
def QX{ρ:List Addr}{H:Hp}{a:Addr}{xs:List V}{ds:List D}{is:List I}(ea:H a=some (.lst xs))(r:RDs K ρ H ds xs)(e:Aj ds=some is):Rep K H (.list (I.pys is)) (.ref a):=by
 rw[Ev e]at r;simp only[Rep];exact⟨a,xs,rfl,SqL.of ea,r.is.rep⟩
def KZ{neg:Bool}{ta tb:TE}{ma:ME}{ml:MA}(ha:RE K ta ma)(hb:RN K tb ml):RE K (tOp (rEN K neg) ta tb) (BP neg ma ml):=by
 and_intros;obtain⟨⟨d1,h1⟩,e1,hm⟩:=Yd hm;obtain⟨⟨d2,h2⟩,e2,hm⟩:=Yd hm;obtain⟨x,e3,hm⟩:=Yd hm;obtain⟨is,e4,hm⟩:=Yd hm;unfold GJ at hm;split at hm
 .next c=>
  cases hm;refine ha ρ σ H hd ls _ d1 h1 hR hL e1 λρ1 H1 v x1 R1 r1=>?_;refine hb ρ1 σ H1 h1 ls _ d2 _ R1 (hL.ext hR x1) e2 λρ2 H2 a xs x2 R2 na oa ea r2=>?_;exact⟨_,_,Cl R2 (r1.ext R1 x2) e3,QX ea r2 e4,c.1,c.2.1,c.2.2,hQ ρ2 H2 _ (x1.trans R1 x2) R2 (by simp[RD,RI])⟩
 .cases hm
end
def Uk(K:PySem.W.Frag){X:Cx}(hu:X.A.units+64<cLine)(hK:X.K=K:=by rfl):OpR X (compareOp .Eq) (rEN K false):=HJ K hu hK
def Ug(K:PySem.W.Frag){X:Cx}(hu:X.A.units+64<cLine)(hK:X.K=K:=by rfl):OpR X (compareOp .NotEq) (rEN K true):=Fa K hu hK
section
variable(K:PySem.W.Frag){X:Cx}{a b e:Expr}{ta tb te:TE}{ma mb me:ME}{m mk:MA}{pos:Pos}{op:CmpOp}{neg:Bool}
def UE(ha:QN K X a ta m)(hb:QE K X b tb mb)(hs:Hi b:=by exact λ_ _=>rfl)(hK:X.K=K:=by rfl):QE K X (.Subscript a b pos) (tOp (Ig K) ta tb) (GF m mb):=⟨Pb ((Ji K hK).or (Kj K hK)) ha.p hb.p hs,TU ha.r hb.r⟩
def RJ(ho:OpR X (compareOp op) (rEN K neg))(ha:QE K X a ta ma)(hb:QN K X b tb m)(hm:behindInMarks op b=false:=by first|exact Gg _|rfl):QE K X (.Compare a [op] [b] pos) (tOp (rEN K neg) ta tb) (BP neg ma m):=⟨Kd ho ha.p hb.p hm,KZ ha.r hb.r⟩
def Ql(ho:OpR X (compareOp op) (rEN K neg))(ha:QE K X a ta ma)(hb:QN K X b tb m)(hm:behindInMarks op b=false:=by first|exact Gg _|rfl):QT K X (.Compare a [op] [b] pos) (Ic (tOp (rEN K neg) ta tb)) (AH (BP neg ma m)):=⟨Kc ho ha.p hb.p hm,EF (KZ ha.r hb.r)⟩
end
section
variable{K:PySem.W.Frag}
open Classical in
def Oh(m:MA):MA:=λls hd=>(m ls hd).bind λp=>match p.1 with
 |[.im (.int j)]=>if PN j then some (Ae 0 j.toNat,p.2)else none
 |[.im (.int i),.im (.int j)]=>if PM i j then some (Ae i (j-i).toNat,p.2)else none
 |_=>none
def W2(m:MA):ME:=λls hd=>(Oh m ls hd).bind λp=>some (AV p.1,p.2)
def HI:∀{xs ys:List Int},xs.Perm ys->xs.Pairwise (·<=·)->ys.Pairwise (·<=·)->xs=ys:=λ{xs ys} p a b=>
 p.eq_of_pairwise (le:=(·<=·)) (λ_ _ _ _ h1 h2=>Int.le_antisymm h1 h2) a b
def CT(xs:List Int):List Int:=xs.mergeSort (λa b=>decide (a<=b))
def EY(xs:List Int):(CT xs).Perm xs:=List.mergeSort_perm ..
def F8(xs:List Int):(CT xs).Pairwise (·<=·):=by
 have:=List.pairwise_mergeSort (le:=λa b:Int=>decide (a<=b)) (by intro a b c h1 h2;simp at *;omega) (by intro a b;simp;omega) xs;exact this.imp (by simp)
def Cn(m:MI):MA:=λls hd=>(m ls hd).bind λp=>(Af p.1.1).bind λns=>if ns.length<64 then some ((CT ns).map λi=>.im (.int i),p.2)else none
end
end L2
namespace L2
structure BltA(mg:PySem.Str->Option PySem.Value):Prop where
 list:mg "list"=none
 tuple:mg "tuple"=none
 len:mg "len"=none
 range:mg "range"=none
 repr:mg "repr"=none
 sum:mg "sum"=none
 min:mg "min"=none
 max:mg "max"=none
 abs:mg "abs"=none
 all:mg "all"=none
 any:mg "any"=none
 sorted:mg "sorted"=none
 zip:mg "zip"=none
 isinstance:mg "isinstance"=none
 int:mg "int"=none
 bool:mg "bool"=none
 str:mg "str"=none
 set:mg "set"=none
 enumerate:mg "enumerate"=none
 reversed:mg "reversed"=none
 dict:mg "dict"=none
end L2
namespace L2
open PySem PySem.Spec PyProof.Rows
section
variable{ls:Ls}{hd:Hd}{a b c:MS}{ma mb mc:ME}{ta tb:MT}{m m1 m2:MA}{n:MG}{ns:MGs}{d e:D}
@[simp] theorem N9:AA a b ls hd=(a ls hd).bind λp=>match p.1 with
 |.nx ls1=>b ls1 p.2
 |f=>some (f,p.2):=rfl
@[simp] theorem XJ:Ao ls hd=some (.nx ls,hd):=rfl
@[simp] theorem XT:Cb ma ls hd=(ma ls hd).bind λp=>some (.nx ls,p.2):=rfl
@[simp] theorem Xm:AY ma ls hd=(ma ls hd).bind λp=>some (.rt p.1,p.2):=rfl
@[simp] theorem XE:W3 ls hd=some (.rt (.im .non),hd):=rfl
@[simp] theorem X1:Us ls hd=some (.bk ls,hd):=rfl
@[simp] theorem XX:W7 ls hd=some (.ct ls,hd):=rfl
@[simp] theorem Xv:B8 ta a b ls hd=(ta ls hd).bind λp=>if p.1=true then a ls p.2 else b ls p.2:=rfl
@[simp] theorem Jl:FL ma n ls hd=(ma ls hd).bind λp=>(n p.1 ls p.2).map λls'=>(.nx ls',p.2):=rfl
@[simp] theorem Kl(i:Nat):AB i d ls hd=some (ls.set i (some d)):=rfl
@[simp] theorem XG(k:Nat):CL k ns d ls hd=(AZ d).bind λds=>if ds.length=k then ns ds ls hd else none:=rfl
@[simp] theorem Wy(d:D)(ds:List D):AQ n ns (d::ds) ls hd=(n d ls hd).bind λls1=>ns ds ls1 hd:=rfl
@[simp] theorem XI:CM [] ls hd=some ls:=rfl
@[simp] theorem Xn(ix:List Nat):Oi ix m ls hd=(m ls hd).bind λp=>if p.1.length=ix.length then some (.nx ((ix.zip p.1).foldl (λl q=>l.set q.1 (some q.2)) ls),p.2)else none:=rfl
@[simp] theorem XF(i j k:Nat):W4 i j k m ls hd=Oi [k,j,i] (λls hd=>(m ls hd).map λp=>(p.1.reverse,p.2)) ls hd:=rfl
@[simp] theorem N8(i:Nat):A0 i ls hd=match ls[i]? with
 |some (some d)=>some (d,hd)
 |_=>none:=rfl
@[simp] theorem Yb(i:I):mC i ls hd=some (.im i,hd):=rfl
@[simp] theorem YL(f:D->D->Hd->Option (D×Hd)):mOp f ma mb ls hd=(ma ls hd).bind λp=>(mb ls p.2).bind λq=>f p.1 q.1 q.2:=rfl
@[simp] theorem Xy:Ej ta tb ls hd=(ta ls hd).bind λp=>if p.1=true then tb ls p.2 else some (false,p.2):=rfl
@[simp] theorem YK:mOr ta tb ls hd=(ta ls hd).bind λp=>if p.1=true then some (true,p.2)else tb ls p.2:=rfl
@[simp] theorem Xp:CN ta ls hd=(ta ls hd).bind λp=>some (!p.1,p.2):=rfl
@[simp] theorem V9:BN ma ls hd=(ma ls hd).bind λp=>(C5 p.2 p.1).map (·,p.2):=rfl
@[simp] theorem SR:AH ma ls hd=(ma ls hd).bind λp=>match p.1 with
 |.im (.bl b)=>some (b,p.2)
 |_=>none:=rfl
@[simp] theorem YM:mIf ta ma mb ls hd=(ta ls hd).bind λp=>if p.1=true then ma ls p.2 else mb ls p.2:=rfl
@[simp] theorem XZ:Cv ma mb ls hd=(AH ma ls hd).bind λp=>if p.1=true then mb ls p.2 else some (.im (.bl false),p.2):=rfl
@[simp] theorem Xo:Wp ma mb ls hd=(AH ma ls hd).bind λp=>if p.1=true then some (.im (.bl true),p.2)else mb ls p.2:=rfl
@[simp] theorem XH:Fc ma ls hd=(AH ma ls hd).bind λp=>some (.im (.bl (!p.1)),p.2):=rfl
@[simp] theorem Xq:A8 ls hd=some ([],hd):=rfl
@[simp] theorem XY:A2 ma m ls hd=(ma ls hd).bind λp=>(m ls p.2).bind λq=>some (p.1::q.1,q.2):=rfl
open Classical in
@[simp] theorem Xi:Bv m ls hd=(m ls hd).bind λp=>if BO p.1.length then some (AV p.1,p.2)else none:=rfl
open Classical in
@[simp] theorem Xr:CY m ls hd=(m ls hd).bind λp=>if BO p.1.length then some (p.1,p.2)else none:=rfl
@[simp] theorem VA:Ah m ls hd=(m ls hd).bind λp=>some (.mu p.2.length,p.2++[.lst p.1]):=rfl
@[simp] theorem VB:Dr ma ls hd=(ma ls hd).bind λp=>match p.1 with
 |.im (.int i)=>some (.im (.int (-i)),p.2)
 |_=>none:=rfl
@[simp] theorem Xu(neg:Bool):Wr neg ma ls hd=(ma ls hd).bind λp=>some (.im (.bl (match p.1 with
 |.im .non=>!neg
 | _=>neg)),p.2):=rfl
@[simp] theorem YN(g:Int->Int->Option I)(i j:Int):fI g (.im (.int i)) (.im (.int j)) hd=(g i j).map (.im ·,hd):=rfl
@[simp] theorem XS(f g:D->D->Hd->Option (D×Hd)):Fi f g d e hd=match f d e hd with
 |some z=>some z
 |none=>g d e hd:=rfl
@[simp] theorem Xx(neg:Bool)(i j:Int):Dw neg (.im (.int i)) (.im (.int j)) hd=some (.im (.bl (if neg then !decide (i=j)else decide (i=j))),hd):=by simp[Dw,scI,JH]
@[simp] theorem Xw(neg:Bool)(i j:Str):Dw neg (.im (.str i)) (.im (.str j)) hd=some (.im (.bl (if neg then !decide (i=j)else decide (i=j))),hd):=by simp[Dw,scI,JH]
@[simp] theorem WG(i:Int):gIx d (.im (.int i)) hd=(Am hd d).bind λds=>(atI ds i).map (·,hd):=rfl
@[simp] theorem XW:Bf d e hd=(DN hd d).bind λkvs=>(Cp e).bind λk=>(Bt kvs k).map (·,hd):=rfl
@[simp] theorem YO(f:List D->Hd->Option (D×Hd)):mCB f m ls hd=(m ls hd).bind λp=>f p.1 p.2:=rfl
@[simp] theorem WH(tp:Bool)(g:List D->Option D):f1 tp g [d] hd=((if tp then Am hd d else Aa hd d)).bind λds=>(g ds).map (·,hd):=rfl
@[simp] theorem VG(g:List D->Option D):Bn g m ls hd=(m ls hd).bind λp=>(g p.1).map (·,p.2):=rfl
@[simp] theorem WD(f:D->List D->Hd->Option (D×Hd)):mMt f ma m ls hd=(ma ls hd).bind λp=>match Aa p.2 p.1 with
 |some _=>(m ls p.2).bind λq=>f p.1 q.1 q.2
 |none=>none:=rfl
@[simp] theorem XN(i j:Int):Es [.im (.int i),.im (.int j)] hd=some (.im (.int (if j>i then j else i)),hd):=rfl
@[simp] theorem XM(i j:Int):WC [.im (.int i),.im (.int j)] hd=some (.im (.int (if j<i then j else i)),hd):=rfl
@[simp] theorem Xz(i:Int):Wv [.im (.int i)] hd=some (.im (.int (if i<0 then -i else i)),hd):=rfl
@[simp] theorem VC:GF m ma ls hd=(m ls hd).bind λp=>(ma ls p.2).bind λq=>match q.1 with
 |.im (.int i)=>(atI p.1 i).map (·,q.2)
 |_=>none:=rfl
@[simp] theorem NA:Ai ma ls hd=(ma ls hd).bind λp=>(AZ p.1).map λds=>((ds,[]),p.2):=rfl
@[simp] theorem VF:Dc m ls hd=(m ls hd).map λp=>((p.1,[]),p.2):=rfl
@[simp] theorem VE:Co ma ls hd=(ma ls hd).bind λp=>match p.1 with
 |.mu n=>match p.2[n]? with
  |some (.lst ds)=>some ((ds,[(n,ds)]),p.2)
  |_=>none
 |.ro ns=>some ((ns.map λn=>.im (.int n),[]),p.2)
 |_=>none:=rfl
open Classical in
@[simp] theorem VD:Ds m ls hd=(m ls hd).bind λp=>match p.1 with
 |[.im (.int j)]=>if HE j then some ((Ae 0 j.toNat,[]),p.2)else none
 |_=>none:=rfl
open Classical in
@[simp] theorem XR:W6 m ls hd=(m ls hd).bind λp=>match p.1 with
 |[.im (.int i),.im (.int j)]=>if T7 i j then some ((Ae i (j-i).toNat,[]),p.2)else none
 |_=>none:=rfl
@[simp] theorem VH(mi:MI):Ca mi n a ls hd=(mi ls hd).bind λp=>B4 n a p.1.2 p.1.1 ls p.2:=rfl
open Classical in
@[simp] theorem SV(k:Nat)(ix:List Nat)(mi:MI):Ab k ix mi n ta ma ls hd=(mi ls hd).bind λp=>if BO p.1.1.length then Ag n ta ma p.1.2 p.1.1 (D0 k ix ls) p.2 else none:=rfl
@[simp] theorem Xh:BI ls hd=some (true,hd):=rfl
@[simp] theorem X0(F:List D->Hd->Option (D×Hd)):CA F m ls hd=(m ls hd).bind λp=>F p.1 p.2:=rfl
@[simp] theorem Wa:DL ls hd=some (none,hd):=rfl
@[simp] theorem SS:Fb ma ls hd=(ma ls hd).bind λp=>match p.1 with
 |.im (.int i)=>some (some i,p.2)
 |_=>none:=rfl
@[simp] theorem XQ:W5 ma ls hd=(ma ls hd).bind λp=>(Am p.2 p.1).map (·,p.2):=rfl
@[simp] theorem Wz:FJ m ls hd=m ls hd:=rfl
@[simp] theorem Xk(ml mh:MO1):Jf ma ml mh ls hd=(ma ls hd).bind λp=>(ml ls p.2).bind λl=>(mh ls l.2).bind λh=>(Aa h.2 p.1).bind λds=>some (Cf ds l.1 h.1,h.2):=rfl
@[simp] theorem Xj(ml mh:MO1):Wo ma ml mh ls hd=(ma ls hd).bind λp=>(ml ls p.2).bind λl=>(mh ls l.2).bind λh=>(AZ p.1).bind λds=>if ¬ (HT.sIx ds.length 0 l.1=0/\HT.sIx ds.length ds.length h.1=ds.length)then some (AV (Cf ds l.1 h.1),h.2)else none:=rfl
@[simp] theorem XD:W2 m ls hd=(Oh m ls hd).bind λp=>some (AV p.1,p.2):=rfl
open Classical in
@[simp] theorem Xl:Oh m ls hd=(m ls hd).bind λp=>match p.1 with
 |[.im (.int j)]=>if PN j then some (Ae 0 j.toNat,p.2)else none
 |[.im (.int i),.im (.int j)]=>if PM i j then some (Ae i (j-i).toNat,p.2)else none
 |_=>none:=rfl
@[simp] theorem WY(mi:MI):Cn mi ls hd=(mi ls hd).bind λp=>(Af p.1.1).bind λns=>if ns.length<64 then some ((CT ns).map λi=>.im (.int i),p.2)else none:=rfl
@[simp] theorem XV(ms:List (ME×ME)):Ii ms ls hd=(DC ms ls hd).bind λp=>if p.1.length<=15 then some (.mu p.2.length,p.2++[.dic (EK [] p.1)])else none:=rfl
@[simp] theorem WZ:DC [] ls hd=some ([],hd):=rfl
@[simp] theorem Wx(r:List (ME×ME)):DC ((ma,mb)::r) ls hd=(ma ls hd).bind λp=>(mb ls p.2).bind λq=>(DC r ls q.2).bind λz=>(Cp p.1).map λk=>((k,q.1)::z.1,z.2):=rfl
open Classical in
@[simp] theorem XU:Dm ma mb mc ls hd=(mc ls hd).bind λp=>(ma ls p.2).bind λq=>(mb ls q.2).bind λr=>(Cp r.1).bind λk=>match q.1 with
 |.mu n=>match r.2[n]? with
  |some (.dic kvs)=>if Er kvs.length then some (.nx ls,r.2.set n (.dic (CV kvs k p.1)))else none
  |_=>none
 |_=>none:=rfl
@[simp] theorem SU:CZ ma mb mc ls hd=(mc ls hd).bind λp=>(ma ls p.2).bind λq=>(mb ls q.2).bind λr=>match q.1,r.1 with
 |.mu n,.im (.int i)=>match r.2[n]? with
  |some (.lst ds)=>(ixN ds.length i).map λj=>(.nx ls,r.2.set n (.lst (ds.set j p.1)))
  |_=>none
 |_,_=>none:=rfl
@[simp] theorem Sj(is:List I):AZ (.im (.tup is))=some (is.map .im):=rfl
@[simp] theorem Y7(ds:List D):AZ (.tm ds)=some ds:=rfl
@[simp] theorem Y9(k:Nat):AZ (.mu k)=none:=rfl
@[simp] theorem Y8(k:List Int):AZ (.ro k)=none:=rfl
@[simp] theorem Sn(is:List I):Am hd (.im (.tup is))=some (is.map .im):=rfl
@[simp] theorem YC(ds:List D):Am hd (.tm ds)=some ds:=rfl
@[simp] theorem YE(k:Nat):Am hd (.mu k)=Aa hd (.mu k):=rfl
@[simp] theorem YD(k:List Int):Am hd (.ro k)=some (k.map λn=>.im (.int n)):=rfl
@[simp] theorem W8(k:Nat):Aa hd (.mu k)=match hd[k]? with
 |some (.lst ds)=>some ds
 |_=>none:=rfl
@[simp] theorem YH(k:List Int):Aa hd (.ro k)=some (k.map λn=>.im (.int n)):=rfl
@[simp] theorem YQ(k:Nat):DN hd (.mu k)=match hd[k]? with
 |some (.dic ds)=>some ds
 |_=>none:=rfl
@[simp] theorem YJ(i:Int):Cp (.im (.int i))=some (.inl i):=rfl
@[simp] theorem YI(i:Str):Cp (.im (.str i))=some (.inr i):=rfl
@[simp] theorem Y5:Aj []=some []:=rfl
@[simp] theorem YS(i:I)(r:List D):Aj (.im i::r)=(Aj r).map (i::·):=rfl
@[simp] theorem Xf:Af []=some []:=rfl
@[simp] theorem Xg(i:Int)(r:List D):Af (.im (.int i)::r)=(Af r).map (i::·):=rfl
@[simp] theorem Y4:BJ []=some []:=rfl
@[simp] theorem YR(i:Bool)(r:List D):BJ (.im (.bl i)::r)=(BJ r).map (i::·):=rfl
@[simp] theorem DZ(is:List I):AV (is.map .im)=.im (.tup is):=by simp[AV]
@[simp] theorem Hv:AV []=.im (.tup []):=rfl
@[simp] theorem XB(i:I):AV [.im i]=.im (.tup [i]):=rfl
@[simp] theorem XA(i j:I):AV [.im i,.im j]=.im (.tup [i,j]):=rfl
@[simp] theorem X9(i j k:I):AV [.im i,.im j,.im k]=.im (.tup [i,j,k]):=rfl
@[simp] theorem X8(i j k l:I):AV [.im i,.im j,.im k,.im l]=.im (.tup [i,j,k,l]):=rfl
@[simp] theorem Y3(w:Nat)(i:I):clD w (.im i)=true:=by simp[clD]
@[simp] theorem Y0(w n:Nat):clD w (.mu n)=decide (n<w):=by simp[clD]
@[simp] theorem X2(w:Nat):Ar w []=true:=by simp[Ar]
@[simp] theorem NF(w:Nat)(d:D)(ds:List D):Ar w (d::ds)=(clD w d&&Ar w ds):=by simp[Ar]
@[simp] theorem FU{α:Type}(x:α)(r:List α):atI (x::r) 0=some x:=Fk (j:=0) rfl
@[simp] theorem E6{α:Type}(x y:α)(r:List α):atI (x::y::r) 1=some y:=Fk (j:=1) rfl
@[simp] theorem K0{α:Type}(x y z:α)(r:List α):atI (x::y::z::r) 2=some z:=Fk (j:=2) rfl
def FT{α:Type}{xs:List α}{i:Int}{k:Nat}{x:α}(hi:i=k)(h:xs[k]?=some x):atI xs i=some x:=by subst hi;exact Fk h
@[simp] theorem Jk:BO 0:=AS (by decide)
@[simp] theorem Gp:BO 1:=AS (by decide)
@[simp] theorem FO:BO 2:=AS (by decide)
@[simp] theorem FN:BO 3:=AS (by decide)
@[simp] theorem XC:Er 4:=Ep (by decide)
open Classical in
@[simp] theorem VI(k:Nat)(x:D):BV (.mu k) [x] hd=match hd[k]? with
 |some (.lst ds)=>if Er ds.length then some (.im .non,hd.set k (.lst (ds++[x])))else none
 |_=>none:=rfl
def NI{F:List D->Hd->Option (D×Hd)}{ds:List D}{hd1 h2:Hd}{i:I}(h1:m ls hd=some (ds,hd1))(hc:Ar 0 ds=true)(hF:F ds []=some (.im i,h2)):AF 0 F m ls hd=some (.im i,hd1):=by
 simp[AF,h1,hc,hF,fin]
def Jz{w:Nat}{F:List D->Hd->Option (D×Hd)}{ds:List D}{pre pre' rest g:Hd}{i:I}(hw:pre.length=w)(hw':pre'.length=w)(h1:m ls hd=some (ds,pre++rest))(hc:Ar w ds=true)(hp:pre.all (clO w)=true)(hp':pre'.all (clO w)=true)(hF:F ds pre=some (.im i,pre'++g)):AF w F m ls hd=some (.im i,pre'++rest):=by
 subst hw;have e1:(pre++rest).take pre.length=pre:=by simp
 have e2:(pre'++g).take pre.length=pre':=by rw[<- hw'];simp
 simp only[AF,h1,bind_some,e1,hc,hp,hF,fin,e2,hp'];simp
end
def Oj{n:MG}{b:MS}{g:Gd}{ls:Ls}{hd:Hd}:B4 n b g [] ls hd=some (.nx ls,hd):=by unfold B4;rfl
def N1{n:MG}{b:MS}{g:Gd}{d:D}{r:List D}{ls ls1 ls2:Ls}{hd hd2:Hd}(h1:n d ls hd=some ls1)(h2:b ls1 hd=some (.nx ls2,hd2))(h3:GOk hd2 g):B4 n b g (d::r) ls hd=B4 n b g r ls2 hd2:=by
 conv=>lhs;unfold B4
 simp[h1,h2,h3]
abbrev LC2(elt tg iter:Expr)(ifs:List Expr)(tg2 iter2:Expr)(ifs2:List Expr)(scope:Scope)(pos:Pos):Expr:=.ListComp elt [⟨tg,iter,ifs,0⟩,⟨tg2,iter2,ifs2,0⟩] scope pos
def Q0(elt tg iter:Expr)(ifs:List Expr)(tg2 iter2:Expr)(ifs2:List Expr)(scope:Scope)(pos:Pos)(it acc:Value)(env:Env):
 compTurn (LC2 elt tg iter ifs tg2 iter2 ifs2 scope pos) 0 it acc env=(do
  standAt iter.pos
  match <- pyNext it with
  |none=>pure (.done .next)
  |some v=>
   letOwnedTupleGo tg it v
   assign tg env v
   let mut ok:=true
   for c in ifs do
    if ok then ok <- isTrue c env (eval c env)
   if ok then
    let x <- eval iter2 env
    standAt iter2.pos
    let x <- foldedSetIterable iter2 env x
    let _ <- runOwn (.compStart (LC2 elt tg iter ifs tg2 iter2 ifs2 scope pos) 1 (<- holding [x] (pyIter x)) acc env) env
   again (.compLoop (LC2 elt tg iter ifs tg2 iter2 ifs2 scope pos) 0 it acc env)):=by rfl
def Pz(elt tg iter:Expr)(ifs:List Expr)(tg2 iter2:Expr)(ifs2:List Expr)(scope:Scope)(pos:Pos)(it acc:Value)(env:Env):
 compTurn (LC2 elt tg iter ifs tg2 iter2 ifs2 scope pos) 1 it acc env=(do
  standAt iter2.pos
  match <- pyNext it with
  |none=>pure (.done .next)
  |some v=>
   letOwnedTupleGo tg2 it v
   assign tg2 env v
   let mut ok:=true
   for c in ifs2 do
    if ok then ok <- isTrue c env (eval c env)
   if ok then
    (do let _ <- call (.builtin "list.append") [acc,<- eval elt env])
   again (.compLoop (LC2 elt tg iter ifs tg2 iter2 ifs2 scope pos) 1 it acc env)):=by rfl
section
variable{prog:Program}{w:World}{A:Around}{R:Result->Shared->Prop}{s:Shared}{elt tg iter tg2 iter2:Expr}{ifs ifs2:List Expr}{scope:Scope}{pos:Pos}{it acc:Value}{env:Env}
def SA(I:Nat->Shared->Prop)
 (turn:∀n s,I n s->wpAny (model prog w) A (pyNext it) (λr s₁=>match r with
  |none=>R (.ok .next) s₁
  | some v=>wpAny (model prog w) A (letOwnedTupleGo tg2 it v) (λ_ s₁=>wpAny (model prog w) A (assign tg2 env v) (λ_ s₂=>
   wpAny (model prog w) A (forIn ifs2 true λc r=>if r=true then do let ok <- isTrue c env (eval c env);pure (ForInStep.yield ok)else pure (ForInStep.yield r)) (λok s₃=>
    if ok=true then wpAny (model prog w) A (eval elt env) (λx s₄=>
     wpAny (model prog w) A (call (.builtin "list.append") [acc,x]) (λ_ s₅=>∃m,m<n/\I m s₅) (λ_ _=>False) s₄) (λ_ _=>False) s₃
    else ∃m,m<n/\I m s₃) (λ_ _=>False) s₂) (λ_ _=>False) s₁) (λ_ _=>False) s₁) (λ_ _=>False) s)
 (n:Nat) (h:I n s):codeAny (model prog w) A (.compLoop (LC2 elt tg iter ifs tg2 iter2 ifs2 scope pos) 1 it acc env) R s:=by
 refine codeAny_loop rfl I (λn s hI=>?_) n h;show wpAny _ A ((compTurn (LC2 elt tg iter ifs tg2 iter2 ifs2 scope pos) 1 it acc env).onRaise (λx=>do noteFrame x env;theTreesLotGoes x)) _ _ s;refine wpAny_noted ?_;rw[Pz];refine wpAny_bind (wpAny_standAt (wpAny_bind (wpAny_mono (turn n s hI) (λr s₁ h₁=>?_) λ_ _ h'=>h'.elim)));cases r with
 |none=>exact wpAny_pure h₁
 |some v=>
  refine wpAny_bind (wpAny_mono h₁ (λ_ s₁ h₁=>?_) λ_ _ h'=>h'.elim);refine wpAny_bind (wpAny_mono h₁ (λ_ s₂ h₂=>wpAny_bind (wpAny_mono h₂ (λok s₃ h₃=>?_) λ_ _ h'=>h'.elim)) λ_ _ h'=>h'.elim);cases ok with
  |false=>exact wpAny_pure ⟨rfl,h₃⟩
  |true=>
   exact wpAny_bind (wpAny_bind (wpAny_mono h₃ (λx s₄ h₄=>wpAny_bind (wpAny_mono h₄ (λ_ s₅ h₅=>wpAny_pure (wpAny_pure ⟨rfl,h₅⟩)) λ_ _ h'=>h'.elim)) λ_ _ h'=>h'.elim))
def SB(hs:∀x,foldedSetIterable iter2 env x=pure x)(I:Nat->Shared->Prop)
 (turn:∀n s,I n s->wpAny (model prog w) A (pyNext it) (λr s₁=>match r with
  |none=>R (.ok .next) s₁
  | some v=>wpAny (model prog w) A (letOwnedTupleGo tg it v) (λ_ s₁=>wpAny (model prog w) A (assign tg env v) (λ_ s₂=>
   wpAny (model prog w) A (forIn ifs true λc r=>if r=true then do let ok <- isTrue c env (eval c env);pure (ForInStep.yield ok)else pure (ForInStep.yield r)) (λok s₃=>
    if ok=true then wpAny (model prog w) A (eval iter2 env) (λx s₄=>wpAny (model prog w) A (pyIter x) (λit2 s₅=>
     codeAny (model prog w) A (.compStart (LC2 elt tg iter ifs tg2 iter2 ifs2 scope pos) 1 it2 acc env) (λr s₆=>r=.ok .next/\∃m,m<n/\I m s₆) s₅) (λ_ _=>False) s₄) (λ_ _=>False) s₃
    else ∃m,m<n/\I m s₃) (λ_ _=>False) s₂) (λ_ _=>False) s₁) (λ_ _=>False) s₁) (λ_ _=>False) s)
 (n:Nat) (h:I n s):codeAny (model prog w) A (.compLoop (LC2 elt tg iter ifs tg2 iter2 ifs2 scope pos) 0 it acc env) R s:=by
 refine codeAny_loop rfl I (λn s hI=>?_) n h;show wpAny _ A ((compTurn (LC2 elt tg iter ifs tg2 iter2 ifs2 scope pos) 0 it acc env).onRaise (λx=>do noteFrame x env;theTreesLotGoes x)) _ _ s;refine wpAny_noted ?_;rw[Q0];refine wpAny_bind (wpAny_standAt (wpAny_bind (wpAny_mono (turn n s hI) (λr s₁ h₁=>?_) λ_ _ h'=>h'.elim)));cases r with
 |none=>exact wpAny_pure h₁
 |some v=>
  refine wpAny_bind (wpAny_mono h₁ (λ_ s₁ h₁=>?_) λ_ _ h'=>h'.elim);refine wpAny_bind (wpAny_mono h₁ (λ_ s₂ h₂=>wpAny_bind (wpAny_mono h₂ (λok s₃ h₃=>?_) λ_ _ h'=>h'.elim)) λ_ _ h'=>h'.elim);cases ok with
  |false=>exact wpAny_pure ⟨rfl,h₃⟩
  |true=>
   refine wpAny_bind (wpAny_mono h₃ (λx s₄ h₄=>wpAny_bind (wpAny_standAt ?_)) λ_ _ h'=>h'.elim);rw[hs];refine wpAny_bind (wpAny_pure (wpAny_bind (wpAny_holding (wpAny_mono h₄ (λit2 s₅ h₅=>wpAny_bind (wpAny_runOwn (codeAny_mono h₅ λr s₆ h₆=>?_))) λ_ _ h'=>h'.elim))));obtain⟨rfl,h₆⟩:=h₆;exact wpAny_pure ⟨rfl,h₆⟩
def Nn(h0:codeAny (model prog w) A (.compLoop (LC2 elt tg iter ifs tg2 iter2 ifs2 scope pos) 1 it acc env) R s)
 (h:wpAny (model prog w) A (pyIter it) (λit' s'=>codeAny (model prog w) A (.compLoop (LC2 elt tg iter ifs tg2 iter2 ifs2 scope pos) 1 it' acc env) R s') (λ_ _=>False) s):
 codeAny (model prog w) A (.compStart (LC2 elt tg iter ifs tg2 iter2 ifs2 scope pos) 1 it acc env) R s:=by
 refine codeAny_of_tree ?_;show wpAny _ _ ((compStart (LC2 elt tg iter ifs tg2 iter2 ifs2 scope pos) 1 it acc env).onRaise (λx=>do noteFrame x env;standAt theWindowsPlace)) _ _ s;refine wpAny_notedAt ?_;unfold compStart;show wpAny _ _ (ask >>= _) _ _ s;refine wpAny_bind (wpAny_askSetting (wpAny_ite ?_));split
 .exact wpAny_bind (wpAny_pure (wpAny_pure (And.intro rfl h0)))
 .exact wpAny_bind (wpAny_rule (wpAny_bind (wpAny_standAt (wpAny_bind (wpAny_mono h (λit' s' h'=>wpAny_pure (And.intro rfl h')) λ_ _ x=>x.elim)))))
end
def MJ(J:It)(D:Addr)(σ0:St)(H0:Hp)(g:TG)(tf:TT)(te:TE)(Q:St->Hp->Prop):Prop:=∃W:Nat->Nat->St->Hp->Prop,
 (∃m,W 0 m σ0 H0)/\∀i m σ H,W i m σ H ->
  ((J.stop i H/\Q σ H)∨(J.go i H/\∃N:St->Hp->Prop,(∀σ' H',N σ' H'->∃m',m'<m/\W (i+1) m' σ' H')/\
    ∀x H',J.yld i H x H'->g x σ H' λσ2 H2=>tf σ2 H2 λb H3=>
     if b=true then te σ2 H3 λv H4=>∃ys,H4 D=some (.lst ys)/\ys.length<sizeLine/\N σ2 (upd H4 D (.lst (ys++[v])))
     else N σ2 H3))
def NL(J:It)(D:Addr)(σ0:St)(H0:Hp)(g:TG)(tf:TT)(wi2:TI)(g2:TG)(tf2:TT)(te:TE)(Q:VK):Prop:=∃W:Nat->Nat->St->Hp->Prop,
 (∃m,W 0 m σ0 (upd H0 D (.lst [])))/\∀i m σ H,W i m σ H ->
  ((J.stop i H/\Q (.ref D) H)∨(J.go i H/\∃N:St->Hp->Prop,(∀σ' H',N σ' H'->∃m',m'<m/\W (i+1) m' σ' H')/\
    ∀x H',J.yld i H x H'->g x σ H' λσ2 H2=>tf σ2 H2 λb H3=>
     if b=true then wi2 σ2 H3 λJ2 H4=>MJ J2 D σ2 H4 g2 tf2 te N
     else N σ2 H3))
def DT(n:Nat)(ix:List Nat)(wi:TI)(g:TG)(tf:TT)(wi2:TI)(g2:TG)(tf2:TT)(te:TE):TE:=λσ H Q=>wi σ H λJ H1=>∀D,H1 D=none->NL J D (E5 n ix σ) H1 g tf wi2 g2 tf2 te Q
section
variable{X:Cx}
def M6{elt tg iter tg2 iter2:Expr}{ifs ifs2:List Expr}{scope:Scope}{pos:Pos}{N':List Str}{s3:Shared}{H3:Hp}{fp3:List Addr}{g:TG}{tf:TT}{te:TE}{pins:List (Addr×Obj)}{σ:St}{H:Hp}{s:Shared}{D it:Addr}{fp:List Addr}{tn:Nat->Heap->Prop}{J:It}{Q:St->Hp->Prop}
 (hc:X.calm=true) (hg:PG (cCx X N' scope s3 H3 fp3) tg2 g) (hf:PF (cCx X N' scope s3 H3 fp3) ifs2 tf) (he:PE (cCx X N' scope s3 H3 fp3) elt te)
 (I:Inv (cCx X N' scope s3 H3 fp3) pins σ H s) (T:Turn X.prog X.w X.K tg2 J fp it tn) (st:tn 0 s.heap) (f2:∀b∈fp,FpOk (cCx X N' scope s3 H3 fp3) pins H b) (hW:MJ J D σ H g tf te Q):
 codeAny (model X.prog X.w) X.A (.compStart (LC2 elt tg iter ifs tg2 iter2 ifs2 scope pos) 1 (.ref it) (.ref D) (cCx X N' scope s3 H3 fp3).env)
  (λr s'=>r=.ok .next/\∃σ' H',Inv (cCx X N' scope s3 H3 fp3) pins σ' H' s'/\Q σ' H') s:=by
 obtain⟨W,⟨m0,w0⟩,turn⟩:=hW;have fpX:∀{H':Hp},(∀b∈fp,H' b=none)->∀b∈fp,FpOk (cCx X N' scope s3 H3 fp3) pins H' b:=λhn b hb=>⟨hn b hb,(f2 b hb).2⟩
 have loop:codeAny (model X.prog X.w) X.A (.compLoop (LC2 elt tg iter ifs tg2 iter2 ifs2 scope pos) 1 (.ref it) (.ref D) (cCx X N' scope s3 H3 fp3).env)
  (λr s'=>r=.ok .next/\∃σ' H',Inv (cCx X N' scope s3 H3 fp3) pins σ' H' s'/\Q σ' H') s:=by
  refine SA (λn s'=>∃i σ' H',Inv (cCx X N' scope s3 H3 fp3) pins σ' H' s'/\tn i s'.heap/\(∀b∈fp,H' b=none)/\W i n σ' H') ?_ m0
   ⟨0,_,_,I,st,λb hb=>(f2 b hb).1,w0⟩
  rintro n s5 ⟨i,σ5,H5,I5,st5,fr5,w5⟩;have w5:=turn i n σ5 H5 w5;rcases w5 with⟨stop,qn⟩|⟨go,N,hN,step⟩
  .refine thn (T.done (cCx X N' scope s3 H3 fp3) rfl rfl rfl hc i pins s5 σ5 H5 _ I5 (fpX fr5) st5 stop) λr s6 ⟨hr,I6⟩=>?_;subst hr;exact⟨rfl,σ5,H5,I6,qn⟩
  .refine thn (T.item (cCx X N' scope s3 H3 fp3) rfl rfl rfl hc i pins s5 σ5 H5 _ I5 (fpX fr5) st5 go) λr s6 ⟨u,hr,h6⟩=>?_;subst hr;refine thn h6 λ_ s7 ⟨x,H7,I7,r7,y7,st7,fr7⟩=>?_;have I7':=I7.pinned (fpX fr7) (T.obj _ _ st7);have keepI:∀{σ8:St} {H8:Hp} {s8:Shared},Inv (cCx X N' scope s3 H3 fp3) (pins++D8 fp s7.heap) σ8 H8 s8->tn (i+1) s8.heap/\∀b∈fp,H8 b=none:=λ{σ8 H8 s8} I8=>by
    refine⟨T.keep _ _ _ st7 λb hb o e=>(I8.pin (b,o) (mem_append_right _ (mem_append_right _ (Au hb e)))).1,λb hb=>?_⟩;obtain⟨o,e,d⟩:=T.obj _ _ st7 b hb;exact(I8.pin (b,o) (mem_append_right _ (mem_append_right _ (Au hb e)))).2.1
   refine thn (hg _ s7 σ5 H7 x u _ I7' r7 (step x H7 y7)) λ_ s8 ⟨σ8,H8,I8,q8⟩=>?_;refine thn (hf _ s8 σ8 H8 _ I8 q8) λb s9 ⟨H9,I9,q9⟩=>?_;cases b with
   |false=>
    rw[if_neg Bool.false_ne_true]at q9 ⊢;obtain⟨m',hm,w9⟩:=hN _ _ q9;exact⟨m',hm,i+1,σ8,H9,I9.unpinned,(keepI I9).1,(keepI I9).2,w9⟩
   |true=>
    rw[if_pos rfl]at q9 ⊢;refine thn (he _ s9 σ8 H9 _ I9 q9) λe10 s10 ⟨v10,H10,I10,r10,ys,hD10,hz,n10⟩=>?_;obtain⟨m',hm,w10⟩:=hN _ _ n10;refine K2 (X:=cCx X N' scope s3 H3 fp3) I10 hD10 r10 hz λ_ s11 I11=>?_;exact⟨m',hm,i+1,σ8,_,I11.unpinned,(keepI I11).1,(keepI I11).2,w10⟩
 exact Nn loop (T.self X.A 0 _ _ _ st loop)
def Fx{elt tg iter tg2 iter2:Expr}{ifs ifs2:List Expr}{scope:Scope}{pos:Pos}{loc fr:List Str}{ix:List Nat}{g g2:TG}{tf tf2:TT}{wi2:TI}{te:TE}{pins:List (Addr×Obj)}{σ:St}{Q:VK}{it:Addr}{fp:List Addr}{tn:Nat->Heap->Prop}{J:It}{H2:Hp}{s2:Shared}{E:Value->Shared->Prop}
 {RR:Value->Addr->Result->Shared->Prop} (hc:X.calm=true) (S:CSc X scope fr ix)
 (hg:∀s H ex,PG (cCx X (loc++fr) scope s H ex) tg g) (hf:∀s H ex,PF (cCx X (loc++fr) scope s H ex) ifs tf) (hi2:∀s H ex,PI (cCx X (loc++fr) scope s H ex) tg2 iter2 wi2) (hg2:∀s H ex,PG (cCx X (loc++fr) scope s H ex) tg2 g2) (hf2:∀s H ex,PF (cCx X (loc++fr) scope s H ex) ifs2 tf2) (he:∀s H ex,PE (cCx X (loc++fr) scope s H ex) elt te)
 (hs2:∀s H ex x,foldedSetIterable iter2 (cCx X (loc++fr) scope s H ex).env x=pure x)
 (I2:Inv X pins σ H2 s2) (T:Turn X.prog X.w X.K tg J fp it tn) (st2:tn 0 s2.heap) (f2:∀b∈fp,FpOk X pins H2 b) (hW:∀D,H2 D=none->NL J D (E5 loc.length ix σ) H2 g tf wi2 g2 tf2 te Q)
 (hfin:∀(s3 s6:Shared) (H5:Hp) (σ5:St) (D:Addr),Inv X pins σ (upd H2 D (.lst [])) s3->Inv (cCx X (loc++fr) scope s3 (upd H2 D (.lst [])) fp) [] σ5 H5 s6->(∀b∈fp,FpOk X pins (upd H2 D (.lst [])) b)->Q (.ref D) H5->RR (.ref D) s3.heap.objs.size (.ok .next) s6):
 wpAny (model X.prog X.w) X.A (newList []) (λacc s₃=>wpAny (model X.prog X.w) X.A (newFunctionEnv scope X.env.globals (AL X.env.cells scope.names []) [] X.env.qual none .none (some X.env)) (λcenv s₄=>
  codeAny (model X.prog X.w) X.A (.compStart (LC2 elt tg iter ifs tg2 iter2 ifs2 scope pos) 0 (.ref it) acc { cenv with scope:=relabel scope X.env }) (RR acc cenv.locals) s₄) E s₃) E s2:=by
 refine wpAny_newObj_type ?_;have fresh2:H2 s2.heap.objs.size=none:=I2.hok.fresh (le_refl _);have I3:=I2.lnew (its:=[]) (ys:=[]) (t':=s2.toks) .nil (zero_le _);obtain⟨W,⟨m0,w0⟩,turn⟩:=hW s2.heap.objs.size fresh2;have lt2:∀b∈fp,b<s2.heap.objs.size:=λb hb=>let ⟨o,e,_⟩:=T.obj 0 _ st2 b hb;Heap.lt_size e
 have f3:∀b∈fp,FpOk X pins (upd H2 s2.heap.objs.size (.lst [])) b:=λb hb=>⟨by rw[A4 (ne_of_lt (lt2 b hb))];exact(f2 b hb).1,(f2 b hb).2⟩
 have lt3:∀b∈fp,b<(s2.heap.push { cls:=.type "list",data:=.seq ([]:List Value).toArray }).objs.size:=λb hb=>by rw[Heap.size_push];exact lt_succ_of_lt (lt2 b hb)
 generalize hs3:({ s2 with heap:=s2.heap.push { cls:=.type "list",data:=.seq ([]:List Value).toArray } }:Shared)=s3 at *;have lt3:∀b∈fp,b<s3.heap.objs.size:=by rw[<- hs3];exact lt3
 have st3:tn 0 s3.heap:=T.keep _ _ _ st2 λb hb o e=>by rw[<- hs3];exact Heap.get?_push_of_some _ e
 refine HK λh' hk hn ho ha=>?_;have I4:=GH (loc:=loc) S I3 f3 hk hn ho ha lt3;have fpX:∀{H':Hp},(∀b∈fp,H' b=none)->∀b∈fp,FpOk (cCx X (loc++fr) scope s3 (upd H2 s2.heap.objs.size (.lst [])) fp) [] H' b:=λhn b hb=>
  ⟨hn b hb,(I4.ok.exf b hb).1,I4.ok.exfs b hb,.inl hb,(I4.ok.exf b hb).2,λp hp=>by cases hp⟩
 have loop:codeAny (model X.prog X.w) X.A (.compLoop (LC2 elt tg iter ifs tg2 iter2 ifs2 scope pos) 0 (.ref it) (.ref s2.heap.objs.size) (MB scope s3.heap.objs.size X.env))
  (RR (.ref s2.heap.objs.size) s3.heap.objs.size) { s3 with heap:=h' }:=by
  refine SB (hs2 s3 (upd H2 s2.heap.objs.size (.lst [])) fp) (λn s'=>∃i σ' H',Inv (cCx X (loc++fr) scope s3 (upd H2 s2.heap.objs.size (.lst [])) fp) [] σ' H' s'/\tn i s'.heap/\(∀b∈fp,H' b=none)/\W i n σ' H') ?_ m0
   ⟨0,_,_,I4,T.keep _ _ _ st3 λb hb o e=>hk b o e,λb hb=>(f3 b hb).1,w0⟩
  rintro n s5 ⟨i,σ5,H5,I5,st5,fr5,w5⟩;have w5:=turn i n σ5 H5 w5;rcases w5 with⟨stop,qn⟩|⟨go,N,hN,step⟩
  .refine thn (T.done (cCx X (loc++fr) scope s3 (upd H2 s2.heap.objs.size (.lst [])) fp) rfl rfl rfl hc i [] s5 σ5 H5 _ I5 (fpX fr5) st5 stop) λr s6 ⟨hr,I6⟩=>?_;subst hr;exact hfin s3 s6 H5 σ5 s2.heap.objs.size I3 I6 f3 qn
  .refine thn (T.item (cCx X (loc++fr) scope s3 (upd H2 s2.heap.objs.size (.lst [])) fp) rfl rfl rfl hc i [] s5 σ5 H5 _ I5 (fpX fr5) st5 go) λr s6 ⟨u,hr,h6⟩=>?_;subst hr;refine thn h6 λ_ s7 ⟨x,H7,I7,r7,y7,st7,fr7⟩=>?_;have I7':=I7.pinned (fpX fr7) (T.obj _ _ st7);have keepI:∀{σ8:St} {H8:Hp} {s8:Shared},Inv (cCx X (loc++fr) scope s3 (upd H2 s2.heap.objs.size (.lst [])) fp) ([]++D8 fp s7.heap) σ8 H8 s8->tn (i+1) s8.heap/\∀b∈fp,H8 b=none:=λ{σ8 H8 s8} I8=>by
    refine⟨T.keep _ _ _ st7 λb hb o e=>(I8.pin (b,o) (mem_append_right _ (mem_append_right _ (Au hb e)))).1,λb hb=>?_⟩;obtain⟨o,e,d⟩:=T.obj _ _ st7 b hb;exact(I8.pin (b,o) (mem_append_right _ (mem_append_right _ (Au hb e)))).2.1
   refine thn (hg s3 (upd H2 s2.heap.objs.size (.lst [])) fp _ s7 σ5 H7 x u _ I7' r7 (step x H7 y7)) λ_ s8 ⟨σ8,H8,I8,q8⟩=>?_;refine thn (hf s3 (upd H2 s2.heap.objs.size (.lst [])) fp _ s8 σ8 H8 _ I8 q8) λb s9 ⟨H9,I9,q9⟩=>?_;cases b with
   |false=>
    rw[if_neg Bool.false_ne_true]at q9 ⊢;obtain⟨m',hm,w9⟩:=hN _ _ q9;exact⟨m',hm,i+1,σ8,H9,I9.unpinned,(keepI I9).1,(keepI I9).2,w9⟩
   |true=>
    rw[if_pos rfl]at q9 ⊢;refine thn (hi2 s3 (upd H2 s2.heap.objs.size (.lst [])) fp _ s9 σ8 H9 _ I9 q9) λv10 s10 h10=>thn h10 λit2 s11 h11=>?_;obtain⟨itb,fpb,tnb,Jb,Hb,rfl,Ib,Tb,stb,fb,hWb⟩:=h11;refine codeAny_mono (M6 hc (hg2 _ _ _) (hf2 _ _ _) (he _ _ _) Ib Tb stb fb hWb) λr s12 ⟨hr,σ12,H12,I12,n12⟩=>⟨hr,?_⟩
    obtain⟨m',hm,w12⟩:=hN _ _ n12;exact⟨m',hm,i+1,σ12,H12,I12.unpinned,(keepI I12).1,(keepI I12).2,w12⟩
 exact codeAny_compStart_list loop (T.self X.A 0 _ _ _ (T.keep _ _ _ st3 λb hb o e=>hk b o e) loop)
def OX{elt tg iter tg2 iter2:Expr}{ifs ifs2:List Expr}{scope:Scope}{pos:Pos}{loc fr:List Str}{ix:List Nat}{wi wi2:TI}{g g2:TG}{tf tf2:TT}{te:TE}(hc:X.calm=true)(S:CSc X scope fr ix)(hi:PI X tg iter wi)
 (hg:∀s H ex,PG (cCx X (loc++fr) scope s H ex) tg g) (hf:∀s H ex,PF (cCx X (loc++fr) scope s H ex) ifs tf) (hi2:∀s H ex,PI (cCx X (loc++fr) scope s H ex) tg2 iter2 wi2) (hg2:∀s H ex,PG (cCx X (loc++fr) scope s H ex) tg2 g2) (hf2:∀s H ex,PF (cCx X (loc++fr) scope s H ex) ifs2 tf2) (he:∀s H ex,PE (cCx X (loc++fr) scope s H ex) elt te)
 (hs:∀x,foldedSetIterable iter X.env x=pure x:=by intro _;rfl) (hs2:∀s H ex x,foldedSetIterable iter2 (cCx X (loc++fr) scope s H ex).env x=pure x:=by intro _ _ _ _;rfl):
 PE X (LC2 elt tg iter ifs tg2 iter2 ifs2 scope pos) (DT loc.length ix wi g tf wi2 g2 tf2 te):=by
 intro pins s σ H Q I h;rw[eval_ListComp];have hnames:∀y∈scope.names,y.2=.local->scope.names.lookup y.1=some .local:=λy hy e=>by
  have:=all_eq_true.mp S.loc y hy;rw[e]at this;simpa using this
 refine wpAny_comprehension_free (use:=none) rfl hs (Bj (S.clos I.ok)) S.kind hnames (thn (hi pins s σ H _ I h) λv s1 h1=>thn h1 λitv s2 h2=>?_);obtain⟨it,fp,tn,J,H2,rfl,I2,T,st2,f2,hW⟩:=h2;refine Fx (RR:=λacc C=>compPost (model X.prog X.w) X.A X.xe none (EP X pins σ Q) acc C) hc S hg hf hi2 hg2 hf2 he hs2 I2 T st2 f2 hW λs3 s6 H5 σ5 L I3 I6 f3 q=>?_;obtain⟨m,hm,_⟩:=I6.loc;exact⟨m,hm,λh'' hs'=>⟨.ref L,H5,E7 I3 I6 f3 hs',rfl,q⟩⟩
end
open Classical in
def mIn(k:Nat)(n:MG)(c:MT)(m:ME)(g:Gd):List D->Ls->Hd->Option (Ls×Hd)
 |[],ls,hd=>some (ls,hd)
 |d::r,ls,hd=>(n d ls hd).bind λls1=>(c ls1 hd).bind λp=>if p.1=true then(m ls1 p.2).bind λq=>(BV (.mu k) [q.1] q.2).bind λz=>if GOk z.2 g then mIn k n c m g r ls1 z.2 else none else if GOk p.2 g then mIn k n c m g r ls1 p.2 else none
open Classical in
def DG(k:Nat)(n:MG)(c:MT)(mi:MI)(n2:MG)(c2:MT)(m:ME)(g:Gd):List D->Ls->Hd->Option Hd
 |[],ls,hd=>some hd
 |d::r,ls,hd=>(n d ls hd).bind λls1=>(c ls1 hd).bind λp=>if p.1=true then(mi ls1 p.2).bind λq=>(mIn k n2 c2 m q.1.2 q.1.1 ls1 q.2).bind λz=>if GOk z.2 g then DG k n c mi n2 c2 m g r z.1 z.2 else none else if GOk p.2 g then DG k n c mi n2 c2 m g r ls1 p.2 else none
def C9(j:Nat)(ix:List Nat)(mi:MI)(n:MG)(c:MT)(mi2:MI)(n2:MG)(c2:MT)(m:ME):ME:=λls hd=>(mi ls hd).bind λp=>(DG p.2.length n c mi2 n2 c2 m p.1.2 p.1.1 (D0 j ix ls) (p.2++[.lst []])).map λh=>(.mu p.2.length,h)
section
variable{K:PySem.W.Frag}{ρ:List Addr}{H:Hp}{hd:Hd}
def SM{h:Hd}{g:Gd}(G:GOk h g)(r:Hd):GOk (h++r) g:=λp hp=>by
 have:=G p hp;have hl:p.1<h.length:=(List.getElem?_eq_some_iff.mp this).1;rw[List.getElem?_append_left hl];exact this
def Wh{g:TG}{tf:TT}{te:TE}{n:MG}{c:MT}{m:ME}(hg:RGt K g n)(hf:RT K tf c)(he:RE K te m){J:It}{ds:List D}{gd:Gd}{k:Nat}{Da:Addr}{ls ls':Ls}{hd':Hd}{σ:St}{Q:St->Hp->Prop}
 (hR:RH K ρ H hd) (hL:RL K ρ H ls σ) (G:GOk hd gd) (Y:Gw K ρ H J ds gd) (hk:ρ[k]?=some Da) (hm:mIn k n c m gd ds ls hd=some (ls',hd'))
 (hQ:∀ρ' H' σ',Ext ρ H ρ' H'->RH K ρ' H' hd'->RL K ρ' H' ls' σ'->Q σ' H'):MJ J Da σ H g tf te Q:=by
 refine⟨λi mm σ2 H2=>mm=ds.length-i/\i<=ds.length/\∃ρ2 ls2 hd2,Ext ρ H ρ2 H2/\RH K ρ2 H2 hd2/\RL K ρ2 H2 ls2 σ2/\GOk hd2 gd/\mIn k n c m gd (ds.drop i) ls2 hd2=some (ls',hd'),
  ⟨ds.length,by simp,zero_le _,ρ,ls,hd,.refl,hR,hL,G,by simpa using hm⟩,?_⟩
 rintro i mm σ2 H2 ⟨rfl,hi,ρ2,ls2,hd2,x2,R2,L2',G2,hm2⟩;obtain⟨Y1,Y2⟩:=Y ρ2 H2 hd2 x2 R2 G2 i;have hk2:ρ2[k]?=some Da:=by
  obtain⟨r,rfl,_⟩:=x2.pre;rw[List.getElem?_append_left (List.getElem?_eq_some_iff.mp hk).1];exact hk
 by_cases hlt:i<ds.length
 .obtain⟨go,Y1⟩:=Y1 hlt;have ed:ds.drop i=ds[i]::ds.drop (i+1):=drop_eq_getElem_cons hlt;rw[ed]at hm2;unfold mIn at hm2;obtain⟨ls3,e3,hm2⟩:=Yd hm2;obtain⟨⟨bb,hd4⟩,e4,hm2⟩:=Yd hm2;refine .inr ⟨go,λσ' H'=>∃ρ2 ls2 hd2,Ext ρ H ρ2 H'/\RH K ρ2 H' hd2/\RL K ρ2 H' ls2 σ'/\GOk hd2 gd/\mIn k n c m gd (ds.drop (i+1)) ls2 hd2=some (ls',hd'),λσ' H' z=>⟨ds.length-(i+1),by omega,rfl,hlt,z⟩,λx H3 y=>?_⟩;obtain⟨ρ3,d3,x3,rfl,R3,e5,r3⟩:=Y1 x H3 y;have e6:d3=ds[i]:=by
   have:ds[i]?=some ds[i]:=by simp[hlt]
   rw[this]at e5;exact(Option.some.inj e5).symm
  subst e6;refine hg ρ3 σ2 H3 hd2 ls2 ls3 _ x _ R3 (L2'.ext R2 x3) r3 e3 λσ4 L4=>?_;refine hf ρ3 σ4 H3 hd2 ls3 _ bb hd4 R3 L4 e4 λρ5 H5 x5 R5=>?_;have y25:=x3.trans R3 x5;cases bb with
  |false=>
   rw[if_neg Bool.false_ne_true]at hm2 ⊢;split at hm2
   .next g5=>exact⟨ρ5,ls3,hd4,x2.trans R2 y25,R5,L4.ext R3 x5,g5,hm2⟩
   .cases hm2
  |true=>
   rw[if_pos rfl]at hm2 ⊢;obtain⟨⟨z,hd6⟩,e6,hm2⟩:=Yd hm2;obtain⟨⟨z7,hd7⟩,e7,hm2⟩:=Yd hm2;refine he ρ5 σ4 H5 hd4 ls3 _ z hd6 R5 (L4.ext R3 x5) e6 λρ6 H6 v6 x6 R6 r6=>?_;have y26:=y25.trans R5 x6;have hk6:ρ6[k]?=some Da:=by
    obtain⟨r,rfl,_⟩:=y26.pre;rw[List.getElem?_append_left (List.getElem?_eq_some_iff.mp hk2).1];exact hk2
   unfold BV at e7;dsimp only at e7 hm2;split at e7
   .next es q=>
    split at e7
    .next c7=>
     cases e7;obtain⟨xs,e1,e2⟩:=R6.lst hk6 q;obtain⟨R7,x7⟩:=R6.put hk6 (o:=.lst (es++[z])) (ho:=.lst (xs++[v6])) ⟨_,rfl,e2.app (.cons r6 .nil)⟩;refine⟨xs,e1,by rw[e2.len];exact c7,?_⟩;split at hm2
     .next g7=>exact⟨ρ6,ls3,_,(x2.trans R2 y26).trans R6 x7,R7,((L4.ext R3 x5).ext R5 x6).ext R6 x7,g7,hm2⟩
     .cases hm2
    .cases e7
   .cases e7
 .have e:i=ds.length:=by omega
  subst e;rw[drop_length]at hm2;unfold mIn at hm2;cases hm2;exact .inl ⟨Y2 rfl,hQ ρ2 H2 σ2 x2 R2 L2'⟩
def Nz{j:Nat}{ix:List Nat}{wi wi2:TI}{g g2:TG}{tf tf2:TT}{te:TE}{mi mi2:MI}{n n2:MG}{c c2:MT}{m:ME}(hi:RIt K wi mi)(hg:RGt K g n)(hf:RT K tf c)(hi2:RIt K wi2 mi2)(hg2:RGt K g2 n2)(hf2:RT K tf2 c2)(he:RE K te m):RE K (DT j ix wi g tf wi2 g2 tf2 te) (C9 j ix mi n c mi2 n2 c2 m):=by
 intro ρ σ H hd ls Q out hd' hR hL hm hQ;obtain⟨⟨⟨ds,gd⟩,h1⟩,e1,hm⟩:=Yd hm;obtain⟨hd2,hm,e2⟩:=Ye hm;cases e2;dsimp only at hm;refine hi ρ σ H hd ls _ ds gd h1 hR hL e1 λρ1 H1 J x1 R1 G1 Y=>?_;intro Da hDa;obtain⟨R1',x1'⟩:=R1.new (o:=.lst []) (ho:=.lst []) hDa ⟨[],rfl,.nil⟩;have hk1:(ρ1++[Da])[h1.length]?=some Da:=by rw[<- R1.len];simp
 refine⟨λi mm σ2 H2=>mm=ds.length-i/\i<=ds.length/\∃ρ2 ls2 h2,Ext (ρ1++[Da]) (upd H1 Da (.lst [])) ρ2 H2/\RH K ρ2 H2 h2/\RL K ρ2 H2 ls2 σ2/\GOk h2 gd/\DG h1.length n c mi2 n2 c2 m gd (ds.drop i) ls2 h2=some hd',
  ⟨ds.length,by simp,zero_le _,_,_,_,.refl,R1',Ks ((hL.ext hR x1).ext R1 x1'),SM G1 _,by simpa using hm⟩,?_⟩
 rintro i mm σ2 H2 ⟨rfl,hi',ρ2,ls2,h2,x2,R2,L2',G2,hm2⟩;have x12:=x1'.trans R1' x2;obtain⟨Y1,Y2⟩:=Y ρ2 H2 h2 x12 R2 G2 i;have hk2:ρ2[h1.length]?=some Da:=by
  obtain⟨r,rfl,_⟩:=x2.pre;rw[List.getElem?_append_left (List.getElem?_eq_some_iff.mp hk1).1];exact hk1
 by_cases hlt:i<ds.length
 .obtain⟨go,Y1⟩:=Y1 hlt;have ed:ds.drop i=ds[i]::ds.drop (i+1):=drop_eq_getElem_cons hlt;rw[ed]at hm2;unfold DG at hm2;obtain⟨ls3,e3,hm2⟩:=Yd hm2;obtain⟨⟨bb,hd4⟩,e4,hm2⟩:=Yd hm2;refine .inr ⟨go,λσ' H'=>∃ρ2 ls2 h2,Ext (ρ1++[Da]) (upd H1 Da (.lst [])) ρ2 H'/\RH K ρ2 H' h2/\RL K ρ2 H' ls2 σ'/\GOk h2 gd/\DG h1.length n c mi2 n2 c2 m gd (ds.drop (i+1)) ls2 h2=some hd',λσ' H' z=>⟨ds.length-(i+1),by omega,rfl,hlt,z⟩,λx H3 y=>?_⟩;obtain⟨ρ3,d3,x3,rfl,R3,e5,r3⟩:=Y1 x H3 y;have e6:d3=ds[i]:=by
   have:ds[i]?=some ds[i]:=by simp[hlt]
   rw[this]at e5;exact(Option.some.inj e5).symm
  subst e6;refine hg ρ3 σ2 H3 h2 ls2 ls3 _ x _ R3 (L2'.ext R2 x3) r3 e3 λσ4 L4=>?_;refine hf ρ3 σ4 H3 h2 ls3 _ bb hd4 R3 L4 e4 λρ5 H5 x5 R5=>?_;have y25:=x3.trans R3 x5;cases bb with
  |false=>
   rw[if_neg Bool.false_ne_true]at hm2 ⊢;split at hm2
   .next g5=>exact⟨ρ5,ls3,hd4,x2.trans R2 y25,R5,L4.ext R3 x5,g5,hm2⟩
   .cases hm2
  |true=>
   rw[if_pos rfl]at hm2 ⊢;obtain⟨⟨⟨ds6,g6⟩,hd6⟩,e6,hm2⟩:=Yd hm2;obtain⟨⟨ls7,hd7⟩,e7,hm2⟩:=Yd hm2;refine hi2 ρ5 σ4 H5 hd4 ls3 _ ds6 g6 hd6 R5 (L4.ext R3 x5) e6 λρ6 H6 J6 x6 R6 G6 Y6=>?_;have y26:=y25.trans R5 x6;have hk6:ρ6[h1.length]?=some Da:=by
    obtain⟨r,rfl,_⟩:=y26.pre;rw[List.getElem?_append_left (List.getElem?_eq_some_iff.mp hk2).1];exact hk2
   refine Wh hg2 hf2 he R6 ((L4.ext R3 x5).ext R5 x6) G6 Y6 hk6 e7 λρ7 H7 σ7 x7 R7 L7=>?_;dsimp only at hm2;split at hm2
   .next g7=>exact⟨ρ7,ls7,hd7,(x2.trans R2 y26).trans R6 x7,R7,L7,g7,hm2⟩
   .cases hm2
 .have e:i=ds.length:=by omega
  subst e;rw[drop_length]at hm2;unfold DG at hm2;cases hm2;refine .inl ⟨Y2 rfl,hQ ρ2 H2 _ (x1.trans R1 x12) R2 ?_⟩;simp only[RD];exact⟨Da,hk2,rfl⟩
end
def JU(K:PySem.W.Frag){X:Cx}{elt tg iter tg2 iter2:Expr}{ifs ifs2:List Expr}{scope:Scope}{pos:Pos}{loc fr:List Str}{ix:List Nat}{wi wi2:TI}{g g2:TG}{tf tf2:TT}{te:TE}{mi mi2:MI}{n n2:MG}{mf mf2:MT}{mm:ME}(hc:X.calm=true)(S:CSc X scope fr ix)(hi:QI K X tg iter wi mi)
 (hg:∀s H ex,QG K (cCx X (loc++fr) scope s H ex) tg g n) (hf:∀s H ex,QF K (cCx X (loc++fr) scope s H ex) ifs tf mf) (hi2:∀s H ex,QI K (cCx X (loc++fr) scope s H ex) tg2 iter2 wi2 mi2) (hg2:∀s H ex,QG K (cCx X (loc++fr) scope s H ex) tg2 g2 n2) (hf2:∀s H ex,QF K (cCx X (loc++fr) scope s H ex) ifs2 tf2 mf2) (he:∀s H ex,QE K (cCx X (loc++fr) scope s H ex) elt te mm)
 (hs:∀x,foldedSetIterable iter X.env x=pure x:=by intro _;rfl) (hs2:∀s H ex x,foldedSetIterable iter2 (cCx X (loc++fr) scope s H ex).env x=pure x:=by intro _ _ _ _;rfl):
 QE K X (.ListComp elt [⟨tg,iter,ifs,0⟩,⟨tg2,iter2,ifs2,0⟩] scope pos) (DT loc.length ix wi g tf wi2 g2 tf2 te) (C9 loc.length ix mi n mf mi2 n2 mf2 mm):=
 ⟨OX hc S hi.p (λs H ex=>(hg s H ex).p) (λs H ex=>(hf s H ex).p) (λs H ex=>(hi2 s H ex).p) (λs H ex=>(hg2 s H ex).p) (λs H ex=>(hf2 s H ex).p) (λs H ex=>(he s H ex).p) hs hs2,
  Nz hi.r (hg X.s₀ X.H₀ []).r (hf X.s₀ X.H₀ []).r (hi2 X.s₀ X.H₀ []).r (hg2 X.s₀ X.H₀ []).r (hf2 X.s₀ X.H₀ []).r (he X.s₀ X.H₀ []).r⟩
open Classical in
def FK(ma mb:ME):MA:=λls hd=>(ma ls hd).bind λp=>(mb ls p.2).bind λq=>match p.1,q.1 with
 |.mu i,.mu j=>match q.2[i]?,q.2[j]? with
  |some (.lst xs),some (.lst ys)=>if BO (xs.length+ys.length)then some (xs++ys,q.2)else none
  |_,_=>none
 |_,_=>none
def TC{K:PySem.W.Frag}{ta tb:TE}{ma mb:ME}(ha:RE K ta ma)(hb:RE K tb mb):RN K (tOp OA ta tb) (FK ma mb):=by
 and_intros;obtain⟨⟨d1,h1⟩,e1,hm⟩:=Yd hm;obtain⟨⟨d2,h2⟩,e2,hm⟩:=Yd hm;dsimp only at hm;split at hm
 .next i j=>
  split at hm
  .next xs ys q1 q2=>
   split at hm
   .next c=>
    cases hm;refine ha ρ σ H hd ls _ _ h1 hR hL e1 λρ1 H1 v x1 R1 r1=>?_;refine hb ρ1 σ H1 h1 ls _ _ _ R1 (hL.ext hR x1) e2 λρ2 H2 u x2 R2 r2=>?_;have r1':=r1.ext R1 x2;simp only[RD]at r1' r2;obtain⟨a,ka,rfl⟩:=r1';obtain⟨b,kb,rfl⟩:=r2;obtain⟨vs,f1,f2⟩:=R2.lst ka q1;obtain⟨us,f3,f4⟩:=R2.lst kb q2;refine⟨a,b,vs,us,rfl,rfl,f1,f3,by rw[f2.len,f4.len];exact c,λp hp=>?_⟩;obtain⟨R3,x3⟩:=R2.hid (ho:=.lst (vs++us)) hp;have x12:=x1.trans R1 x2;exact hQ ρ2 _ p _ (x12.trans R2 x3) R3 (x12.none hR hp R2) (R2.out hp) AE ((f2.app f4).ext R2 x3)
   .cases hm
  .cases hm
 .cases hm
def Tx(K:PySem.W.Frag){X:Cx}{a b:Expr}{pos:Pos}{ta tb:TE}{ma mb:ME}(ha:QE K X a ta ma)(hb:QE K X b tb mb):QN K X (.BinOp a .Add b pos) (tOp OA ta tb) (FK ma mb):=⟨Lc Um ha.p hb.p,TC ha.r hb.r⟩
@[simp] theorem Oz(j:Nat)(ix:List Nat)(mi mi2:MI)(n n2:MG)(c c2:MT)(m:ME)(ls:Ls)(hd:Hd):C9 j ix mi n c mi2 n2 c2 m ls hd=(mi ls hd).bind λp=>(DG p.2.length n c mi2 n2 c2 m p.1.2 p.1.1 (D0 j ix ls) (p.2++[.lst []])).map λh=>(.mu p.2.length,h):=rfl
end L2
namespace L2
open PySem PySem.Spec PyProof.Rows PySem.W
section
variable(r:Nat->Int)(n:Nat)
def PWp{α:Type}:KasT α->(α->Prop)->Prop
 |.ret a,Q=>Q a
 |.ask i j k,Q=>i<n/\j<n/\PWp (k (decide (r i<r j))) Q
def kv(p:Array Nat)(i:Nat):Int:=r (p.getD i 0)
def STo(p:Array Nat)(m:Nat):Prop:=∀i j,i<=j->j<m->kv r p i<=kv r p j
def DTo(p:Array Nat)(m:Nat):Prop:=∀i j,i<=j->j<m->kv r p j<=kv r p i
def EqL(p:Array Nat)(m q:Nat):Prop:=∀k,m-(q+1)<=k->k<m->kv r p k=kv r p (m-1)
def PAr(p:Array Nat):Prop:=p.Perm (List.range n).toArray
end
section
variable{r:Nat->Int}{n:Nat}
theorem PWp.bind{α β:Type}{f:α->KasT β}{Q:β->Prop}:∀{t:KasT α},PWp r n t (λa=>PWp r n (f a) Q)->PWp r n (t.bind f) Q
 |.ret _,h=>h
 |.ask i j k,h=>⟨h.1,h.2.1,PWp.bind h.2.2⟩
theorem PWp.mono{α:Type}{Q Q':α->Prop}:∀{t:KasT α},PWp r n t Q->(∀a,Q a->Q' a)->PWp r n t Q'
 |.ret _,h,q=>q _ h
 |.ask i j k,h,q=>⟨h.1,h.2.1,PWp.mono h.2.2 q⟩
theorem PWp.wp{α:Type}{cmp:Nat->Nat->(Bool->Shared->Prop)->Shared->Prop}{P:Shared->Prop}{Q:α->Shared->Prop}(hc:∀i j C s,i<n->j<n->P s->(∀s',P s'->C (decide (r i<r j)) s')->cmp i j C s):∀{t:KasT α} {s:Shared},PWp r n t (λa=>∀s,P s->Q a s)->P s->t.kasWp cmp Q s
 |.ret _,s,h,p=>h s p
 |.ask i j k,s,h,p=>hc i j _ s h.1 h.2.1 p λs' p'=>PWp.wp hc h.2.2 p'
theorem PAr.size{p:Array Nat}(h:PAr n p):p.size=n:=by have:=h.size_eq;simpa using this
def PAr.lt{p:Array Nat}(h:PAr n p){i:Nat}(hi:i<n):p.getD i 0<n:=by
 have hs:=h.size;have hi':i<p.size:=by omega
 have:p[i]∈(List.range n).toArray:=h.mem_iff.mp (Array.getElem_mem hi');have e:p.getD i 0=p[i]:=by simp[Array.getD,hi']
 rw[e];simpa using this
def Gj{p:Array Nat}{i j:Nat}(hj:j<=p.size)(k:Nat):kv r (kas_rev p i j) k=if i<=k/\k<j then kv r p (i+j-1-k)else kv r p k:=by
 unfold kv kas_rev;simp only[Array.getD_eq_getD_getElem?];rw[getElem?_mirror_all hj];split<;>rfl
def PAr.rev{p:Array Nat}(h:PAr n p)(i j:Nat):PAr n (kas_rev p i j):=(mirror_perm _ _ _ _).trans h
def Kh{p:Array Nat}{m q:Nat}(hj:m<=p.size)(hq:q+1<=m)(h:EqL r p m q)(k:Nat):kv r (kas_rev p (m-(q+1)) m) k=kv r p k:=by
 rw[Gj hj];split
 .next c=>rw[h _ (by omega) (by omega),h k c.1 c.2]
 .rfl
theorem K1{p:Array Nat}(pa:PAr n p):∀(f m:Nat),1<=m->m+f<=n->STo r p m->PWp r n (kas_asc p f m) λm'=>m<=m'/\m'<=m+f/\STo r p m'/\(m'<m+f->kv r p m'<kv r p (m'-1))
 |0,m,h1,hn,hs=>⟨le_refl _,le_refl _,hs,λh=>by omega⟩
 |f+1,m,h1,hn,hs=>by
  refine⟨pa.lt (by omega),pa.lt (by omega),?_⟩;by_cases c:r (p.getD m 0)<r (p.getD (m-1) 0)
  .rw[decide_eq_true c];exact⟨le_refl _,by omega,hs,λ_=>c⟩
  .rw[decide_eq_false c];refine(K1 pa f (m+1) (by omega) (by omega) ?_).mono λm' h=>⟨by omega,by omega,h.2.2.1,λz=>h.2.2.2 (by omega)⟩
   intro i j hij hj;by_cases e:j<m
   .exact hs i j hij e
   .have:j=m:=by omega
    subst this;by_cases e2:i=j
    .subst e2;exact Int.le_refl _
    .have:=hs i (j-1) (by omega) (by omega);have:kv r p (j-1)<=kv r p j:=by unfold kv;omega
     omega
def GL{p:Array Nat}{m:Nat}(h1:1<=m)(h:DTo r p m)(c:kv r p m<=kv r p (m-1)):DTo r p (m+1):=by
 intro i j hij hj;by_cases e:j<m
 .exact h i j hij e
 .have:j=m:=by omega
  subst this;by_cases e2:i=j
  .subst e2;exact Int.le_refl _
  .have:=h i (j-1) (by omega) (by omega);omega
theorem Fj:∀(f:Nat) (p:Array Nat) (m q:Nat),PAr n p->1<=m->q+1<=m->m+f<=n->DTo r p m->EqL r p m q ->
 PWp r n (kas_desc f p m q) λz=>PAr n z.1/\m<=z.2.1/\z.2.1<=m+f/\DTo r z.1 z.2.1/\EqL r z.1 z.2.1 z.2.2/\z.2.2+1<=z.2.1
 |0,p,m,q,pa,h1,hq,hn,hd,he=>⟨pa,le_refl _,le_refl _,hd,he,hq⟩
 |f+1,p,m,q,pa,h1,hq,hn,hd,he=>by
  refine⟨pa.lt (by omega),pa.lt (by omega),?_⟩;have sz:=pa.size;by_cases c:r (p.getD m 0)<r (p.getD (m-1) 0)
  .rw[decide_eq_true c];have c':kv r p m<=kv r p (m-1):=by unfold kv;omega
   dsimp only;rw[if_pos rfl];by_cases hq0:q>0
   .rw[if_pos hq0];have sm:=Kh (r:=r) (p:=p) (m:=m) (q:=q) (by omega) hq he;refine(Fj f _ (m+1) 0 (pa.rev _ _) (by omega) (by omega) (by omega) ?_ ?_).mono λz h=>⟨h.1,by omega,by omega,h.2.2.2⟩
    .have:=GL h1 hd c';intro i j a b;rw[sm,sm];exact this i j a b
    .intro k a b;have:k=m:=by omega
     subst this;rfl
   .rw[if_neg hq0];refine(Fj f p (m+1) 0 pa (by omega) (by omega) (by omega) (GL h1 hd c') ?_).mono λz h=>⟨h.1,by omega,by omega,h.2.2.2⟩
    intro k a b;have:k=m:=by omega
    subst this;rfl
  .rw[decide_eq_false c];dsimp only;rw[if_neg Bool.false_ne_true];refine⟨pa.lt (by omega),pa.lt (by omega),?_⟩;by_cases d:r (p.getD (m-1) 0)<r (p.getD m 0)
   .rw[decide_eq_true d];exact⟨pa,le_refl _,by show m<=m+(f+1);omega,hd,he,hq⟩
   .rw[decide_eq_false d];dsimp only;rw[if_neg Bool.false_ne_true];have e:kv r p m=kv r p (m-1):=by unfold kv;omega
    refine(Fj f p (m+1) (q+1) pa (by omega) (by omega) (by omega) (GL h1 hd (by omega)) ?_).mono λz h=>⟨h.1,by omega,by omega,h.2.2.2⟩
    intro k a b;by_cases e2:k=m
    .subst e2;rfl
    .have:=he k (by omega) (by omega);have e3:m+1-1=m:=rfl;rw[e3];omega
def Run(z:Nat×Array Nat)(r:Nat->Int)(n:Nat):Prop:=PAr n z.2/\1<=z.1/\z.1<=n/\STo r z.2 z.1
def Iz{p:Array Nat}{m:Nat}(pa:PAr n p)(h1:1<=m)(hn:m<=n)(hd:DTo r p m):PWp r n (kas_tail3 m n p) λz=>Run z r n:=by
 have sz:=pa.size;have st:STo r (kas_rev p 0 m) m:=by
  intro i j a b;rw[Gj (by omega),Gj (by omega),if_pos ⟨by omega,by omega⟩,if_pos ⟨by omega,by omega⟩];exact hd _ _ (by omega) (by omega)
 refine PWp.bind ((K1 (pa.rev 0 m) (n-m) m h1 (by omega) st).mono λm' h=>?_);exact⟨pa.rev 0 m,by show 1<=m';omega,by show m'<=n;omega,h.2.2.1⟩
def Fv{p:Array Nat}{m:Nat}(pa:PAr n p)(hn:m+1<=n)(hd:DTo r p (m+1)):PWp r n (kas_descPart m n p) λz=>Run z r n:=by
 refine PWp.bind ((Fj (n-(m+1)) p (m+1) 0 pa (by omega) (by omega) (by omega) hd ?_).mono λz h=>?_)
 .intro k a b;have:k=m:=by omega
  subst this;rfl
 .obtain⟨a,b,c,d,e,g⟩:=h;have sz:=a.size;by_cases hq:z.2.2>0
  .rw[if_pos hq];have sm:=Kh (r:=r) (p:=z.1) (m:=z.2.1) (q:=z.2.2) (by omega) g e;exact Iz (a.rev _ _) (by omega) (by omega) λi j x y=>by rw[sm,sm];exact d i j x y
  .rw[if_neg hq];exact Iz a (by omega) (by omega) d
def P3(h1:1<=n):PWp r n (kas_count n (List.toArray (List.range n))) λz=>Run z r n:=by
 have pa:PAr n (List.range n).toArray:=.refl _;have sz:=pa.size;refine PWp.bind ((K1 pa (n-1) 1 (by omega) (by omega) λi j a b=>?_).mono λm h=>?_)
 .have:i=j:=by omega
  subst this;exact Int.le_refl _
 .obtain⟨a,b,c,d⟩:=h;by_cases e:(m==n)=true
  .rw[if_pos e];have:m=n:=by simpa using e
   exact⟨pa,by show 1<=m;omega,by show m<=n;omega,c⟩
  .rw[if_neg e];have hne:m≠n:=by simpa using e
   have dd:=d (by omega);by_cases h2:m>1
   .rw[if_pos h2];refine⟨pa.lt (by omega),pa.lt (by omega),?_⟩;by_cases g:r ((List.range n).toArray.getD 0 0)<r ((List.range n).toArray.getD (m-1) 0)
    .rw[decide_eq_true g];exact⟨pa,by show 1<=m;omega,by show m<=n;omega,c⟩
    .rw[decide_eq_false g];dsimp only;rw[if_neg Bool.false_ne_true];have g':kv r (List.range n).toArray (m-1)<=kv r (List.range n).toArray 0:=by unfold kv;omega
     have eq:∀k,k<m->kv r (List.range n).toArray k=kv r (List.range n).toArray 0:=λk hk=>by
      have x1:=c 0 k (by omega) hk;have x2:=c k (m-1) (by omega) (by omega);omega
     have rv:∀k,kv r (kas_rev (List.range n).toArray 0 m) k=kv r (List.range n).toArray k:=λk=>by
      rw[Gj (by omega)];split
      .next z=>rw[eq _ (by omega),eq k z.2]
      .rfl
     refine Fv (pa.rev 0 m) (by omega) λi j x y=>?_;rw[rv,rv];by_cases z:j<m
     .rw[eq i (by omega),eq j z];exact Int.le_refl _
     .have:j=m:=by omega
      subst this;by_cases z2:i=j
      .subst z2;exact Int.le_refl _
      .rw[eq i (by omega)];have:=eq (j-1) (by omega);omega
   .rw[if_neg h2];have:m=1:=by omega
    subst this;refine Fv pa (by omega) λi j x y=>?_;by_cases z:i=j
    .subst z;exact Int.le_refl _
    .have:i=0:=by omega
     have:j=1:=by omega
     subst i j;have:kv r (List.range n).toArray 1<kv r (List.range n).toArray 0:=dd;omega
theorem G9{p:Array Nat}{k:Nat}(pa:PAr n p)(hk:k<n)(hs:STo r p k):∀(f l q:Nat),l<=q->q<=k->q-l<=f->(∀i,i<l->kv r p i<=kv r p k)->(∀i,q<=i->i<k->kv r p k<kv r p i) ->
 PWp r n (kas_place p k f l q) λm=>m<=k/\(∀i,i<m->kv r p i<=kv r p k)/\∀i,m<=i->i<k->kv r p k<kv r p i
 |0,l,q,a,b,c,d,e=>⟨by omega,d,λi x y=>e i (by omega) y⟩
 |f+1,l,q,a,b,c,d,e=>by
  unfold kas_place;by_cases h:l>=q
  .rw[if_pos h];exact⟨by omega,d,λi x y=>e i (by omega) y⟩
  .rw[if_neg h];refine⟨pa.lt (by omega),pa.lt (by omega),?_⟩;by_cases g:r (p.getD k 0)<r (p.getD ((l+q)/2) 0)
   .rw[decide_eq_true g];dsimp only;rw[if_pos rfl];have g':kv r p k<kv r p ((l+q)/2):=g;refine G9 pa hk hs f l ((l+q)/2) (by omega) (by omega) (by omega) d λi x y=>?_;have:=hs ((l+q)/2) i x y;omega
   .rw[decide_eq_false g];dsimp only;rw[if_neg Bool.false_ne_true];have g':kv r p ((l+q)/2)<=kv r p k:=by unfold kv;omega
    refine G9 pa hk hs f ((l+q)/2+1) q (by omega) (by omega) (by omega) (λi x=>?_) e;have:=hs i ((l+q)/2) (by omega) (by omega);omega
def Hx{p:Array Nat}{k d:Nat}(hk:k<p.size)(hd:d<=k)(i:Nat):kv r (bubble p k d) i=if i=k-d then kv r p k else if k-d<i/\i<=k then kv r p (i-1)else kv r p i:=by
 unfold kv;simp only[Array.getD_eq_getD_getElem?];rw[getElem?_bubble hk d hd];split
 .rfl
 .split<;>rfl
theorem NJ:∀(f:Nat) (p:Array Nat) (k:Nat),PAr n p->k+f=n->STo r p k->PWp r n (kas_bin f p k) λz=>PAr n z/\STo r z n
 | 0,p,k,pa,e,hs=>⟨pa,by
  have:k=n:=by omega
  subst this;exact hs⟩
 |f+1,p,k,pa,e,hs=>by
  have sz:=pa.size;refine PWp.bind ((G9 pa (by omega) hs k 0 k (by omega) (by omega) (by omega) (λi h=>by omega) (λi a b=>by omega)).mono λm h=>?_);obtain⟨a,b,c⟩:=h;refine NJ f _ (k+1) ((bubble_perm _ _ _).trans pa) (by omega) λi j x y=>?_;rw[Hx (by omega) (by omega),Hx (by omega) (by omega)];have ek:k-(k-m)=m:=by omega
  rw[ek]
  repeat' split
  .exact Int.le_refl _
  .exact Int.le_of_lt (c _ (by omega) (by omega))
  .omega
  .exact b _ (by omega)
  .exact hs _ _ (by omega) (by omega)
  .omega
  .exact b _ (by omega)
  .exact hs _ _ (by omega) (by omega)
  .exact hs _ _ (by omega) (by omega)
def Q4(h1:1<=n):PWp r n (kas_sort n) λp=>PAr n p/\STo r p n:=by
 refine PWp.bind ((P3 h1).mono λz h=>?_);obtain⟨a,b,c,d⟩:=h;by_cases e:z.1<n
 .rw[if_pos e];have:max z.1 1=z.1:=by omega
  rw[this];exact NJ _ _ _ a (by omega) d
 .rw[if_neg e];have:z.1=n:=by omega
  exact⟨a,this ▸ d⟩
end
def PairAt(h:Heap)(v:Value)(p:Int×Int):Prop:=∃(x:Addr) (o:Obj) (t u:Tok) (k:Nat),v=.ref x/\h.get? x=some o/\o.cls=.type "tuple"/\o.data=.seq #[.int p.1 t,.int p.2 u] k
def BU(p:Int×Int):Int:=p.1*4000000000+p.2
def pok(p:Int×Int):Prop:=-1000000000<=p.1/\p.1<=1000000000/\-1000000000<=p.2/\p.2<=1000000000
section
variable{prog:Program}{w:World}{A:Around}{E:Value->Shared->Prop}{s:Shared}
def S9{x y:Value}{p q:Int×Int}{C:Bool->Shared->Prop}(hx:PairAt s.heap x p)(hy:PairAt s.heap y q)(op:pok p)(oq:pok q)(h:C (decide (BU p<BU q)) s):
 wpAny (model prog w) A (keyLt' (tuples' true) x y) C E s:=by
 obtain⟨a,o,t,u,k,rfl,ho,hc,hd⟩:=hx;obtain⟨a2,o2,t2,u2,k2,rfl,ho2,hc2,hd2⟩:=hy;obtain⟨p1,p2⟩:=p;obtain⟨q1,q2⟩:=q;unfold pok at op oq;unfold BU at h;dsimp only at op oq h;refine kat_lt ho hd ho2 hd2 ?_;refine kat_cons (wpAny_eqBool_int ?_);by_cases e1:p1=q1
 .have b1:(p1==q1)=true:=by simp[e1]
  rw[b1];refine kat_yes (kat_cons (wpAny_eqBool_int ?_));by_cases e2:p2=q2
  .have b2:(p2==q2)=true:=by simp[e2]
   rw[b2];refine kat_yes (kat_nil ?_);have:decide (p1*4000000000+p2<q1*4000000000+q2)=false:=decide_eq_false (by omega);rw[this]at h;exact h
  .have b2:(p2==q2)=false:=by simp[e2]
   rw[b2];refine kat_no (kat_one _ _ (lt_int ?_));have:decide (p1*4000000000+p2<q1*4000000000+q2)=decide (p2<q2):=decide_eq_decide.mpr (by omega);rw[this]at h;exact h
 .have b1:(p1==q1)=false:=by simp[e1]
  rw[b1];refine kat_no (oneLt_int ?_);have:decide (p1*4000000000+p2<q1*4000000000+q2)=decide (p1<q1):=decide_eq_decide.mpr (by omega);rw[this]at h;exact h
theorem KP{h:Heap}:∀{vs:List Value} {ps:List (Int×Int)},vs.length=ps.length->(∀(i:Nat) (v:Value) (p:Int×Int),vs[i]?=some v->ps[i]?=some p->PairAt h v p)->∃fs,KatTups h vs fs/\fs.length=vs.length/\∀f∈fs,∃i t,f=.int i t
 |[],[],_,_=>⟨[],.nil,rfl,λ_ z=>by cases z⟩
 |v::vs,p::ps,hl,hp=>by
  obtain⟨fs,a,b,c⟩:=KP (vs:=vs) (ps:=ps) (by simpa using hl) λi v q e1 e2=>hp (i+1) v q (by simpa using e1) (by simpa using e2);obtain⟨x,o,t,u,k,rfl,ho,hc,hd⟩:=hp 0 v p rfl rfl;exact⟨.int p.1 t::fs,.cons ho hc hd rfl a,by simp[b],λf hf=>by
   rcases mem_cons.mp hf with rfl|hf
   .exact⟨_,_,rfl⟩
   .exact c f hf⟩
def DO(vs:List Value)(ps:List (Int×Int))(out:List Value):Prop:=∃zs:List (Value×(Int×Int)),zs.Perm (vs.zip ps)/\(zs.map λz=>BU z.2).Pairwise (·<=·)/\out=zs.map (·.1)
def MW{vs:List Value}{ps:List (Int×Int)}(hl:vs.length=ps.length){p:Array Nat}(pa:PAr vs.length p)(hs:STo (λi=>BU (ps.getD i (0,0))) p vs.length):DO vs ps (p.toList.map λi=>vs.getD i Value.none):=by
 have sz:=pa.size;refine⟨p.toList.map λi=>(vs.getD i Value.none,ps.getD i (0,0)),?_,?_,by rw[map_map];rfl⟩
 .have e:vs.zip ps=(List.range vs.length).map λi=>(vs.getD i Value.none,ps.getD i (0,0)):=by
   refine ext_getElem? λi=>?_;by_cases hi:i<vs.length
   .have hi2:i<ps.length:=by omega
    rw[(List.getElem?_zip_eq_some (z:=(vs[i],ps[i]))).mpr ⟨by simp[hi],by simp[hi2]⟩];simp[hi,hi2]
   .rw[List.getElem?_eq_none (by simp;omega),List.getElem?_eq_none (by simp;omega)]
  rw[e];have:=Array.perm_iff_toList_perm.mp pa;simpa using this.map _
 .rw[map_map,List.pairwise_iff_getElem];intro i j hi hj hij;simp only[length_map,Array.length_toList]at hi hj;have:=hs i j (by omega) (by omega);unfold kv at this;simpa [Array.getD,hi,hj]using this
def LM{a:Addr}{vs:List Value}{ps:List (Int×Int)}{n:Nat}{P:PySem.Fin->Shared->Prop}(ho:s.heap.get? a=some (seqObj "list" vs.toArray n))(hl:vs.length=ps.length)(h64:vs.length<64)(hok:∀p∈ps,pok p)
 (hp:∀(i:Nat) (v:Value) (p:Int×Int),vs[i]?=some v->ps[i]?=some p->PairAt (s.heap.update a (Obj.mapSeq λ_=>#[])) v p)
 (h:∀out:List Value,DO vs ps out->P (.done (.ret .none)) { s with heap:=sortedHeap s.heap a vs out.toArray }):
 wpAny (model prog w) A (Builtin.«list.sort» ⟨[.ref a],[]⟩) P E s:=by
 have ha:=Heap.lt_size ho;have line:vs.length<=sizeLine:=by rw[sizeLine_eq];omega
 obtain⟨e1,ho1⟩:∃e1,(s.heap.update a (Obj.mapSeq λ_=>#[])).get? a=some (seqObj "list" #[] e1):=⟨_,get?_update_seq ho _⟩
 rw[list_sort_plain];refine wpAny_bind (listItems_at ho rfl (wpAny_bind (listUpdate_at ho rfl (wpAny_bind (seqEpoch_at ho1 rfl (wpAny_bind (wpAny_newTuple (wpAny_bind (wpAny_newList (wpAny_holding ?_) (zero_le _))) line)))) (by rw[size_toArray];exact line) (zero_le _))));have grow:∀b o,(s.heap.update a (Obj.mapSeq λ_=>#[])).get? b=some o->(((s.heap.update a (Obj.mapSeq λ_=>#[])).push (seqObj "tuple" vs.toArray 0)).push (seqObj "list" #[] 0)).get? b=some o:=λb o e=>Heap.get?_push_of_some _ (Heap.get?_push_of_some _ e);have ho6:=grow _ _ ho1;generalize h6:((s.heap.update a (Obj.mapSeq λ_=>#[])).push (seqObj "tuple" vs.toArray 0)).push (seqObj "list" #[] 0)=hp6 at *;have done:∀out:List Value,DO vs ps out->P (.done (.ret .none)) { s with heap:=hp6.update a (Obj.mapSeq λ_=>out.toArray) }:=λout z=>by
  have:=h out z;unfold sortedHeap at this;rw[h6]at this;exact this
 show wpAny (model prog w) A _ P E { s with heap:=hp6 };dsimp only;have pairs6:∀(i:Nat) (v:Value) (p:Int×Int),vs[i]?=some v->ps[i]?=some p->PairAt hp6 v p:=λi v p x y=>by
  obtain⟨x',o,t,u,k,e,q,c,d⟩:=hp i v p x y;exact⟨x',o,t,u,k,e,grow _ _ q,c,d⟩
 by_cases h2:vs.toArray.size<2
 .rw[if_pos h2,if_pos h2];refine wpAny_bind (wpAny_pure ?_);rw[StateT.run_pure];refine wpAny_bind (wpAny_pure ?_);dsimp only;have hout:(arrOf (SortSt.mk' general' (vs.toArray.zip vs.toArray) #[] 7 none)).map (·.2)=vs.toArray:=by
   show(vs.toArray.zip vs.toArray).map (·.2)=vs.toArray;apply Array.toList_inj.mp;simp only[Array.toList_map,Array.toList_zip];exact List.map_snd_zip (le_refl _)
  rw[hout];refine wpAny_bind (seqEpoch_at ho6 rfl (wpAny_bind (listUpdate_at ho6 rfl ?_ (zero_le _) (by rw[size_toArray];omega))));simp only[bne_self_eq_false,Bool.false_eq_true,if_false];refine wpAny_pure (done vs ⟨vs.zip ps,.refl _,?_,?_⟩)
  .have hz:(vs.zip ps).length<2:=by simp at h2 ⊢;omega
   cases hh:vs.zip ps with
   |nil=>exact .nil
   |cons z r=>
    cases r with
    |nil=>exact List.pairwise_singleton _ _
    |cons y t=>rw[hh]at hz;exact absurd hz (by simp)
  .rw[List.map_fst_zip (by omega)]
 .rw[if_neg h2,if_neg h2];have h2':2<=vs.length:=by simp at h2;omega
  obtain⟨fs,t1,t2,t3⟩:=KP hl pairs6;have tT:∀f∈fs,Looks (model prog w) hp6 (typeOf f) (Value.type "int"):=λf hf=>by
   obtain⟨i,t,rfl⟩:=t3 f hf;exact .of_pure rfl
  refine wpAny_bind (kat_kind (s:={ s with heap:=hp6 }) t1 (by omega) tT rfl ?_);have est:SortSt.mk' (tuples' true) (vs.toArray.zip vs.toArray) #[] 7 none=kas_st (tuples' true) (pairsOf vs) (List.toArray (List.range vs.length)):=by
   unfold kas_st;rw[<- pairsOf_size vs,kas_range];rfl
  have ask:(kas_sort vs.length).kasWp (kas_cmp prog w A (tuples' true) (pairsOf vs)) (λp s'=>s'={ s with heap:=hp6 }/\DO vs ps (p.toList.map λi=>vs.getD i Value.none)) { s with heap:=hp6 }:=by
   rw[<- kas_ask_eq];refine PWp.wp (n:=vs.length) (r:=λi=>BU (ps.getD i (0,0))) (P:=λs'=>s'={ s with heap:=hp6 }) (λi j C s' hi hj e hC=>?_) ((Q4 (by omega)).mono λp z s' e=>⟨e,MW hl z.1 z.2⟩) rfl;subst e;have pi:ps[i]?=some (ps.getD i (0,0)):=by simp[show i<ps.length by omega]
   have pj:ps[j]?=some (ps.getD j (0,0)):=by simp[show j<ps.length by omega]
   have vi:vs[i]?=some (vs.getD i Value.none):=by simp[hi]
   have vj:vs[j]?=some (vs.getD j Value.none):=by simp[hj]
   exact S9 (s:={ s with heap:=hp6 }) (pairs6 i _ _ vi pi) (pairs6 j _ _ vj pj) (hok _ (mem_of_getElem? pi)) (hok _ (mem_of_getElem? pj)) (hC _ rfl)
  have run:=kas_runs (E:=E) (Q:=λ_ st' s'=>∃p:Array Nat,p.size=vs.length/\arrOf st'=p.map (kas_item (pairsOf vs))/\failedOf st'=none/\s'={ s with heap:=hp6 }/\DO vs ps (p.toList.map λi=>vs.getD i Value.none)) h2' h64 (λp st' s' x1 x2 x3 x4=>⟨p,x1,x2,x3,x4⟩) ask;rw[<- est]at run;refine wpAny_bind (wpAny_mono run ?_ λ_ _ e=>e);rintro⟨⟨⟩,st'⟩ s' ⟨p,hsz,har,hf,rfl,so⟩;dsimp only;have hout:(arrOf st').map (·.2)=(p.toList.map λi=>vs.getD i Value.none).toArray:=by
   rw[har];apply Array.toList_inj.mp;simp only[Array.toList_map,map_map];exact List.map_congr_left λi _=>congrArg Prod.snd (kas_item_eq vs i)
  rw[hout];refine wpAny_bind (seqEpoch_at ho6 rfl (wpAny_bind (listUpdate_at ho6 rfl ?_ (zero_le _) (by simp[hsz];omega))));rw[hf];simp only[bne_self_eq_false,Bool.false_eq_true,if_false];exact wpAny_pure (done _ so)
end
def PairAt.keep{h h':Heap}{v:Value}{p:Int×Int}(k:∀b o,h.get? b=some o->h'.get? b=some o)(q:PairAt h v p):PairAt h' v p:=by
 obtain⟨x,o,t,u,n,e,ho,c,d⟩:=q;exact⟨x,o,t,u,n,e,k _ _ ho,c,d⟩
section
variable{prog:Program}{w:World}{A:Around}{E:Value->Shared->Prop}{s:Shared}
def JC{l:Addr}{vs:List Value}{ps:List (Int×Int)}{Q:Value->Shared->Prop}(hl:s.heap.IsList l vs.toArray)(hlen:vs.length=ps.length)(h64:vs.length<64)(hok:∀p∈ps,pok p)
 (hp:∀(i:Nat) (v:Value) (p:Int×Int),vs[i]?=some v->ps[i]?=some p->PairAt s.heap v p)
 (h:∀out:List Value,DO vs ps out->Q (.ref (s.heap.objs.size+1)) { s with heap:=sortedAll s.heap vs out.toArray }):
 wpAny (model prog w) A (call (.builtin "sorted") [.ref l]) Q E s:=by
 have line:vs.length<=sizeLine:=by rw[sizeLine_eq];omega
 refine Calls.call_function_entry kind_sorted plain_sorted entry_sorted (args_sorted1 _) ?_;unfold Builtin.«sorted»;refine wpAny_bind (m:=checkCount "sorted" 1 1 _) (wpAny_pure (wpAny_bind (collect_list hl (wpAny_bind (wpAny_newList ?_ line)) line)));have sz:((s.heap.push (seqObj "list" #[] 0)).update s.heap.objs.size (Obj.mapSeq (·++vs.toArray))).objs.size=s.heap.objs.size+1:=by rw[Heap.size_update,size_push']
 have at1:(((s.heap.push (seqObj "list" #[] 0)).update s.heap.objs.size (Obj.mapSeq (·++vs.toArray))).push (seqObj "list" vs.toArray 0)).get? (s.heap.objs.size+1)=some (seqObj "list" vs.toArray 0):=by
  have:=Heap.get?_push_size ((s.heap.push (seqObj "list" #[] 0)).update s.heap.objs.size (Obj.mapSeq (·++vs.toArray))) (o:=seqObj "list" vs.toArray 0) rfl
  rwa [sz]at this
 have old:∀b o,s.heap.get? b=some o->((((s.heap.push (seqObj "list" #[] 0)).update s.heap.objs.size (Obj.mapSeq (·++vs.toArray))).push (seqObj "list" vs.toArray 0)).update (s.heap.objs.size+1) (Obj.mapSeq λ_=>#[])).get? b=some o:=λb o e=>by
  have lt:=Heap.lt_size e;rw[Heap.get?_update_ne _ _ _ _ (ne_of_lt (lt_succ_of_lt lt)),Heap.get?_push_ne _ _ _ (by rw[sz];exact ne_of_lt (lt_succ_of_lt lt)),Heap.get?_update_ne _ _ _ _ (ne_of_lt lt),Heap.get?_push_ne _ _ _ (ne_of_lt lt)];exact e
 show wpAny _ _ _ _ _ { s with heap:=((s.heap.push (seqObj "list" #[] 0)).update s.heap.objs.size (Obj.mapSeq (·++vs.toArray))).push (seqObj "list" vs.toArray 0) };rw[sz];refine wpAny_bind (wpAny_holding (wpAny_call_entry slot_list_sort ⟨_,at1,rfl⟩ entry_list_sort (LM at1 hlen h64 hok (λi v p a b=>(hp i v p a b).keep old) λout z=>⟨_,rfl,?_⟩) (args_list_sort _)));exact wpAny_pure ⟨_,rfl,h out z⟩
end
section
variable(K:PySem.W.Frag){X:Cx}
def G8:List V->Hp->VK->Prop:=λxs H Q=>∃(a:Addr) (us:List V) (ps:List (Int×Int)),xs=[.ref a]/\SqL K H a us/\us.length=ps.length/\us.length<64/\(∀q∈ps,pok q)/\
 (∀(i:Nat) (u:V) (q:Int×Int),us[i]?=some u->ps[i]?=some q->∃x,u=.ref x/\SqT K H x [.int q.1,.int q.2])/\
 ∀(p:Addr) (zs:List (V×(Int×Int))),H p=none->zs.Perm (us.zip ps)->(zs.map λz=>BU z.2).Pairwise (·<=·)->Q (.ref p) (upd H p (.lst (zs.map (·.1))))
def Ec:Value->V
 |.ref x=>.ref x
 |_=>.non
theorem Ix:∀{us:List V} {its:List Value} {i:Nat} {u:V},Vals us its->us[i]?=some u->∃v,its[i]?=some v/\RelV u v
 |_,_,_,_,.nil,h=>by simp at h
 |_::_,_::_,0,_,.cons r _,h=>by
  simp at h;subst h;exact⟨_,rfl,r⟩
 |_::_,_::_,i+1,_,.cons _ t,h=>Ix (i:=i) t (by simpa using h)
def Jv(hK:X.K=K:=by rfl):CallR X (.builtin "sorted") (G8 K):=by
 subst hK;intro pins s σ H xs us0 Q I r h;obtain⟨a,us,ps,rfl,hq,hlen,h64,hok,hpr,q⟩:=h;obtain⟨u,rfl,ru⟩:=CG r;cases ru;obtain⟨its,rv,p,hz⟩:=I.list hq;have hl2:us.length=its.length:=rv.length;have point:∀(i:Nat) (v:Value) (q:Int×Int),its[i]?=some v->ps[i]?=some q->(∃x,us[i]?=some (.ref x)/\v=.ref x)/\PairAt s.heap v q:=by
  intro i v q e1 e2;have hi:i<us.length:=by rw[hl2];exact(List.getElem?_eq_some_iff.mp e1).1
  have eu:us[i]?=some us[i]:=by simp[hi]
  obtain⟨x,ex,sq⟩:=hpr i _ q eu e2;obtain⟨v',ev,rel⟩:=Ix rv eu;rw[e1]at ev;cases ev;rw[ex]at rel eu;have rel:v=Value.ref x:=rel;subst rel;refine⟨⟨x,eu,rfl⟩,?_⟩;obtain⟨jts,rj,⟨o,ho,hc,n,hd⟩,_⟩:=I.tuple sq;cases rj with
  |cons r1 t1=>
   cases t1 with
   |cons r2 t2=>
    cases t2;obtain⟨t,rfl⟩:=r1;obtain⟨t',rfl⟩:=r2;exact⟨x,o,t,t',n,rfl,ho,hc,hd⟩
 refine JC (ps:=ps) p.isList (by omega) (by omega) hok (λi v q a b=>(point i v q a b).2) λout z=>?_;obtain⟨zs,pm,pw,rfl⟩:=z;obtain⟨e,he⟩:=sortedAll_at s.heap its (zs.map (·.1)).toArray;have mz:∀z∈zs,∃x,z.1=.ref x:=λz hz=>by
  have:=pm.mem_iff.mp hz;obtain⟨i,hi⟩:=mem_iff_getElem?.mp this;obtain⟨e1,e2⟩:=List.getElem?_zip_eq_some.mp hi;obtain⟨⟨x,_,ex⟩,_⟩:=point i _ _ e1 e2;exact⟨x,ex⟩
 have vz:∀{zs:List (Value×(Int×Int))},(∀z∈zs,∃x,z.1=.ref x)->Vals (zs.map λz=>Ec z.1) (zs.map (·.1)):=by
  intro zs
  induction zs with
  |nil=>intro _;exact .nil
  |cons z r ih=>
   intro h;obtain⟨x,ex⟩:=h z mem_cons_self;refine .cons ?_ (ih λy hy=>h y (mem_cons_of_mem _ hy));show RelV (Ec z.1) z.1;rw[ex];rfl
 have pm2:(zs.map λz=>(Ec z.1,z.2)).Perm (us.zip ps):=by
  have:=pm.map λz:Value×(Int×Int)=>(Ec z.1,z.2)
  have e:((its.zip ps).map λz:Value×(Int×Int)=>(Ec z.1,z.2))=us.zip ps:=by
   refine ext_getElem? λi=>?_;by_cases hi:i<us.length
   .have h1:i<its.length:=by omega
    have h2:i<ps.length:=by omega
    have e1:its[i]?=some its[i]:=by simp[h1]
    have e2:ps[i]?=some ps[i]:=by simp[h2]
    obtain⟨⟨x,ex,ev⟩,_⟩:=point i _ _ e1 e2;rw[List.getElem?_map,(List.getElem?_zip_eq_some (z:=(its[i],ps[i]))).mpr ⟨e1,e2⟩,(List.getElem?_zip_eq_some (z:=(V.ref x,ps[i]))).mpr ⟨ex,e2⟩,map_some,ev];rfl
   .rw[List.getElem?_eq_none (by simp;omega),List.getElem?_eq_none (by simp;omega)]
  rwa [e]at this
 have pw2:((zs.map λz=>(Ec z.1,z.2)).map λz:V×(Int×Int)=>BU z.2).Pairwise (·<=·):=by rw[map_map];exact pw
 have fin:=q (s.heap.objs.size+1) _ (I.hok.fresh (le_succ _)) pm2 pw2;have em:(zs.map λz=>(Ec z.1,z.2)).map (·.1)=zs.map λz=>Ec z.1:=by rw[map_map];rfl
 rw[em]at fin;have zl:zs.length<64:=by rw[pm.length_eq];simp;omega
 refine⟨.ref (s.heap.objs.size+1),_,I.laid (a:=s.heap.objs.size+1) (o:=.lst (zs.map λz=>Ec z.1)) (t':=s.toks) (λb o hb=>sortedAll_old hb) (le_succ _) ⟨?_,_,e,vz mz,he⟩,rfl,fin⟩;rw[length_map];exact le_of_lt (Hm (by omega))
end
def AU(p:Int×Int):D:=.im (.tup [.int p.1,.int p.2])
def CW:List D->Option (List (Int×Int))
 |[]=>some []
 |.im (.tup [.int a,.int b])::r=>(CW r).map ((a,b)::·)
 |_=>none
def Ms:∀{ds:List D} {ps:List (Int×Int)},CW ds=some ps->ds=ps.map AU:=by
 intro ds
 induction ds with
 |nil=>intro ps h;simp[CW]at h;subst h;rfl
 |cons d r ih=>
  intro ps h;unfold CW at h;split at h
  .next e=>cases e
  .next a b r' e=>
   cases e;obtain⟨qs,e1,rfl⟩:=Ye h;rw[ih e1];rfl
  .cases h
@[simp] theorem Lf(ps:List (Int×Int)):CW (ps.map AU)=some ps:=by
 induction ps with
 |nil=>rfl
 |cons p r ih=>simp[CW,AU]at ih ⊢;exact ih
def CS(ps:List (Int×Int)):List (Int×Int):=ps.mergeSort λa b=>decide (BU a<=BU b)
def EX(ps:List (Int×Int)):(CS ps).Perm ps:=List.mergeSort_perm ..
def F7(ps:List (Int×Int)):(CS ps).Pairwise λa b=>BU a<=BU b:=by
 have:=List.pairwise_mergeSort (le:=λa b:Int×Int=>decide (BU a<=BU b)) (by intro a b c h1 h2;simp at *;omega) (by intro a b;simp;omega) ps;exact this.imp (by simp)
def OT{p q:Int×Int}(a:pok p)(b:pok q)(h:BU p=BU q):p=q:=by
 unfold pok at a b;unfold BU at h;exact Prod.ext (by omega) (by omega)
open Classical in
def Cm(m:MI):MA:=λls hd=>(m ls hd).bind λp=>(CW p.1.1).bind λps=>if ps.length<64/\∀q∈ps,pok q then some ((CS ps).map AU,p.2)else none
section
variable{K:PySem.W.Frag}{ρ:List Addr}{H:Hp}{hd:Hd}
def Qe{p:Int×Int}{v:V}(h:RD K ρ H (AU p) v):∃x,v=.ref x/\SqT K H x [.int p.1,.int p.2]:=by
 simp only[AU,RD,RI,RIs]at h;obtain⟨a,xs,rfl,q,x,r,rfl,rfl,y,r2,rfl,rfl,rfl⟩:=h;exact⟨a,rfl,q⟩
def LR{t:TE}{m:MI}(h:RRw K false t m):RN K (tCB (G8 K) (BF t C6)) (Cm m):=by
 and_intros;obtain⟨⟨⟨d1,g1⟩,h1⟩,e1,hm⟩:=Yd hm;obtain⟨ps,e2,hm⟩:=Yd hm;split at hm
 .next c=>
  cases hm;refine h ρ σ H hd ls _ d1 g1 _ hR hL e1 λρ1 H1 a x1 R1 G1 S1=>?_;obtain⟨xs,q,r⟩:=S1 ρ1 H1 _ .refl R1 G1;have e2:CW d1=some ps:=e2;rw[Ms e2]at r;have hl:xs.length=ps.length:=by simpa using r.len
  have each:∀(i:Nat) (u:V) (q:Int×Int),xs[i]?=some u->ps[i]?=some q->RD K ρ1 H1 (AU q) u:=λi u q a b=>by
   obtain⟨x,e,z⟩:=r.get (i:=i) (d:=AU q) (by simp[b]);rw[a]at e;cases e;exact z
  refine⟨a,xs,ps,rfl,q,hl,by rw[hl];exact c.1,c.2,λi u q a b=>Qe (each i u q a b),λp zs hp pm pw=>?_⟩;have es:zs.map (·.2)=CS ps:=by
   have pp:(zs.map (·.2)).Perm ps:=by
    have:=pm.map (λz:V×(Int×Int)=>z.2)
    rwa [List.map_snd_zip (by omega)]at this
   refine(pp.trans (EX ps).symm).eq_of_pairwise (le:=λa b=>BU a<=BU b) (λx y hx hy l1 l2=>OT (c.2 _ (pp.mem_iff.mp hx)) (c.2 _ ((EX ps).mem_iff.mp hy)) (Int.le_antisymm l1 l2)) ?_ (F7 ps);rw[List.pairwise_map]at pw ⊢;exact pw
  obtain⟨R2,x2⟩:=R1.hid (ho:=.lst (zs.map (·.1))) hp;have all:∀z∈zs,RD K ρ1 H1 (AU z.2) z.1:=λz hz=>by
   obtain⟨i,hi⟩:=mem_iff_getElem?.mp (pm.mem_iff.mp hz);obtain⟨a1,a2⟩:=List.getElem?_zip_eq_some.mp hi;exact each i _ _ a1 a2
  have rd:∀{zs:List (V×(Int×Int))},(∀z∈zs,RD K ρ1 H1 (AU z.2) z.1)->RDs K ρ1 H1 ((zs.map (·.2)).map AU) (zs.map (·.1)):=by
   intro zs
   induction zs with
   |nil=>intro _;exact .nil
   |cons z r ih=>intro h;exact .cons (h z mem_cons_self) (ih λy hy=>h y (mem_cons_of_mem _ hy))
  have rz:=rd all;rw[es]at rz;exact hQ ρ1 _ p _ (x1.trans R1 x2) R2 (x1.none hR hp R1) (R1.out hp) AE (rz.ext R1 x2)
 .cases hm
open Classical in
def V8:D->List D->Hd->Option (D×Hd)
 |.mu n,[.im (.int i)],hd=>match hd[n]? with
  |some (.lst ds)=>if HE i then(ixN ds.length i).bind λk=>(ds[k]?).map λy=>(y,hd.set n (.lst (ds.eraseIdx k)))else none
  |_=>none
 |_,_,_=>none
end
section
variable(K:PySem.W.Frag){X:Cx}{e:Expr}{te:TE}{p pos:Pos}
def LY{mi:MI}(hm:X.mg "sorted"=none)(ha:QR K false X e te mi)(hg:Gl X "sorted":=by rfl)(he:starEach [e] X.env=[(false,eval e X.env)]:=by rfl)(hK:X.K=K:=by rfl):QN K X (.Call (.Name "sorted" p) [e] [] pos) (tCB (G8 K) (BF te C6)) (Cm mi):=
 ⟨Ee (Jv K hK) hg hm IJ (C0 ha.p D9 he) (by decide) (by decide) he rfl,LR ha.r⟩
end
section
variable{ls:Ls}{hd:Hd}
open Classical in
@[simp] theorem Ww(k:Nat)(i:Int):V8 (.mu k) [.im (.int i)] hd=match hd[k]? with
 |some (.lst ds)=>if HE i then(ixN ds.length i).bind λj=>(ds[j]?).map λy=>(y,hd.set k (.lst (ds.eraseIdx j)))else none
 |_=>none:=rfl
open Classical in
@[simp] theorem M1(mi:MI):Cm mi ls hd=(mi ls hd).bind λp=>(CW p.1.1).bind λps=>if ps.length<64/\∀q∈ps,pok q then some ((CS ps).map AU,p.2)else none:=rfl
end
def Mt(p:Int×Int):I:=.tup [.int p.1,.int p.2]
end L2
namespace L2
open PySem PySem.Spec PyProof.Rows
def WP{α:Type}(o:Option (α×Hd))(Q:α->Hd->Prop):Prop:=∃z h,o=some (z,h)/\Q z h
abbrev WS(m:MS)(ls:Ls)(hd:Hd)(Q:Fl->Hd->Prop):Prop:=WP (m ls hd) Q
abbrev WE(m:ME)(ls:Ls)(hd:Hd)(Q:D->Hd->Prop):Prop:=WP (m ls hd) Q
abbrev WT(m:MT)(ls:Ls)(hd:Hd)(Q:Bool->Hd->Prop):Prop:=WP (m ls hd) Q
abbrev WA(m:MA)(ls:Ls)(hd:Hd)(Q:List D->Hd->Prop):Prop:=WP (m ls hd) Q
abbrev WO(m:MO1)(ls:Ls)(hd:Hd)(Q:Option Int->Hd->Prop):Prop:=WP (m ls hd) Q
abbrev WI(m:MI)(ls:Ls)(hd:Hd)(Q:List D×Gd->Hd->Prop):Prop:=WP (m ls hd) Q
abbrev WF(F:List D->Hd->Option (D×Hd))(ds:List D)(hd:Hd)(Q:D->Hd->Prop):Prop:=WP (F ds hd) Q
section
variable{α β:Type}{o:Option (α×Hd)}{Q:α->Hd->Prop}{R:β->Hd->Prop}{ls:Ls}{hd:Hd}{d e:D}
theorem WP.some{z:α}{h:Hd}(q:Q z h):WP (some (z,h)) Q:=⟨z,h,rfl,q⟩
def WP.mono{Q':α->Hd->Prop}(h:WP o Q)(k:∀z h,Q z h->Q' z h):WP o Q':=let ⟨z,x,e,q⟩:=h;⟨z,x,e,k z x q⟩
theorem WP.bind{f:α×Hd->Option (β×Hd)}(h:WP o λz x=>WP (f (z,x)) R):WP (o.bind f) R:=by
 obtain⟨z,x,e,q⟩:=h;rw[e];exact q
def WP.eq{z:α}{h:Hd}(e:o=Option.some (z,h))(q:Q z h):WP o Q:=⟨z,h,e,q⟩
end
section
variable{ls:Ls}{hd:Hd}{a b:MS}{ma mb mc:ME}{ta tb:MT}{m m1 m2:MA}{n:MG}{ns:MGs}{mi:MI}{d e:D}{i j:Nat}{QS:Fl->Hd->Prop}{QE:D->Hd->Prop}{QT:Bool->Hd->Prop}{QA:List D->Hd->Prop}{QO:Option Int->Hd->Prop}{QI:List D×Gd->Hd->Prop}
def PJ(b:MS)(Q:Fl->Hd->Prop):Fl->Hd->Prop
 |.nx l,h=>WS b l h Q
 |f,h=>Q f h
def AD(h:WS a ls hd (PJ b QS)):WS (AA a b) ls hd QS:=by
 obtain⟨f,x,e,q⟩:=h;show WP (AA a b ls hd) QS;rw[N9,e];cases f<;>first|exact q|exact⟨_,_,rfl,q⟩
def A5{l:Ls}{h:Hd}(q:WS b l h QS):PJ b QS (.nx l) h:=q
def Ak(h:QS (.nx ls) hd):WS Ao ls hd QS:=⟨_,_,rfl,h⟩
def Ad(h:WE ma ls hd λd x=>QS (.rt d) x):WS (AY ma) ls hd QS:=WP.bind (h.mono λ_ _ q=>WP.some q)
def AX(h:WE ma ls hd λd x=>QS (.nx (ls.set i (some d))) x):WS (AM i ma) ls hd QS:=by
 obtain⟨d,x,e,q⟩:=h;exact⟨_,_,by simp only[Jl,e,bind_some,Kl,map_some],q⟩
def Ir(h:WE ma ls hd λd x=>∃l,n d ls x=some l/\QS (.nx l) x):WS (FL ma n) ls hd QS:=by
 obtain⟨d,x,e,l,e2,q⟩:=h;exact⟨_,_,by simp only[Jl,e,bind_some,e2,map_some],q⟩
def E8(h:WE ma ls hd λ_ x=>QS (.nx ls) x):WS (Cb ma) ls hd QS:=WP.bind (h.mono λ_ _ q=>WP.some q)
def VU(h:WT ta ls hd λc x=>if c=true then WS a ls x QS else WS b ls x QS):WS (B8 ta a b) ls hd QS:=by
 refine WP.bind (h.mono λc x q=>?_);dsimp only;cases c<;>simpa using q
def B1(h:WT ta ls hd λc x=>(c=true->WS a ls x QS)/\(c=false->WS b ls x QS)):WS (B8 ta a b) ls hd QS:=
 VU (h.mono λc x q=>by cases c<;>simp_all)
def WL(n:MG)(b:MS)(g:Gd)(ds:List D)(ls:Ls)(hd:Hd)(Q:Fl->Hd->Prop):Prop:=WP (B4 n b g ds ls hd) Q
def D4(h:WI mi ls hd λp x=>WL n b p.2 p.1 ls x QS):WS (Ca mi n b) ls hd QS:=WP.bind (h.mono λ_ _ q=>q)
def VY(g:Gd)(P:Ls->Hd->Prop)(Q:Fl->Hd->Prop):Fl->Hd->Prop
 |.nx l,h=>GOk h g/\P l h
 |.ct l,h=>GOk h g/\P l h
 |.bk l,h=>Q (.nx l) h
 |.rt d,h=>Q (.rt d) h
theorem C8{g:Gd}(P:List D->Ls->Hd->Prop):∀{ds:List D} {ls:Ls} {hd:Hd},P ds ls hd ->
 (∀d r ls hd,P (d::r) ls hd->∃ls1,n d ls hd=some ls1/\WS b ls1 hd (VY g (P r) QS))->(∀ls hd,P [] ls hd->QS (.nx ls) hd)->WL n b g ds ls hd QS
 |[],ls,hd,h,_,z=>⟨_,_,by unfold B4;rfl,z _ _ h⟩
 |d::r,ls,hd,h,k,z=>by
  obtain⟨ls1,e1,f,x,e2,q⟩:=k d r ls hd h;unfold WL;unfold B4;rw[e1,bind_some,e2,bind_some];cases f with
  |nx l=>exact(show GOk x g/\P r l x from q).1 |> λg1=>by dsimp only;rw[if_pos g1];exact C8 P q.2 k z
  |ct l=>exact(show GOk x g/\P r l x from q).1 |> λg1=>by dsimp only;rw[if_pos g1];exact C8 P q.2 k z
  |bk l=>exact⟨_,_,rfl,q⟩
  |rt l=>exact⟨_,_,rfl,q⟩
def A1(h:ls[i]?=some (some d))(q:QE d hd):WE (A0 i) ls hd QE:=⟨d,hd,by rw[N8,h],q⟩
def AI{i:I}(q:QE (.im i) hd):WE (mC i) ls hd QE:=⟨_,_,rfl,q⟩
def A9{f:D->D->Hd->Option (D×Hd)}(h:WE ma ls hd λd x=>WE mb ls x λe y=>WP (f d e y) QE):WE (mOp f ma mb) ls hd QE:=WP.bind (h.mono λ_ _ q=>WP.bind (q.mono λ_ _ q=>q))
def CP(h:WA m ls hd λds x=>BO ds.length/\QE (AV ds) x):WE (Bv m) ls hd QE:=WP.bind (h.mono λds x q=>by dsimp only;rw[if_pos q.1];exact WP.some q.2)
def BL(h:WA m ls hd λds x=>QE (.mu x.length) (x++[.lst ds])):WE (Ah m) ls hd QE:=WP.bind (h.mono λ_ _ q=>WP.some q)
def DQ{g:List D->Option D}(h:WA m ls hd λds x=>∃d,g ds=some d/\QE d x):WE (Bn g m) ls hd QE:=by
 obtain⟨ds,x,e,d,e2,q⟩:=h;exact⟨d,x,by simp only[VG,e,bind_some,e2,map_some],q⟩
def ML(h:WA m ls hd λds x=>WE ma ls x λe y=>∃i d,e=.im (.int i)/\atI ds i=some d/\QE d y):WE (GF m ma) ls hd QE:=by
 obtain⟨ds,x,e,d,y,e2,i,z,rfl,e4,q⟩:=h;exact⟨z,y,by simp only[VC,e,bind_some,e2,e4,map_some],q⟩
def Bp{f:List D->Hd->Option (D×Hd)}(h:WA m ls hd λds x=>WP (f ds x) QE):WE (mCB f m) ls hd QE:=WP.bind (h.mono λ_ _ q=>q)
def PB{f:D->List D->Hd->Option (D×Hd)}(h:WE ma ls hd λd x=>(∃l,Aa x d=some l)/\WA m ls x λds y=>WP (f d ds y) QE):WE (mMt f ma m) ls hd QE:=by
 obtain⟨d,x,e,⟨l,hl⟩,q⟩:=h;unfold WE;rw[WD,e,bind_some];dsimp only;rw[hl];exact WP.bind (q.mono λ_ _ q=>q)
def Fz{F:List D->Hd->Option (D×Hd)}(h:WA m ls hd λds x=>WF F ds x QE):WE (CA F m) ls hd QE:=WP.bind (h.mono λ_ _ q=>q)
def Iw(h:WE ma ls hd λd x=>∃i,d=.im (.int i)/\QE (.im (.int (-i))) x):WE (Dr ma) ls hd QE:=by
 obtain⟨d,x,e,i,rfl,q⟩:=h;exact⟨_,x,by simp only[VB,e,bind_some],q⟩
def EB(h:WT (AH ma) ls hd λc x=>if c=true then WE mb ls x QE else QE (.im (.bl false)) x):WE (Cv ma mb) ls hd QE:=by
 refine WP.bind (h.mono λc x q=>?_);dsimp only;cases c
 .exact WP.some (by simpa using q)
 .simpa using q
def Pu(h:WT (AH ma) ls hd λc x=>QE (.im (.bl (!c))) x):WE (Fc ma) ls hd QE:=WP.bind (h.mono λ_ _ q=>WP.some q)
def AR(h:WE ma ls hd λd x=>∃b,d=.im (.bl b)/\QT b x):WT (AH ma) ls hd QT:=by
 obtain⟨d,x,e,b,rfl,q⟩:=h;exact⟨b,x,by simp only[SR,e,bind_some],q⟩
def B0(h:WE ma ls hd λd x=>∃b,C5 x d=some b/\QT b x):WT (BN ma) ls hd QT:=by
 obtain⟨d,x,e,b,e2,q⟩:=h;exact⟨b,x,by simp only[V9,e,bind_some,e2,map_some],q⟩
def Br(h:WT ta ls hd λc x=>QT (!c) x):WT (CN ta) ls hd QT:=WP.bind (h.mono λ_ _ q=>WP.some q)
def Iq(h:WT ta ls hd λc x=>if c=true then WT tb ls x QT else QT false x):WT (Ej ta tb) ls hd QT:=by
 refine WP.bind (h.mono λc x q=>?_);dsimp only;cases c
 .exact WP.some (by simpa using q)
 .simpa using q
def Cs(h:WT ta ls hd λc x=>if c=true then QT true x else WT tb ls x QT):WT (mOr ta tb) ls hd QT:=by
 refine WP.bind (h.mono λc x q=>?_);dsimp only;cases c
 .simpa using q
 .exact WP.some (by simpa using q)
def BS(h:QT true hd):WT BI ls hd QT:=⟨_,_,rfl,h⟩
def A7(h:QA [] hd):WA A8 ls hd QA:=⟨_,_,rfl,h⟩
def A3(h:WE ma ls hd λd x=>WA m ls x λds y=>QA (d::ds) y):WA (A2 ma m) ls hd QA:=WP.bind (h.mono λ_ _ q=>WP.bind (q.mono λ_ _ q=>WP.some q))
def D6(h:WA m ls hd λds x=>BO ds.length/\QA ds x):WA (CY m) ls hd QA:=WP.bind (h.mono λds x q=>by dsimp only;rw[if_pos q.1];exact WP.some q.2)
def VW(h:QO none hd):WO DL ls hd QO:=⟨_,_,rfl,h⟩
def Ps(h:WE ma ls hd λd x=>∃i,d=.im (.int i)/\QO (some i) x):WO (Fb ma) ls hd QO:=by
 obtain⟨d,x,e,i,rfl,q⟩:=h;exact⟨_,x,by simp only[SS,e,bind_some],q⟩
def Kx(h:WA m ls hd λds x=>∃k,ds=[.im (.int k)]/\HE k/\QI (Ae 0 k.toNat,[]) x):WI (Ds m) ls hd QI:=by
 obtain⟨ds,x,e,k,rfl,c,q⟩:=h;exact⟨_,x,by simp only[VD,e,bind_some,c,if_true],q⟩
def Bs(h:WE ma ls hd λd x=>∃ds,AZ d=some ds/\QI (ds,[]) x):WI (Ai ma) ls hd QI:=by
 obtain⟨d,x,e,ds,e2,q⟩:=h;exact⟨_,x,by simp only[NA,e,bind_some,e2,map_some],q⟩
def NR(h:WA m ls hd λds x=>QI (ds,[]) x):WI (Dc m) ls hd QI:=by
 obtain⟨ds,x,e,q⟩:=h;exact⟨_,x,by simp only[VF,e,map_some],q⟩
def Iu(h:WE ma ls hd λd x=>∃k ds,d=.mu k/\x[k]?=some (.lst ds)/\QI (ds,[(k,ds)]) x):WI (Co ma) ls hd QI:=by
 obtain⟨d,x,e,k,ds,rfl,e2,q⟩:=h;exact⟨_,x,by simp only[VE,e,bind_some,e2],q⟩
def Al{k:Nat}{ix:List Nat}(h:WI mi ls hd λp x=>BO p.1.length/\WP (Ag n ta ma p.2 p.1 (D0 k ix ls) x) QA):WA (Ab k ix mi n ta ma) ls hd QA:=WP.bind (h.mono λp x q=>by dsimp only;rw[if_pos q.1];exact q.2)
def E9{i j:Int}(q:QE (.im (.int (i+j))) hd):WP (BR (.im (.int i)) (.im (.int j)) hd) QE:=⟨_,_,by simp,q⟩
def DP{i j:Int}(q:QE (.im (.int (i-j))) hd):WP (Cd (.im (.int i)) (.im (.int j)) hd) QE:=⟨_,_,by simp,q⟩
def GQ{i j:Int}(q:QE (.im (.bl (decide (i<j)))) hd):WP (gLt (.im (.int i)) (.im (.int j)) hd) QE:=⟨_,_,by simp,q⟩
def GR{i j:Int}(q:QE (.im (.bl (decide (i<=j)))) hd):WP (gLe (.im (.int i)) (.im (.int j)) hd) QE:=⟨_,_,by simp,q⟩
def IY{i j:Int}(q:QE (.im (.bl (decide (j<i)))) hd):WP (gGt (.im (.int i)) (.im (.int j)) hd) QE:=⟨_,_,by simp,q⟩
def Kw{i j:Int}(q:QE (.im (.bl (decide (j<=i)))) hd):WP (gGe (.im (.int i)) (.im (.int j)) hd) QE:=⟨_,_,by simp,q⟩
def F3{i j:Int}(q:QE (.im (.bl (decide (i=j)))) hd):WP (gEq (.im (.int i)) (.im (.int j)) hd) QE:=⟨_,_,by simp,q⟩
def MK{i j:Int}(q:QE (.im (.bl (!decide (i=j)))) hd):WP (gNe (.im (.int i)) (.im (.int j)) hd) QE:=⟨_,_,by simp,q⟩
def Sc{i j:Str}(q:QE (.im (.bl (!decide (i=j)))) hd):WP (gNe (.im (.str i)) (.im (.str j)) hd) QE:=⟨_,_,by simp,q⟩
def AT{i:Int}{ds:List D}(e1:Am hd d=some ds)(e2:atI ds i=some e)(q:QE e hd):WP (gIx d (.im (.int i)) hd) QE:=⟨_,_,by rw[WG,e1,bind_some,e2];rfl,q⟩
def Pr{i j:Int}(q:QE (.im (.int (max i j))) hd):WP (Es [.im (.int i),.im (.int j)] hd) QE:=⟨_,_,rfl,by have:(if j>i then j else i)=max i j:=(by split<;>omega);rw[this];exact q⟩
def Bz{tp:Bool}{g:List D->Option D}{ds:List D}{z:D}(e1:(if tp then Am hd d else Aa hd d)=some ds)(e2:g ds=some z)(q:QE z hd):WP (f1 tp g [d] hd) QE:=⟨_,_,by rw[WH,e1,bind_some,e2];rfl,q⟩
def Is{k:Nat}{x:D}{ds:List D}(e1:hd[k]?=some (.lst ds))(c:Er ds.length)(q:QE (.im .non) (hd.set k (.lst (ds++[x])))):WP (BV (.mu k) [x] hd) QE:=⟨_,_,by rw[VI,e1];simp only[c,if_true],q⟩
def Gy(h:WE mc ls hd λp x=>WE ma ls x λq y=>WE mb ls y λr z=>∃w i j ds,q=.mu w/\r=.im (.int i)/\z[w]?=some (.lst ds)/\ixN ds.length i=some j/\QS (.nx ls) (z.set w (.lst (ds.set j p)))):WS (CZ ma mb mc) ls hd QS:=by
 obtain⟨p,x,e1,q,y,e2,r,z,e3,w,i,j,ds,rfl,rfl,e5,c,qq⟩:=h;exact⟨_,_,by simp only[SU,e1,bind_some,e2,e3,e5,c,map_some],qq⟩
def As{k n:Nat}{m:MS}{ds:List D}{Q:D->Hd->Prop}(hl:ds.length=k)(h:WS m (ds.map some++List.replicate (n-k) none) hd λf x=>match f with
 |.rt d=>Q d x
 |.nx _=>Q (.im .non) x
 | _=>False):WF (mkF k n m) ds hd Q:=by
 obtain⟨f,x,e,q⟩:=h;unfold WF mkF;rw[if_pos hl,e];cases f with
 |nx l=>exact⟨_,_,rfl,q⟩
 |rt l=>exact⟨_,_,rfl,q⟩
 |bk l=>exact q.elim
 |ct l=>exact q.elim
def AW{F:List D->Hd->Option (D×Hd)}(h:WA m ls hd λds x=>Ar 0 ds=true/\WF F ds [] λd _=>∃i,d=.im i/\QE (.im i) x):WE (AF 0 F m) ls hd QE:=by
 obtain⟨ds,x,e,c,d,y,e2,i,rfl,q⟩:=h;exact⟨_,_,NI e c e2,q⟩
end
structure Tap(T:Nat->MO->MO->Prop)(P:List D->Hd->Option (D×Hd)):Prop where
 cl:∀{k:Nat} {a b:MO},T k a b->clO 2 a=true/\clO 2 b=true
 le:∀{j k:Nat} {a b:MO},T k a b->j<=k->T j a b
 pick:∀{k:Nat} {a b:MO} {many:Int},T (k+1) a b->0<many->many<1073741824->∃r a' b',0<=r/\r<many/\P [.mu 1,.im (.int many)] [a,b]=some (.im (.int r),[a',b'])/\T k a' b'
section
variable{T:Nat->MO->MO->Prop}{P:List D->Hd->Option (D×Hd)}{a b:MO}{rest:Hd}{ls:Ls}{m:MA}{QE:D->Hd->Prop}{n c:Nat}
def Tap.draw(t:Tap T P)(hT:T (n+1) a b){many:Int}{hd:Hd}(e:m ls hd=some ([.mu 1,.im (.int many)],a::b::rest))(h0:0<many)(h1:many<1073741824)
 (k:∀r a' b',T n a' b'->0<=r->r<many->QE (.im (.int r)) (a'::b'::rest)):WE (AF 2 P m) ls hd QE:=by
 obtain⟨r,a',b',p1,p2,e2,hT'⟩:=t.pick hT h0 h1;refine⟨_,_,Jz (w:=2) (ds:=[.mu 1,.im (.int many)]) (pre:=[a,b]) (pre':=[a',b']) (rest:=rest) (g:=[]) rfl rfl e (by simp) ?_ ?_ (by simpa using e2),k r a' b' hT' p1 p2⟩
 .simp[t.cl hT]
 .simp[t.cl hT']
end
mutual
theorem Js{v w:Nat}(h:v<=w):∀{d:D},clD v d=true->clD w d=true
 |.im i,_=>by simp
 |.mu n,c=>by simp at c ⊢;omega
 |.tm ds,c=>by rw[clD]at c ⊢;exact DF h c
 |.ro ns,_=>by rw[clD]
 |.op _ _ ds,c=>by rw[clD]at c ⊢;exact DF h c
 |.fv _ ds,c=>by rw[clD]at c ⊢;exact DF h c
theorem DF{v w:Nat}(h:v<=w):∀{ds:List D},Ar v ds=true->Ar w ds=true
 |[],_=>by simp
 |d::ds,c=>by
  simp only[NF,Bool.and_eq_true]at c ⊢;exact⟨Js h c.1,DF h c.2⟩
end
theorem ID{v w:Nat}(h:v<=w):∀{ds:List (Key×D)},E4 v ds=true->E4 w ds=true
 |[],_=>by simp[E4]
 |d::ds,c=>by
  simp only[E4,Bool.and_eq_true]at c ⊢;exact⟨Js h c.1,ID h c.2⟩
def P5{v w:Nat}(h:v<=w){o:MO}(c:clO v o=true):clO w o=true:=by
 cases o with
 |lst ds=>exact DF h c
 |dic ds=>exact ID h c
section
variable{T:Nat->MO->MO->Prop}{P:List D->Hd->Option (D×Hd)}{a b:MO}{rest:Hd}{ls:Ls}{m:MA}{QE:D->Hd->Prop}
def Tap.callX(t:Tap T P){n c:Nat}(hT:T (n+c) a b)(ex:Hd){w:Nat}{F:List D->Hd->Option (D×Hd)}{as:List D}{hd:Hd}{R:I->Prop}(e:m ls hd=some (.mu 1::as,a::b::(ex++rest)))(hw:w=ex.length+2)(ha:Ar w as=true)(hx:ex.all (clO w)=true)
 (hF:∀a b,T (n+c) a b->WF F (.mu 1::as) (a::b::ex) λd x=>∃i a' b' g,d=.im i/\R i/\T n a' b'/\x=a'::b'::(ex++g))
 (k:∀i a' b',T n a' b'->R i->QE (.im i) (a'::b'::(ex++rest))):WE (AF w F m) ls hd QE:=by
 subst hw;have hcl:∀o,clO 2 o=true->clO (ex.length+2) o=true:=λo h=>P5 (by omega) h;obtain⟨d,x,e2,i,a',b',g,rfl,hR,hT',rfl⟩:=hF a b hT;refine⟨_,_,Jz (w:=ex.length+2) (ds:=.mu 1::as) (pre:=a::b::ex) (pre':=a'::b'::ex) (rest:=rest) (g:=g) rfl rfl e (by simp[ha]) ?_ ?_ e2,k i a' b' hT' hR⟩
 .simp[hcl _ (t.cl hT).1,hcl _ (t.cl hT).2];simpa using hx
 .simp[hcl _ (t.cl hT').1,hcl _ (t.cl hT').2];simpa using hx
def Tap.call(t:Tap T P){n c:Nat}(hT:T (n+c) a b){F:List D->Hd->Option (D×Hd)}{as:List D}{hd:Hd}{R:I->Prop}(e:m ls hd=some (.mu 1::as,a::b::rest))(ha:Ar 2 as=true)
 (hF:∀a b,T (n+c) a b->WF F (.mu 1::as) [a,b] λd x=>∃i a' b' g,d=.im i/\R i/\T n a' b'/\x=a'::b'::g)
 (k:∀i a' b',T n a' b'->R i->QE (.im i) (a'::b'::rest)):WE (AF 2 F m) ls hd QE:=
 t.callX hT [] (w:=2) e rfl ha rfl hF k
end
end L2
namespace L2
open PySem PySem.Spec PyProof.Rows
section
variable{ls:Ls}{hd:Hd}{b:MS}{c:MT}{Q:Fl->Hd->Prop}{QE:D->Hd->Prop}
def VX(P:Ls->Hd->Prop)(Q:Fl->Hd->Prop):Fl->Hd->Prop
 |.nx l,h=>P l h
 |.ct l,h=>P l h
 |.bk l,h=>Q (.nx l) h
 |.rt d,h=>Q (.rt d) h
def NQ(P:Nat->Ls->Hd->Prop){n:Nat}(h:P n ls hd)
 (k:∀n ls hd,P n ls hd->WT c ls hd λt x=>if t=true then WS b ls x (VX (λl y=>∃m,m<n/\P m l y) Q)else Q (.nx ls) x):WS (Db c b) ls hd Q:=by
 have go:∀n ls hd,P n ls hd->∃j r,Ap c b j ls hd=some r/\Q r.1 r.2:=by
  intro n
  induction n using Nat.strongRecOn with
  |ind n ih=>
   intro ls hd h;obtain⟨t,x,e1,q⟩:=k n ls hd h;cases t with
   |false=>
    rw[if_neg Bool.false_ne_true]at q;exact⟨1,(.nx ls,x),by unfold Ap;rw[e1];rfl,q⟩
   |true=>
    rw[if_pos rfl]at q;obtain⟨f,y,e2,q⟩:=q;cases f with
    |nx l=>
     obtain⟨m,hm,p⟩:=q;obtain⟨j,r,e3,q3⟩:=ih m hm l y p;exact⟨j+1,r,by unfold Ap;rw[e1,bind_some,if_pos rfl,e2];exact e3,q3⟩
    |ct l=>
     obtain⟨m,hm,p⟩:=q;obtain⟨j,r,e3,q3⟩:=ih m hm l y p;exact⟨j+1,r,by unfold Ap;rw[e1,bind_some,if_pos rfl,e2];exact e3,q3⟩
    |bk l=>exact⟨1,(.nx l,y),by unfold Ap;rw[e1,bind_some,if_pos rfl,e2];rfl,q⟩
    |rt d=>exact⟨1,(.rt d,y),by unfold Ap;rw[e1,bind_some,if_pos rfl,e2];rfl,q⟩
 obtain⟨j,⟨f,x⟩,e,q⟩:=go n ls hd h;exact⟨f,x,N0 e,q⟩
end
end L2
namespace Bd
open PySem L2
@[reducible] def HR:MS:=(AA (AM 2 (Ah (Ab 1 [] (Ai (A0 0)) (AB 0) BI (mC (.int 0)))))
 (AA (Ca (Ai (A0 1)) (CL 3 (AQ (AB 3) (AQ (AB 4) (AQ (AB 5) CM))))
  (CZ (A0 2) (A0 3) (A0 5)))
 (AY (mCB (f1 true DE) (A2 (A0 2) A8)))))
def F_ends_of:List D->Hd->Option (D×Hd):=mkF 2 6 HR
structure Tp where
 cells:List Int
 nx:Int
 lf:Int
 tn:Int
def IZ(t:Tp):List (Key×D):=[(.inr "cells",.mu 0),(.inr "next",.im (.int t.nx)),(.inr "left",.im (.int t.lf)),(.inr "turn",.im (.int t.tn))]
def tp(t:Tp):Hd:=[.lst (t.cells.map λi=>.im (.int i)),.dic (IZ t)]
@[simp] theorem Xa(t:Tp):(tp t).length=2:=rfl
@[simp] theorem YY(t:Tp)(r:Hd):(tp t++r)[0]?=some (.lst (t.cells.map λi=>.im (.int i))):=rfl
@[simp] theorem YW(t:Tp)(r:Hd):(tp t++r)[1]?=some (.dic (IZ t)):=rfl
@[simp] theorem tp0(t:Tp):(tp t)[0]?=some (.lst (t.cells.map λi=>.im (.int i))):=rfl
@[simp] theorem tp1(t:Tp):(tp t)[1]?=some (.dic (IZ t)):=rfl
section
variable(t:Tp)(v:Int)
@[simp] theorem Xb:(IZ t).length=4:=rfl
end
theorem BX:∀ns:List Int,I.pys (ns.map I.int)=ns.map PyData.int
 |[]=>by simp[I.pys]
 |n::ns=>by simp[I.pys,I.py,BX ns]
def Bh(ns:List Int):Aj (ns.map λi=>D.im (.int i))=some (ns.map I.int):=by
 have:(ns.map λi=>D.im (.int i))=(ns.map I.int).map D.im:=by rw[map_map];rfl
 rw[this];exact NK _
def SW(ns:List Int):PyData.eqv (.list (ns.map PyData.int)) (.list [])=decide (ns=[]):=by
 cases ns<;>simp[PyData.eqv,PyData.eqvAll]
def On(ns:List Int):(PyData.list (ns.map PyData.int)).canLay0=true:=by simp[PyData.canLay0,Fy]
def EQ(ns:List Int)(hd:Hd)(neg:Bool):GJ neg (.list (ns.map PyData.int)) (.list []) hd=some (.im (.bl (if neg then !decide (ns=[])else decide (ns=[]))),hd):=by
 unfold GJ;rw[if_pos,SW];refine⟨On ns,by simp[PyData.canLay0,PyData.canLayAll0],?_⟩;have:(PyData.list []).depth<=1:=by simp[PyData.depth,PyData.depthAll]
 omega
def DI{x:Int}(m:Int)(h:0<m):0<=x%m/\x%m<m:=⟨Int.emod_nonneg _ (by omega),Int.emod_lt_of_pos _ h⟩
def VL(hd:Hd)(neg:Bool):GJ neg (.list []) (.list []) hd=some (.im (.bl (if neg then false else true)),hd):=by
 have:=EQ [] hd neg;simpa using this
def WQ{xs:List Int}(h:xs≠[])(n:Int):∃c,atI (xs.map λi=>D.im (.int i)) (n%(xs.length:Int))=some (.im (.int c)):=by
 have hl:0<xs.length:=DM h;obtain⟨a,b⟩:=DI (x:=n) (xs.length:Int) (by omega);obtain⟨k,hk⟩:=Int.eq_ofNat_of_zero_le a;have hk':k<xs.length:=by omega
 exact⟨xs[k],FT hk (by simp[hk'])⟩
def po1:La 10 18:=by unfold La;decide
inductive Cost where
 |late (d:Int)|tardy (d w:Int)|miss (d w:Int)|ends (w:Int)|steps (rows:List (Int×Int))
def Wg(r:Int×Int):I:=.tup [.int r.1,.int r.2]
def Il:Cost->I
 |.late d=>.tup [.str "late",.int d]
 |.tardy d w=>.tup [.str "tardy",.int d,.int w]
 |.miss d w=>.tup [.str "miss",.int d,.int w]
 |.ends w=>.tup [.str "ends",.int w]
 |.steps rows=>.tup [.str "steps",.tup (rows.map Wg)]
def n1:¬ (("late":Str)="steps"):=by decide +kernel
def n2:¬ (("tardy":Str)="steps"):=by decide +kernel
def n3:¬ (("miss":Str)="steps"):=by decide +kernel
def n4:¬ (("ends":Str)="steps"):=by decide +kernel
def n7:¬ (("miss":Str)="ends"):=by decide +kernel
def n8:¬ (("tardy":Str)="late"):=by decide +kernel
def n10:¬ (("miss":Str)="tardy"):=by decide +kernel
def n12:¬ (("steps":Str)="late"):=by decide +kernel
@[simp high] theorem YV(t:Tp)(x:MO)(r:Hd):(tp t++(x::r))[2]?=some x:=rfl
@[simp high] theorem YU(t:Tp)(x y:MO)(r:Hd):(tp t++(x::y::r))[3]?=some y:=rfl
@[simp high] theorem YT(t:Tp)(x y z:MO)(r:Hd):(tp t++(x::y::z::r))[4]?=some z:=rfl
@[simp high] theorem YB(t:Tp)(x y:MO)(r:Hd):(tp t++(x::r)).set 2 y=tp t++(y::r):=rfl
@[simp high] theorem YA(t:Tp)(x y z:MO)(r:Hd):(tp t++(x::y::r)).set 3 z=tp t++(x::z::r):=rfl
def IE(w:Nat)(ns:List Int):Ar w (ns.map λi=>D.im (.int i))=true:=by induction ns<;>simp_all [Ar,clD]
structure Wk where
 len:Int
 com:Int
 cost:Cost
def Ac(w:Wk):I:=.tup [.int w.len,.int w.com,Il w.cost]
abbrev AN(ws:List Wk):I:=.tup (ws.map Ac)
end Bd
namespace L2
theorem Jp{α:Type}{n:MG}{c:MT}{m:ME}{g:Gd}{hd:Hd}(hg:GOk hd g)(f:α->D)(k:α->Option D):∀{xs:List α} {ls:Ls} (P:Ls->Prop),P ls ->
 (∀x∈xs,∀ls,P ls->∃ls1,n (f x) ls hd=some ls1/\P ls1/\((k x=none/\c ls1 hd=some (false,hd))∨∃z,k x=some z/\c ls1 hd=some (true,hd)/\m ls1 hd=some (z,hd)))->Ag n c m g (xs.map f) ls hd=some (xs.filterMap k,hd)
 |[],ls,P,h,_=>by unfold Ag;rfl
 |x::r,ls,P,h,q=>by
  obtain⟨ls1,e1,p1,q1⟩:=q x mem_cons_self ls h;have ih:=Jp hg f k (xs:=r) (ls:=ls1) P p1 λd hd ls hp=>q d (mem_cons_of_mem _ hd) ls hp;rw[map_cons];unfold Ag;rcases q1 with⟨kn,c1⟩|⟨z,kz,c1,m1⟩
  .simp[e1,c1,hg,ih,kn]
  .simp[e1,c1,m1,hg,ih,kz]
def P4{α:Type}{n:MG}{m:ME}{g:Gd}{hd:Hd}(hg:GOk hd g)(f:α->D)(k:α->D){xs:List α}{ls:Ls}(P:Ls->Prop)(h:P ls)
 (q:∀x∈xs,∀ls,P ls->∃ls1,n (f x) ls hd=some ls1/\P ls1/\m ls1 hd=some (k x,hd)):Ag n BI m g (xs.map f) ls hd=some (xs.map k,hd):=by
 have:=Jp (c:=BI) hg f (λx=>some (k x)) (xs:=xs) P h λx hx ls hp=>by
  obtain⟨ls1,e1,p1,e2⟩:=q x hx ls hp;exact⟨ls1,e1,p1,.inr ⟨_,rfl,rfl,e2⟩⟩
 rw[this];simp
end L2
namespace Bd
open PySem L2
abbrev Be(es:List Int):I:=.tup (es.map I.int)
def SL(ns:List Int):(ns.map λi=>D.im (.int i))=(ns.map I.int).map D.im:=by rw[map_map];rfl
def Lh(ns:List Int):AV (ns.map λi=>D.im (.int i))=.im (Be ns):=by rw[SL];exact DZ _
def AC(p:Nat×Int×Int):I:=.tup [.int p.1,.int p.2.1,.int p.2.2]
def Of{α:Type}(ws:List α):ws.map (λ_=>D.im (.int 0))=(List.replicate ws.length 0).map λi=>D.im (.int i):=by induction ws<;>simp_all [replicate_succ]
def BM(es:List Int):List (Nat×Int×Int)->List Int
 |[]=>es
 |p::r=>BM (es.set p.1 p.2.2) r
theorem IA(w o:D):∀(ps:List (Nat×Int×Int)) (es:List Int) (a b c:Option D),(∀p∈ps,p.1<es.length)->∃a' b' c',B4 (CL 3 (AQ (AB 3) (AQ (AB 4) (AQ (AB 5) CM)))) (CZ (A0 2) (A0 3) (A0 5)) [] (ps.map λp=>.im (AC p))
 [some w,some o,some (.mu 0),a,b,c] [.lst (es.map λi=>.im (.int i))]=some (.nx [some w,some o,some (.mu 0),a',b',c'],[.lst ((BM es ps).map λi=>.im (.int i))])
 |[],es,a,b,c,_=>⟨a,b,c,Oj⟩
 |(k,x,y)::ps,es,a,b,c,h=>by
   obtain⟨a',b',c',q⟩:=IA w o ps (es.set k y) (some (.im (.int k))) (some (.im (.int x))) (some (.im (.int y))) (λp hp=>by simpa using h p (mem_cons_of_mem _ hp));refine⟨a',b',c',?_⟩;have hk:k<es.length:=h _ mem_cons_self;have ix:ixN es.length (k:Int)=some k:=by unfold ixN;rw[if_pos (by omega),if_pos (by omega)];simp
   rw[show BM es ((k,x,y)::ps)=BM (es.set k y) ps from rfl,<- q,map_cons];refine N1 (ls1:=[some w,some o,some (.mu 0),some (.im (.int k)),some (.im (.int x)),some (.im (.int y))]) (by simp[AC]) ?_ (AJ _);simp[ix]
def M2(ws:List Wk)(ps:List (Nat×Int×Int))(h:∀p∈ps,p.1<ws.length)(hl:ws.length<=1000):∃g,F_ends_of [.im (AN ws),.im (.tup (ps.map AC))] []=some (.im (Be (BM (List.replicate ws.length 0) ps)),g):=by
 obtain⟨a',b',c',q⟩:=IA (.im (AN ws)) (.im (.tup (ps.map AC))) ps (List.replicate ws.length 0) none none none (λp hp=>by simpa using h p hp);have hz:BO ws.length:=AS (by omega);have hc:=P4 (hd:=[]) (n:=AB 0) (m:=mC (.int 0)) (AJ []) (λw:Wk=>D.im (Ac w)) (λ_=>.im (.int 0)) (xs:=ws) (ls:=[none]) (λls=>ls.length=1) rfl λw hw ls hls=>by
  match ls,hls with
  |[a],_=>exact⟨[some (.im (Ac w))],rfl,rfl,rfl⟩
 have hr:=Of ws;have w1:(ws.map Ac).map D.im=ws.map λw=>D.im (Ac w):=by rw[map_map];rfl
 have p1:(ps.map AC).map D.im=ps.map λp=>D.im (AC p):=by rw[map_map];rfl
 rw[hr]at hc;refine⟨[.lst ((BM (List.replicate ws.length 0) ps).map λi=>.im (.int i))],?_⟩;simp only[F_ends_of,mkF,HR,N9,Jl,VA,SV,NA,N8,VH,map_cons,map_nil,length_cons,length_nil,cons_append,List.nil_append,List.replicate,Nat.reduceAdd,Nat.reduceSub,if_true,List.getElem?_cons_zero,List.getElem?_cons_succ,bind_some,Sj,map_some,w1,p1,length_map,hz,D0,append_nil,hc,Kl,List.set_cons_succ,List.set_cons_zero];rw[q];simp[DE,Lh]
def P2(ns:List Int)(lo hi:Option Int):∃cs:List Int,Cf (ns.map λn=>.im (.int n)) lo hi=cs.map λn=>.im (.int n):=⟨(ns.drop _).take _,by unfold Cf;rw[List.map_take,List.map_drop]⟩
abbrev Wn(ks:List Nat):List D:=ks.map λk:Nat=>D.im (.int (k:Int))
def SG{n:Nat}{i:Int}(a:0<=i)(b:i<n):ixN n i=some i.toNat:=by unfold ixN;rw[if_pos a,if_pos b]
def WV(seq:List Nat)(ps:List (Int×Int)):Prop:=∀p∈ps,∃i j a b:Nat,i<j/\seq[i]?=some a/\seq[j]?=some b/\p=((a:Int),(b:Int))
def Gb(n:Nat):Ae 0 n=Wn (List.range n):=by
 refine ext_getElem? λi=>?_;by_cases h:i<n
 .rw[Ge h];simp[h]
 .rw[List.getElem?_eq_none (by simp;omega),List.getElem?_eq_none (by simp;omega)]
abbrev AK(xs:List Int):List D:=xs.map λx=>D.im (.int x)
def g0(hd:Hd)(x y:MO):(hd++[x,y])[hd.length]?=some x:=by simp
def g1(hd:Hd)(x y:MO):(hd++[x,y])[hd.length+1]?=some y:=by simp
def t0(hd:Hd)(x y z:MO):(hd++[x,y]).set hd.length z=hd++[z,y]:=by simp
def t1(hd:Hd)(x y z:MO):(hd++[x,y]).set (hd.length+1) z=hd++[x,z]:=by simp
end Bd
namespace L2
open PySem PySem.Spec PyProof.Rows
section
variable{ls:Ls}{hd:Hd}{QE:D->Hd->Prop}{QI:List D×Gd->Hd->Prop}{ma:ME}{n:MG}{ta:MT}{mi:MI}{m:MA}
def B2{α:Type}{g:Gd}{QA:List D->Hd->Prop}(inj:α->D)(f:α->Option D)(L:D->Ls->Prop)(l0:Ls){xs:List α}{hd:Hd}(hg:GOk hd g)
 (k:∀x∈xs,∀ls,ls=l0∨(∃d,L d ls)->∃ls1,n (inj x) ls hd=some ls1/\L (inj x) ls1/\WT ta ls1 hd λc y=>y=hd/\if c=true then ∃z,f x=some z/\WE ma ls1 hd λe y=>y=hd/\e=z else f x=none)
 (q:QA (xs.filterMap f) hd):WP (Ag n ta ma g (xs.map inj) l0 hd) QA:=by
 have go:∀(xs':List α) (ls:Ls),(∀x∈xs',x∈xs)->(ls=l0∨∃d,L d ls)->Ag n ta ma g (xs'.map inj) ls hd=some (xs'.filterMap f,hd):=by
  intro xs'
  induction xs' with
  |nil=>intro ls _ _;unfold Ag;rfl
  |cons x r ih=>
   intro ls hs hl;obtain⟨ls1,e1,L1,c,y,e2,rfl,q⟩:=k x (hs x mem_cons_self) ls hl;have ih:=ih ls1 (λz hz=>hs z (mem_cons_of_mem _ hz)) (.inr ⟨_,L1⟩);rw[map_cons];unfold Ag;rw[e1,bind_some,e2,bind_some];cases c with
   |true=>
    rw[if_pos rfl]at q;obtain⟨z,ez,e,y,e3,rfl,rfl⟩:=q;rw[if_pos rfl,e3,bind_some];dsimp only;rw[if_pos hg,ih,filterMap_cons,ez];rfl
   |false=>
    rw[if_neg Bool.false_ne_true]at q;rw[if_neg Bool.false_ne_true];dsimp only;rw[if_pos hg,ih,filterMap_cons,q]
 exact⟨_,_,go xs l0 (λ_ h=>h) (.inl rfl),q⟩
end
section
variable{K:PySem.W.Frag}{ρ ρ':List Addr}{H H':Hp}{hd hd':Hd}
def YZ(neg:Bool)(ma:ME)(ml:MA):ME:=λls hd=>(ma ls hd).bind λp=>(ml ls p.2).bind λq=>match p.1 with
 |.im i=>(Pn i).bind λx=>(N7 q.1).map λxs=>(.im (.bl (if neg then !inV x xs else inV x xs)),q.2)
 |_=>none
open Classical in
def GE(ml:MA)(mb:ME):MA:=λls hd=>(ml ls hd).bind λp=>(mb ls p.2).bind λq=>match q.1 with
 |.im (.int k)=>if(0<=k/\k<=1000)/\BO (p.1.length*k.toNat)then some ((List.replicate k.toNat p.1).flatten,q.2)else none
 |_=>none
theorem RDs.rep{ds:List D}{xs:List V}(r:RDs K ρ H ds xs):∀n,RDs K ρ H (List.replicate n ds).flatten (List.replicate n xs).flatten
 |0=>by simp[RDs]
 |n+1=>by
  simp only[replicate_succ,flatten_cons];exact r.app (r.rep n)
def T9{ta tb:TE}{ml:MA}{mb:ME}(ha:RN K ta ml)(hb:RE K tb mb):RN K (tOp O7 ta tb) (GE ml mb):=by
 and_intros;obtain⟨⟨d1,h1⟩,e1,hm⟩:=Yd hm;obtain⟨⟨d2,h2⟩,e2,hm⟩:=Yd hm;dsimp only at hm;split at hm
 .next k=>
  split at hm
  .next c=>
   cases hm;refine ha ρ σ H hd ls _ d1 h1 hR hL e1 λρ1 H1 a xs x1 R1 na oa ea r1=>?_;refine hb ρ1 σ H1 h1 ls _ _ _ R1 (hL.ext hR x1) e2 λρ2 H2 v2 x2 R2 r2=>?_;simp only[RD,RI]at r2;subst r2;have ea2:=x2.keep a _ ea oa nt;refine⟨a,k,xs,rfl,rfl,ea2,by omega,by omega,by rw[r1.len];exact c.2,λp hp=>?_⟩;obtain⟨R3,x3⟩:=R2.hid (ho:=.lst (List.replicate k.toNat xs).flatten) hp;have x12:=x1.trans R1 x2;exact hQ ρ2 _ p _ (x12.trans R2 x3) R3 (x12.none hR hp R2) (R2.out hp) AE (((r1.ext R1 x2).rep k.toNat).ext R2 x3)
  .cases hm
 .cases hm
def Tv(K:PySem.W.Frag){X:Cx}{a b:Expr}{ta tb:TE}{ml:MA}{mb:ME}{pos:Pos}(ha:QN K X a ta ml)(hb:QE K X b tb mb):QN K X (.BinOp a .Mult b pos) (tOp O7 ta tb) (GE ml mb):=⟨Lc Ue ha.p hb.p,T9 ha.r hb.r⟩
end
section
variable{ls:Ls}{hd:Hd}{ma:ME}{n n2:MG}{c c2:MT}{mi mi2:MI}{QE:D->Hd->Prop}
theorem HA{k:Nat}{g:Gd}{Q:Ls->Hd->Prop}(P:List D->Ls->Hd->Prop):∀{ds:List D} {ls:Ls} {hd:Hd},P ds ls hd ->
 (∀d r ls hd,P (d::r) ls hd->∃ls1,n2 d ls hd=some ls1/\WT c2 ls1 hd λt x=>if t=true then WE ma ls1 x λz y=>WP (BV (.mu k) [z] y) λ_ u=>GOk u g/\P r ls1 u else GOk x g/\P r ls1 x) ->
 (∀ls hd,P [] ls hd->Q ls hd)->∃l h,mIn k n2 c2 ma g ds ls hd=some (l,h)/\Q l h
 |[],ls,hd,h,_,z=>⟨_,_,by unfold mIn;rfl,z _ _ h⟩
 |d::r,ls,hd,h,s,z=>by
  obtain⟨ls1,e1,t,x,e2,q⟩:=s d r ls hd h;unfold mIn;rw[e1,bind_some,e2,bind_some];cases t with
  |true=>
   rw[if_pos rfl]at q ⊢;obtain⟨z',y,e3,w,u,e4,g4,p4⟩:=q;rw[e3,bind_some,e4,bind_some];dsimp only;rw[if_pos g4];exact HA P p4 s z
  |false=>
   rw[if_neg Bool.false_ne_true]at q ⊢;dsimp only;rw[if_pos q.1];exact HA P q.2 s z
theorem Gz{k:Nat}{g:Gd}{Q:Hd->Prop}(P:List D->Ls->Hd->Prop):∀{ds:List D} {ls:Ls} {hd:Hd},P ds ls hd ->
 (∀d r ls hd,P (d::r) ls hd->∃ls1,n d ls hd=some ls1/\WT c ls1 hd λt x=>if t=true then WI mi2 ls1 x λp y=>∃l h,mIn k n2 c2 ma p.2 p.1 ls1 y=some (l,h)/\GOk h g/\P r l h else GOk x g/\P r ls1 x) ->
 (∀ls hd,P [] ls hd->Q hd)->∃h,DG k n c mi2 n2 c2 ma g ds ls hd=some h/\Q h
 |[],ls,hd,h,_,z=>⟨_,by unfold DG;rfl,z _ _ h⟩
 |d::r,ls,hd,h,s,z=>by
  obtain⟨ls1,e1,t,x,e2,q⟩:=s d r ls hd h;unfold DG;rw[e1,bind_some,e2,bind_some];cases t with
  |true=>
   rw[if_pos rfl]at q ⊢;obtain⟨p,y,e3,l,h,e4,g4,p4⟩:=q;rw[e3,bind_some];dsimp only;rw[e4,bind_some];dsimp only;rw[if_pos g4];exact Gz P p4 s z
  |false=>
   rw[if_neg Bool.false_ne_true]at q ⊢;dsimp only;rw[if_pos q.1];exact Gz P q.2 s z
def NS{j:Nat}{ix:List Nat}(h:WI mi ls hd λp x=>∃y,DG x.length n c mi2 n2 c2 ma p.2 p.1 (D0 j ix ls) (x++[.lst []])=some y/\QE (.mu x.length) y):WE (C9 j ix mi n c mi2 n2 c2 ma) ls hd QE:=by
 obtain⟨p,x,e,y,e2,q⟩:=h;exact⟨_,_,by rw[Oz,e,bind_some];dsimp only;rw[e2];rfl,q⟩
end
abbrev blD(bs:List Bool):List D:=bs.map λb=>D.im (.bl b)
inductive Ty where
 |int|bool|str|tuple|list
 deriving DecidableEq
def Ty.nm:Ty->String
 |.int=>"int" | .bool=>"bool" | .str=>"str" | .tuple=>"tuple" | .list=>"list"
def IsT(K:PySem.W.Frag)(T:Ty)(H:Hp)(v:V)(b:Bool):Prop:=
 (v=.non/\b=false)∨(∃x,v=.bl x/\b=decide (T=.int∨T=.bool))∨(∃i,v=.int i/\b=decide (T=.int))∨(∃x,v=.str x/\b=decide (T=.str)) ∨
 (∃a xs,v=.ref a/\SqL K H a xs/\b=decide (T=.list))∨∃a xs,v=.ref a/\SqT K H a xs/\b=decide (T=.tuple)
section
variable{X:Cx}{pins:List (Addr×Obj)}{σ:St}{H:Hp}{s:Shared}{A:Around}{E:Value->Shared->Prop}{Q:Value->Shared->Prop}
def V0{T:Ty}{v:V}{u:Value}{b:Bool}(I:Inv X pins σ H s)(r:RelV v u)(h:IsT X.K T H v b)(q:∀tk,Q (.bool b) { s with toks:=tk }):wpAny (model X.prog X.w) A (call (.builtin "isinstance") [u,.type T.nm]) Q E s:=by
 have q0:=q s.toks;have q1:=q (s.toks+1);rcases h with⟨rfl,rfl⟩|⟨x,rfl,rfl⟩|⟨i,rfl,rfl⟩|⟨x,rfl,rfl⟩|⟨a,xs,rfl,hl,rfl⟩|⟨a,xs,rfl,ht,rfl⟩
 .cases(show u=Value.none from r);cases T
  .exact IsiPair.NoneType_int q1
  .exact IsiPair.NoneType_bool q1
  .exact IsiPair.NoneType_str q1
  .exact IsiPair.NoneType_tuple q1
  .exact IsiPair.NoneType_list q1
 .cases(show u=Value.bool x from r);cases T
  .first|exact IsiPair.bool_int q0|exact IsiPair.bool_int q1
  .first|exact IsiPair.bool_bool q0|exact IsiPair.bool_bool q1
  .exact IsiPair.bool_str q1
  .exact IsiPair.bool_tuple q1
  .exact IsiPair.bool_list q1
 .obtain⟨t,rfl⟩:=(show ∃t,u=Value.int i t from r)
  cases T
  .exact IsiPair.int_int q0
  .exact IsiPair.int_bool q1
  .exact IsiPair.int_str q1
  .exact IsiPair.int_tuple q1
  .exact IsiPair.int_list q1
 .obtain⟨t,rfl⟩:=(show ∃t,u=Value.str x t from r)
  cases T
  .exact IsiPair.str_int q1
  .exact IsiPair.str_bool q1
  .exact IsiPair.str_str q0
  .exact IsiPair.str_tuple q1
  .exact IsiPair.str_list q1
 .cases(show u=Value.ref a from r);obtain⟨its,_,⟨o,n,e,c,_,_⟩,_⟩:=I.list hl;cases T
  .exact IsiPair.list_int e c q1
  .exact IsiPair.list_bool e c q1
  .exact IsiPair.list_str e c q1
  .exact IsiPair.list_tuple e c q1
  .exact IsiPair.list_list e c q0
 .cases(show u=Value.ref a from r);obtain⟨its,_,⟨o,e,c,_⟩,_⟩:=I.tuple ht;cases T
  .exact IsiPair.tuple_int e c q1
  .exact IsiPair.tuple_bool e c q1
  .exact IsiPair.tuple_str e c q1
  .exact IsiPair.tuple_tuple e c q0
  .exact IsiPair.tuple_list e c q1
end
def Ni(K:PySem.W.Frag)(T:Ty)(te:TE):TE:=λσ H Q=>te σ H λv H1=>∃b,IsT K T H1 v b/\Q (.bl b) H1
def Ua(K:PySem.W.Frag){X:Cx}(T:Ty){e:Expr}{te:TE}{x:Str}{p px pos:Pos}(hm:X.mg "isinstance"=none)(hmT:X.mg x=none)(hvT:bootBuiltins x=some (.type T.nm))(he:PE X e te)
 (hv:bootBuiltins "isinstance"=some (.builtin "isinstance")) (hK:X.K=K) (hg:Gl X "isinstance") (hgT:Gl X x) (hnT:x≠"__name__") (hdT:(x==("__debug__":Str))=false)
 (hs:starEach [e,.Name x px] X.env=[(false,eval e X.env),(false,eval (.Name x px) X.env)]) (hs2:starEach [.Name x px] X.env=[(false,eval (.Name x px) X.env)]):PE X (.Call (.Name "isinstance" p) [e,.Name x px] [] pos) (Ni K T te):=by
 subst hK;intro pins s σ H Q I h;refine wpAny_Call_Name_kw (DD I hg hm hv ?_);have go:wpAny (model X.prog X.w) X.A (spliced (backTo pos (starEach [e,.Name x px] X.env))) (λvs s₁=>wpAny (model X.prog X.w) X.A (call (.builtin "isinstance") vs) (EP X pins σ Q) X.xe s₁) X.xe s:=by
  rw[hs];show wpAny _ _ (spliced ((false,eval e X.env)::backTo pos [(false,eval (.Name x px) X.env)])) _ _ s;refine Calls.spliced_cons (thn (he pins s σ H _ I h) λu s1 ⟨v,H1,I1,r1,b,ib,q1⟩=>?_);show wpAny _ _ (spliced ((false,eval (.Name x px) X.env)::backTo pos [])) _ _ s1;refine Calls.spliced_cons (DD I1 hgT hmT hvT ?_ hnT hdT);refine Calls.spliced_nil ?_;exact V0 I1 r1 ib λtk=>⟨.bl b,H1,I1.tok _,rfl,q1⟩
 exact PyProof.Rows.callWith_builtin1 go (by rw[hs,hs2]) (by rw[hs2];rfl)
section
variable{K:PySem.W.Frag}{ρ ρ':List Addr}{H H':Hp}{hd hd':Hd}
def isD(T:Ty)(hd:Hd):D->Option Bool
 |.im .non=>some false
 |.im (.bl _)=>some (decide (T=.int∨T=.bool))
 |.im (.int _)=>some (decide (T=.int))
 |.im (.str _)=>some (decide (T=.str))
 |.im (.tup _)=>some (decide (T=.tuple))
 |.tm _=>some (decide (T=.tuple))
 |.ro _=>some (decide (T=.list))
 |.op _ _ _=>none
 |.fv _ _=>none
 |.mu n=>match hd[n]? with
  |some (.lst _)=>some (decide (T=.list))
  |_=>none
def V1{T:Ty}{d:D}{v:V}{b:Bool}(hR:RH K ρ H hd)(h:RD K ρ H d v)(e:isD T hd d=some b):IsT K T H v b:=by
 cases d with
 |im i=>
  cases i with
  |non=>simp only[RD,RI]at h;subst h;simp only[isD,Option.some.injEq]at e;exact .inl ⟨rfl,e.symm⟩
  |bl c=>simp only[RD,RI]at h;subst h;simp only[isD,Option.some.injEq]at e;exact .inr (.inl ⟨c,rfl,e.symm⟩)
  |int c=>simp only[RD,RI]at h;subst h;simp only[isD,Option.some.injEq]at e;exact .inr (.inr (.inl ⟨c,rfl,e.symm⟩))
  |str c=>simp only[RD,RI]at h;subst h;simp only[isD,Option.some.injEq]at e;exact .inr (.inr (.inr (.inl ⟨c,rfl,e.symm⟩)))
  |tup is=>
   obtain⟨a,xs,rfl,q,r⟩:=h.tup (ds:=is.map .im) rfl;simp only[isD,Option.some.injEq]at e;exact .inr (.inr (.inr (.inr (.inr ⟨a,xs,rfl,q,e.symm⟩))))
 |tm ds=>
  obtain⟨a,xs,rfl,q,r⟩:=h.tup (ds:=ds) rfl;simp only[isD,Option.some.injEq]at e;exact .inr (.inr (.inr (.inr (.inr ⟨a,xs,rfl,q,e.symm⟩))))
 |ro ns=>
  obtain⟨a,xs,rfl,q,r⟩:=h.lst hR (hd:=hd) (ds:=ns.map λn=>.im (.int n)) rfl;simp only[isD,Option.some.injEq]at e;exact .inr (.inr (.inr (.inr (.inl ⟨a,xs,rfl,q,e.symm⟩))))
 |op _ _ _=>simp[isD]at e
 |fv _ _=>simp[isD]at e
 |mu n=>
  simp only[isD]at e;split at e
  .next q=>
   cases e;simp only[RD]at h;obtain⟨a,hn,rfl⟩:=h;obtain⟨xs,e1,e2⟩:=hR.lst hn q;exact .inr (.inr (.inr (.inr (.inl ⟨a,xs,rfl,SqL.of e1,rfl⟩))))
  .cases e
def C7(T:Ty)(ma:ME):ME:=λls hd=>(ma ls hd).bind λp=>(isD T p.2 p.1).map λb=>(.im (.bl b),p.2)
def TV{T:Ty}{te:TE}{me:ME}(h:RE K te me):RE K (Ni K T te) (C7 T me):=by
 and_intros;obtain⟨⟨d1,h1⟩,e1,hm⟩:=Yd hm;obtain⟨b,e2,e3⟩:=Ye hm;cases e3;exact h ρ σ H hd ls _ d1 _ hR hL e1 λρ1 H1 v x1 R1 r1=>⟨b,V1 R1 r1 e2,hQ ρ1 H1 _ x1 R1 (by simp[RD,RI])⟩
def Gv:∀T:Ty,bootBuiltins T.nm=some (.type T.nm)
 |.int=>by decide +kernel
 |.bool=>by decide +kernel
 |.str=>by decide +kernel
 |.tuple=>by decide +kernel
 |.list=>by decide +kernel
def JT(K:PySem.W.Frag){X:Cx}(T:Ty){e:Expr}{te:TE}{me:ME}{x:Str}{p px pos:Pos}(hm:X.mg "isinstance"=none)(hmT:X.mg x=none)(he:QE K X e te me)(hx:bootBuiltins x=some (.type T.nm):=by first|exact Gv .int|exact Gv .bool|exact Gv .str|exact Gv .tuple|exact Gv .list)(hK:X.K=K:=by rfl)(hg:Gl X "isinstance":=by rfl)(hgT:Gl X x:=by rfl)
 (hnT:x≠"__name__":=by decide) (hdT:(x==("__debug__":Str))=false:=by decide)
 (hs:starEach [e,.Name x px] X.env=[(false,eval e X.env),(false,eval (.Name x px) X.env)]:=by rfl) (hs2:starEach [.Name x px] X.env=[(false,eval (.Name x px) X.env)]:=by rfl):QE K X (.Call (.Name "isinstance" p) [e,.Name x px] [] pos) (Ni K T te) (C7 T me):=
 ⟨Ua K T hm hmT hx he.p IX hK hg hgT hnT hdT hs hs2,TV he.r⟩
def Cu(mo mi me:ME)(f:Int->Int->Int):MS:=λls hd=>(mo ls hd).bind λp=>(mi ls p.2).bind λq=>match p.1,q.1 with
 |.mu n,.im (.int i)=>match q.2[n]? with
  |some (.lst ds)=>(ixN ds.length i).bind λj=>match ds[j]? with
   |some (.im (.int x))=>(me ls q.2).bind λr=>match r.1,r.2[n]? with
    |.im (.int y),some (.lst ds')=>if ds'.length=ds.length then some (.nx ls,r.2.set n (.lst (ds'.set j (.im (.int (f x y))))))else none
    |_,_=>none
   |_=>none
  |_=>none
 |_,_=>none
def Mq(K:PySem.W.Frag){X:Cx}(hK:X.K=K:=by rfl):VQ X (HH K):=by
 subst hK;intro pins s σ H o i ov iv Q I ro ri h;obtain⟨p,xs,k,z,rfl,rfl,hq,he,q⟩:=h;cases ro;obtain⟨t,rfl⟩:=ri;obtain⟨its,r,pl,hz⟩:=I.list hq;obtain⟨j,h1,h2,h3,h4,h5⟩:=Hh he;obtain⟨w,ew,rw'⟩:=r.get h2;have hl:=r.length;have hn:=EN;have fin:EP X pins σ Q w s:=⟨z,H,I,rw',q⟩
 by_cases h0:0<=k
 .have hj:k.toNat=j:=by
   rw[seqIndex_of h0 h5]at h1;exact Option.some.inj h1
  exact wpAny_getItem_list pl.isList h0 (by omega) (by rw[hj];simpa using ew) fin
 .have hj:(k+(its.toArray.size:Int)).toNat=j:=by
   rw[seqIndex_neg (by omega) h4]at h1;rw[size_toArray,<- hl];exact Option.some.inj h1
  exact wpAny_getItem_list_neg pl.isList (by omega) (by rw[size_toArray]<;>omega) (by omega) (by rw[hj];simpa using ew) fin
def SQ(x:Ext ρ H ρ' H'){n:Nat}{a:Addr}(h:ρ[n]?=some a):ρ'[n]?=some a:=by
 obtain⟨r,rfl,_⟩:=x.pre;rw[List.getElem?_append_left (List.getElem?_eq_some_iff.mp h).1];exact h
def QB{to ti te:TE}{mo mi me:ME}{f:Int->Int->Int}(ho:RE K to mo)(hi:RE K ti mi)(he:RE K te me):RS K (LJ to ti te (HH K) (ipI f) Gf) (Cu mo mi me f):=by
 intro ρ σ H hd0 ls E fl hd' hR hL hm hQ;obtain⟨⟨d1,h1⟩,e1,hm⟩:=Yd hm;obtain⟨⟨d2,h2⟩,e2,hm⟩:=Yd hm;dsimp only at hm;split at hm
 .split at hm
  .next ds q=>
   obtain⟨j,e4,hm⟩:=Yd hm;split at hm
   .next x ex=>
    obtain⟨⟨d3,h3⟩,e3,hm⟩:=Yd hm;dsimp only at hm;split at hm
    .next y ds' q'=>
     split at hm
     .next el=>
      cases hm;refine ho ρ σ H hd0 ls _ _ h1 hR hL e1 λρ1 H1 v1 x1 R1 r1=>?_;refine hi ρ1 σ H1 h1 ls _ _ _ R1 (hL.ext hR x1) e2 λρ2 H2 v2 x2 R2 r2=>?_;have r1':=r1.ext R1 x2;simp only[RD]at r1';obtain⟨a,hn,rfl⟩:=r1';simp only[RD,RI]at r2;subst r2;obtain⟨xs,l1,l2⟩:=R2.lst hn q;obtain⟨w,ew,rw'⟩:=l2.get ex;simp only[RD,RI]at rw';subst rw';refine⟨a,xs,_,.int x,rfl,rfl,SqL.of l1,?_,?_⟩
      .unfold atI;rw[l2.len];rw[e4];exact ew
      refine he ρ2 σ H2 h2 ls _ _ h3 R2 (hL.ext hR (x1.trans R1 x2)) e3 λρ3 H3 v3 x3 R3 r3=>?_;simp only[RD,RI]at r3;subst r3;refine⟨x,y,rfl,rfl,?_⟩;have hn3:=SQ x3 hn;obtain⟨xs3,l3,l4⟩:=R3.lst hn3 q';obtain⟨R4,x4⟩:=R3.put hn3 (o:=.lst _) (ho:=.lst (xs3.set j (.int (f x y)))) ⟨_,rfl,l4.set j (d:=.im (.int (f x y))) (by simp[RD,RI])⟩;have x13:=(x1.trans R1 x2).trans R2 x3;exact⟨a,xs3,_,j,rfl,rfl,l3,by rw[l4.len,el];exact e4,hQ ρ3 _ (x13.trans R3 x4) R4 σ ((hL.ext hR x13).ext R3 x4)⟩
     .cases hm
    .cases hm
   .cases hm
  .cases hm
 .cases hm
def Kb(K:PySem.W.Frag){X:Cx}{o i e:Expr}{to ti te:TE}{mo mi me:ME}{op:Operator}{f:Int->Int->Int}{tpos pos:Pos}(ho:QE K X o to mo)(hi:QE K X i ti mi)(he:QE K X e te me)(hp:PIp X op (ipI f))(hK:X.K=K:=by rfl)
 (ha:∀ov iv new,augStore i ov iv new=(do holding [new,ov,iv] (setItem ov iv new);release [new,ov,iv] [];pure .next):=by intros;rfl):QS K X (.AugAssign (.Subscript o i tpos) op e pos) (LJ to ti te (HH K) (ipI f) Gf) (Cu mo mi me f):=
 ⟨Ra ho.p hi.p (Mq K hK) he.p hp JG ha,QB ho.r hi.r he.r⟩
end
section
variable{ls:Ls}{hd:Hd}{ma mo mi me:ME}{QE:D->Hd->Prop}{QS:Fl->Hd->Prop}
def D5{T:Ty}(h:WE ma ls hd λd x=>∃b,isD T x d=some b/\QE (.im (.bl b)) x):WE (C7 T ma) ls hd QE:=by
 obtain⟨d,x,e,b,e2,q⟩:=h;exact⟨_,_,by simp only[C7,e,bind_some,e2,map_some],q⟩
end
def Nj(neg b:Bool)(ta:TE):TE:=λσ H Q=>ta σ H λx H1=>∃c,x=.bl c/\Q (.bl (if neg then !decide (c=b)else decide (c=b))) H1
section
variable{X:Cx}{a:Expr}{ta:TE}
def Oq{M:Model}{A:Around}{E:Value->Shared->Prop}{s:Shared}{Q:Value->Shared->Prop}(c b:Bool)(h:Q (.bool (!decide (c=b))) s):wpAny M A (compareOp .IsNot (.bool c) (.bool b)) Q E s:=by
 cases c<;>cases b<;>exact wpAny_pure h
def Ru{b:Bool}{j pos'}(ha:PE X a ta):PC X .IsNot a (.Constant (.bool b) j pos') (Nj true b ta):=by
 intro pins s σ H Q I h;refine thn (ha pins s σ H _ I h) λv s1 ⟨x,H1,I1,r1,c,ex,q1⟩=>?_;subst ex;cases(show v=Value.bool c from r1);exact Constant_bool (Oq c b ⟨.bl _,H1,I1,rfl,q1⟩)
end
def HQ(neg b:Bool)(ma:ME):ME:=λls hd=>(ma ls hd).bind λp=>match p.1 with
 |.im (.bl c)=>some (.im (.bl (if neg then !decide (c=b)else decide (c=b))),p.2)
 |_=>none
def TW{K:PySem.W.Frag}{neg b:Bool}{ta:TE}{ma:ME}(h:RE K ta ma):RE K (Nj neg b ta) (HQ neg b ma):=by
 and_intros;obtain⟨⟨d1,h1⟩,e1,hm⟩:=Yd hm;dsimp only at hm;split at hm
 .cases hm;exact h ρ σ H hd ls _ _ _ hR hL e1 λρ1 H1 v x1 R1 r1=>⟨_,by simpa only[RD,RI]using r1,hQ ρ1 H1 _ x1 R1 (by simp[RD,RI])⟩
 .cases hm
section
variable(K:PySem.W.Frag){X:Cx}{a:Expr}{ta:TE}{ma:ME}{b:Bool}{j:_}{pos pos':Pos}
def Qk{j}(ha:QE K X a ta ma):QT K X (.Compare a [.IsNot] [.Constant (.bool b) j pos'] pos) (tB (Nj true b ta)) (AH (HQ true b ma)):=⟨UL (Ru ha.p),Wf (TW ha.r)⟩
end
def Sg{neg b:Bool}{ma:ME}{ls:Ls}{hd:Hd}{QE:D->Hd->Prop}(h:WE ma ls hd λd x=>∃c,d=.im (.bl c)/\QE (.im (.bl (if neg then !decide (c=b)else decide (c=b)))) x):WE (HQ neg b ma) ls hd QE:=by
 obtain⟨d,x,e,c,rfl,q⟩:=h;exact⟨_,_,by simp only[HQ,e,bind_some],q⟩
structure EAt(h:Heap)(e it l:Addr)(i:Nat):Prop where
 e:∃old,IsEnum h e it i old
 r:h.IsListIter it l i
def Ite(K:PySem.W.Frag)(a:Addr):It:=
 ⟨λi H=>∃xs x,SqL K H a xs/\xs[i]?=some x,
  λi H x H'=>∃p v,H p=none/\H'=upd H p (.tup [.int (i:Int),v])/\x=.ref p/\∀xs,SqL K H a xs->xs[i]?=some v,
  λi H=>∃xs,SqL K H a xs/\xs.length<=i⟩
def MU{P:Program}{w:World}{K:PySem.W.Frag}{elts:List Expr}{kk:Nat}{tpos:Pos}{e it l:Addr}(ne:e≠it):Turn P w K (.Tuple elts kk tpos) (Ite K l) [e,it] e (λi h=>EAt h e it l i) where
 mem:=by simp
 obj:=λi h st c hc=>by
  obtain⟨⟨old,he⟩,hr⟩:=st;simp only[mem_cons,not_mem_nil,or_false]at hc;rcases hc with rfl|rfl
  .exact⟨_,he,λv z=>by cases(show Data.fields _=Data.cell v from z)⟩
  .obtain⟨o,q,_,d⟩:=hr;exact⟨o,q,λv z=>by rw[d]at z;cases z⟩
 keep:=λi h h' st k=>by
  obtain⟨⟨old,he⟩,o,q,r⟩:=st;exact⟨⟨old,k e (by simp) _ he⟩,o,k it (by simp) _ q,r⟩
 item:=by
  intro X hP hw hK hc i pins s σ H E I hf st hg;subst hP hw hK;obtain⟨xs,x,h1,hx⟩:=hg;obtain⟨its,r,pl,hz⟩:=I.list h1;obtain⟨u,hu,ru⟩:=r.get hx;obtain⟨⟨old,he⟩,hr⟩:=st;refine wpAny_pyNext_enum_item he hr pl.isList (x:=u) (by simpa using hu) ne λg ho hr' ht hsz kp=>⟨_,rfl,?_⟩
  refine wpAny_letOwnedTupleGo_enum ho λg' e' sb=>?_;have hle:e<s.heap.objs.size:=Heap.lt_size he;have kp2:∀c o,c∉[e,it]->s.heap.get? c=some o->g'.get? c=some o:=λc o nc q=>by
   simp only[mem_cons,not_mem_nil,or_false,not_or]at nc;exact sb.extBut _ _ nc.1 (kp c o nc.1 nc.2 q)
  have hT:s.heap.objs.size≠e:=ne_of_gt hle;have hpair:g'.get? s.heap.objs.size=some { cls:=.type "tuple",data:=.seq #[.int i s.toks,u] }:=sb.extBut _ _ hT ht;have fresh:H s.heap.objs.size=none:=I.hok.fresh (le_refl _);have I2:Inv X pins σ (upd H s.heap.objs.size (.tup [.int (i:Int),x])) { s with heap:=g',toks:=s.toks+1 }:=I.turnsL (tk:=s.toks+1) (o:=.tup [.int (i:Int),x]) kp2 hf (le_refl _)
   (show ObjOk X.prog X.w _ g' _ (.tup [.int (i:Int),x])from⟨by show 2<=sizeLine;decide,[.int i s.toks,u],.cons ⟨_,rfl⟩ (.cons ru .nil),⟨_,hpair,rfl,⟨_,rfl⟩,rfl⟩⟩)
  refine⟨.ref s.heap.objs.size,_,I2,rfl,⟨s.heap.objs.size,x,fresh,rfl,rfl,λxs' q=>by rw[I.list_inj q h1];exact hx⟩,⟨⟨u,?_⟩,?_⟩,λc hc=>?_⟩
  .have:=e';rw[show((i:Int)+1)=((i+1:Nat):Int) by omega]at this;exact this
  .exact hr'.extBut sb.extBut (Ne.symm ne)
  .have lt:c<s.heap.objs.size:=by
    simp only[mem_cons,not_mem_nil,or_false]at hc;rcases hc with rfl|rfl
    .exact hle
    .obtain⟨o,q,_⟩:=hr;exact Heap.lt_size q
   rw[A4 (ne_of_lt lt)];exact(hf c hc).1
 done:=by
  intro X hP hw hK hc i pins s σ H E I hf st hg;subst hP hw hK;obtain⟨xs,h1,hend⟩:=hg;obtain⟨its,r,pl,hz⟩:=I.list h1;have l1':=r.length;obtain⟨⟨old,he⟩,hr⟩:=st;refine wpAny_pyNext_enum_end (show X.A.handled=none from I.ok.hd hc) he hr pl.isList (by simp;omega) λg x=>⟨rfl,?_⟩
  exact I.turns (tk:=s.toks) (λc o nc q=>by
   simp only[mem_cons,not_mem_nil,or_false,not_or]at nc;exact x c o nc.2 q) hf
 self:=λ_ _ _ _ _ st h=>by
  obtain⟨⟨old,he⟩,hr⟩:=st;exact wpAny_pyIter_enum he h
def Lv(K:PySem.W.Frag)(ta:TA):TI:=λσ H R=>ta σ H λvs H1=>∃a xs,vs=[.ref a]/\SqL K H1 a xs/\R (Ite K a) H1
def He:bootBuiltins "enumerate"=some (.type "enumerate"):=by decide +kernel
section
variable{X:Cx}
def Rk(K:PySem.W.Frag){a:Expr}{ta:TA}{elts:List Expr}{kk:Nat}{tpos p pos:Pos}(hg:Gl X "enumerate")(hm:X.mg "enumerate"=none)(ha:PA X [a] ta)(hK:X.K=K:=by rfl)(hs:starEach [a] X.env=[(false,eval a X.env)]:=by rfl):
 PI X (.Tuple elts kk tpos) (.Call (.Name "enumerate" p) [a] [] pos) (Lv K ta):=by
 subst hK;intro pins s σ H R I h;refine Call_ (DD I hg hm He (PyProof.Rows.callWith_type1 (thn (ha pos pins s σ H _ I h) λus s1 ⟨vs,H1,I1,r1,q1⟩=>?_) hs rfl));obtain⟨l,xs,e,c,q⟩:=q1;subst e;obtain⟨u,rfl,ru⟩:=r1.one;cases ru;obtain⟨its,r,pl,hz⟩:=I1.list c;refine call_enumerate_list pl.isList λg he hr hsz kp=>wpAny_pyIter_enum he ?_;refine⟨_,_,_,_,H1,rfl,I1.kept (t':=s1.toks) kp,MU (ne_of_gt (Nat.lt_succ_self _)),⟨⟨_,he⟩,hr⟩,λc hc=>?_,q⟩;simp only[mem_cons,not_mem_nil,or_false]at hc;have le:s1.heap.objs.size<=c:=by
  rcases hc with rfl|rfl
  .exact le_add_right _ _
  .exact le_refl _
 exact I1.fpOk le (I1.hok.fresh le)
end
section
variable{K:PySem.W.Frag}
def Fd(ma:MI):MI:=λls hd=>(ma ls hd).map λp=>((p.1.1.zipIdx.map λq=>AV [.im (.int (q.2:Int)),q.1],p.1.2),p.2)
def QP{ta:TE}{ma:MI}(ha:RRw K false ta ma):RIt K (Lv K (BF ta C6)) (Fd ma):=by
 intro ρ σ H hd ls Q d g hd' hR hL hm hQ;obtain⟨⟨⟨d1,g1⟩,h1⟩,e1,e2⟩:=Ye hm;cases e2;refine ha ρ σ H hd ls _ d1 g1 h1 hR hL e1 λρ1 H1 a x1 R1 G1 S1=>?_;obtain⟨xs,c1,r1⟩:=S1 ρ1 H1 _ .refl R1 G1;refine⟨a,xs,rfl,c1,hQ ρ1 H1 _ x1 R1 G1 ?_⟩;intro ρ3 H3 hd3 x3 R3 G3 i;obtain⟨xs,c1,r1⟩:=S1 ρ3 H3 _ x3 R3 G3;have l1:=r1.len;refine⟨λhi=>?_,λhi=>⟨xs,c1,?_⟩⟩
 .have hi:i<d1.length:=by simpa using hi
  have i1:d1[i]?=some (d1[i]'hi):=List.getElem?_eq_getElem _;obtain⟨x,x4,x5⟩:=r1.get i1;refine⟨⟨xs,x,c1,x4⟩,λz H4 hz=>?_⟩;obtain⟨p,v,fp,rfl,rfl,hv⟩:=hz;have ev:=hv xs c1;rw[x4]at ev;cases ev;obtain⟨R4,x6⟩:=R3.hid (ho:=.tup [.int (i:Int),x]) fp;refine⟨ρ3,AV [.im (.int (i:Int)),d1[i]'hi],x6,rfl,R4,?_,BW (SqT.of AE) (.cons (by simp[RD,RI]) (.cons (x5.ext R3 x6) .nil))⟩;simp[i1]
 .have hi:i=d1.length:=by simpa using hi
  omega
def Qz(K:PySem.W.Frag){X:Cx}{a:Expr}{ta:TE}{ma:MI}{elts:List Expr}{kk:Nat}{tpos p pos:Pos}(hm:X.mg "enumerate"=none)(ha:QR K false X a ta ma)(hg:Gl X "enumerate":=by rfl)(hK:X.K=K:=by rfl)(hs:starEach [a] X.env=[(false,eval a X.env)]:=by rfl):
 QI K X (.Tuple elts kk tpos) (.Call (.Name "enumerate" p) [a] [] pos) (Lv K (BF ta C6)) (Fd ma):=⟨Rk K hg hm (C0 ha.p D9 hs) hK hs,QP ha.r⟩
def Pt{ma:MI}{ls:Ls}{hd:Hd}{QI:List D×Gd->Hd->Prop}(h:WI ma ls hd λp x=>QI (p.1.zipIdx.map λq=>AV [.im (.int (q.2:Int)),q.1],p.2) x):WI (Fd ma) ls hd QI:=by
 obtain⟨p,x,e,q⟩:=h;exact⟨_,_,by simp only[Fd,e,map_some],q⟩
end
end L2
namespace HT
open PySem PySem.Spec PyProof.Rows
section
variable{prog:Program}{w:World}{A:Around}{E:Value->Shared->Prop}{s:Shared}
def getItem_tuple_whole{t sl:Addr}{items:Array Value}{vl vu:Value}{lo hi:Option Int}{Q:Value->Shared->Prop}(ht:IsTup s.heap t items)(hs:s.heap.IsSliceOf sl vl vu .none)(pl:IsPart vl lo)(pu:IsPart vu hi)
 (hw:sIx items.size 0 lo=0/\sIx items.size items.size hi=items.size) (h:Q (.ref t) s):wpAny (model prog w) A (getItem (.ref t) (.ref sl)) Q E s:=by
 obtain⟨os,hos,hcs,hds⟩:=id hs;have hTs:s.TypeIs (.ref sl) "slice":=⟨os,hos,hcs⟩
 unfold getItem
 try with_reducible refine wpAny_holding ?_
 first|refine wpAny_bind (wpAny_pure ?_)|skip
 refine wpAny_bind (wpAny_sequenceKey ht.typeIs (by decide) ?_);refine wpAny_bind (wpAny_callSpecial?_slot (name:=Str.ofString "__getitem__") ht.typeIs PyProof.Rows.slot_tuple_getitem
  (wpAny_call_entry PyProof.Rows.slot_tuple_getitem ht.typeIs entry_tuple_getitem ?_ (args_tuple_getitem _ _)))
 show wpAny _ _ (Builtin.Tuple.tupleItemsOf (.ref t) >>= _) _ _ s;refine wpAny_bind (tupleItemsOf_ ht ?_);refine wpAny_bind (wpAny_typeOf hTs ?_);rw[if_pos (by decide)];refine wpAny_bind (DU hs pl pu ?_);have hno:(((sIx items.size 0 lo:Nat):Int)==0&&(1:Int)==1&&(sIx items.size items.size hi-sIx items.size 0 lo)==items.size)=true:=by
  rw[hw.1,hw.2];simp
 show wpAny _ _ (if(((sIx items.size 0 lo:Nat):Int)==0&&(1:Int)==1&&(sIx items.size items.size hi-sIx items.size 0 lo)==items.size)=true then _ else _) _ _ s;rw[if_pos hno];refine wpAny_bind ?_;unfold Builtin.Tuple.tupleIsExact;refine wpAny_bind (wpAny_typeOf ht.typeIs (wpAny_pure ?_));rw[if_pos (by decide)];exact wpAny_bind (wpAny_rule (wpAny_pure ⟨_,rfl,wpAny_pure h⟩))
end
end HT
namespace L2
open PySem PySem.Spec PyProof.Rows
section
variable{X:Cx}
def O6(K:PySem.W.Frag):V->Option Int->Option Int->Hp->VK->Prop:=λx lo hi H Q=>Tg K x lo hi H Q∨∃a xs,x=.ref a/\SqT K H a xs/\(HT.sIx xs.length 0 lo=0/\HT.sIx xs.length xs.length hi=xs.length)/\Q (.ref a) H
def Q5(K:PySem.W.Frag)(hK:X.K=K:=by rfl):SlR X (O6 K):=by
 subst hK;intro pins s σ H x v vl vu lo hi sl Q I rx hs pl pu h;rcases h with h|⟨a,xs,rfl,hx,hw,q⟩
 .exact Sq pins s σ H x v vl vu lo hi sl Q I rx hs pl pu h
 cases rx;obtain⟨its,r,ht,hz⟩:=I.tuple hx;have hlen:its.toArray.size=xs.length:=by rw[size_toArray];exact r.length.symm
 refine⟨"tuple",_,PyProof.Rows.slot_tuple_getitem.lookup,ht.typeIs,?_⟩;exact HT.getItem_tuple_whole ht hs pl pu (by rw[hlen];exact hw) ⟨.ref a,H,I,rfl,q⟩
end
section
variable{K:PySem.W.Frag}{ρ ρ':List Addr}{H H':Hp}{hd hd':Hd}
def HP(m:ME)(ml mh:MO1):ME:=λls hd=>(m ls hd).bind λp=>(ml ls p.2).bind λl=>(mh ls l.2).bind λh=>(AZ p.1).map λds=>(AV (Cf ds l.1 h.1),h.2)
def TQ{t:TE}{tl th:TO}{m:ME}{ml mh:MO1}(h:RE K t m)(hl:RO1 K tl ml)(hh:RO1 K th mh):RE K (tSl (O6 K) t tl th) (HP m ml mh):=by
 and_intros;obtain⟨⟨d1,h1⟩,e1,hm⟩:=Yd hm;obtain⟨⟨d2,h2⟩,e2,hm⟩:=Yd hm;obtain⟨⟨d3,h3⟩,e3,hm⟩:=Yd hm;obtain⟨ds,e4,e5⟩:=Ye hm;cases e5;dsimp only at e2 e3 e4;refine h ρ σ H hd ls _ d1 h1 hR hL e1 λρ1 H1 v1 x1 R1 r1=>?_;refine hl ρ1 σ H1 h1 ls _ d2 h2 R1 (hL.ext hR x1) e2 λρ2 H2 x2 R2=>?_;refine hh ρ2 σ H2 h2 ls _ d3 _ R2 (hL.ext hR (x1.trans R1 x2)) e3 λρ3 H3 x3 R3=>?_;obtain⟨a,xs,rfl,q,r⟩:=((r1.ext R1 x2).ext R2 x3).tup e4;by_cases c:HT.sIx ds.length 0 d2=0/\HT.sIx ds.length ds.length d3=ds.length
 .refine .inr ⟨a,xs,rfl,q,by rw[r.len];exact c,?_⟩;have e6:Cf ds d2 d3=ds:=by unfold Cf;rw[c.1,c.2];simp
  rw[e6]at hQ;exact hQ ρ3 _ _ ((x1.trans R1 x2).trans R2 x3) R3 (BW q r)
 .refine .inl ⟨a,xs,rfl,q,by rw[r.len];exact c,λp hp=>?_⟩;obtain⟨R4,x4⟩:=R3.hid (ho:=.tup (E3 xs d2 d3)) hp;exact hQ ρ3 _ _ (((x1.trans R1 x2).trans R2 x3).trans R3 x4) R4 (BW (SqT.of AE) ((Kq r).ext R3 x4))
def U9(K:PySem.W.Frag){X:Cx}{e:Expr}{te:TE}{me:ME}{lo hi:Option Expr}{tl th:TO}{ml mh:MO1}{p2 pos:Pos}(h:QE K X e te me)(hl:QO K X lo tl ml)(hh:QO K X hi th mh)(hK:X.K=K:=by rfl):QE K X (.Subscript e (.Slice lo hi none p2) pos) (tSl (O6 K) te tl th) (HP me ml mh):=⟨JX (Q5 K hK) h.p hl.p hh.p,TQ h.r hl.r hh.r⟩
def Sf{ma:ME}{ls:Ls}{QE:D->Hd->Prop}{ml mh:MO1}(h:WE ma ls hd λd x=>WO ml ls x λl y=>WO mh ls y λu z=>∃ds,AZ d=some ds/\QE (AV (Cf ds l u)) z):WE (HP ma ml mh) ls hd QE:=by
 obtain⟨d,x,e1,l,y,e2,u,z,e3,ds,e4,q⟩:=h;exact⟨_,_,by simp only[HP,e1,bind_some,e2,e3,e4,map_some],q⟩
end
section
variable{X:Cx}
def OQ{i:Nat}{y:Str}{elt tg iter tg2 iter2:Expr}{ifs ifs2:List Expr}{scope:Scope}{pos spos py:Pos}{loc fr:List Str}{ix:List Nat}{wi wi2:TI}{g g2:TG}{tf tf2:TT}{te:TE}(hN:X.N.Nodup)(hiN:X.N[i]?=some y)(hy:X.env.scope.names.lookup y=some .local)
 (hc:X.calm=true) (S:CSc X scope fr ix) (hi:PI X tg iter wi)
 (hg:∀s H ex,PG (cCx X (loc++fr) scope s H ex) tg g) (hf:∀s H ex,PF (cCx X (loc++fr) scope s H ex) ifs tf) (hi2:∀s H ex,PI (cCx X (loc++fr) scope s H ex) tg2 iter2 wi2) (hg2:∀s H ex,PG (cCx X (loc++fr) scope s H ex) tg2 g2) (hf2:∀s H ex,PF (cCx X (loc++fr) scope s H ex) ifs2 tf2) (he:∀s H ex,PE (cCx X (loc++fr) scope s H ex) elt te)
 (hsw:swapsWith (LC2 elt tg iter ifs tg2 iter2 ifs2 scope pos) (some (.Name y py)) spos.line X.env=pure true) (hs:∀x,foldedSetIterable iter X.env x=pure x) (hs2:∀s H ex x,foldedSetIterable iter2 (cCx X (loc++fr) scope s H ex).env x=pure x):
 PS X (.Assign [.Name y py] (LC2 elt tg iter ifs tg2 iter2 ifs2 scope pos) spos) (CQ (DT loc.length ix wi g tf wi2 g2 tf2 te) (C1 i)):=by
 intro pins s σ H D I h;have hnames:∀y∈scope.names,y.2=.local->scope.names.lookup y.1=some .local:=λy hy e=>by
  have:=all_eq_true.mp S.loc y hy;rw[e]at this;simpa using this
 rw[exec_Assign_Name_used _ _ _ _ hsw];refine wpAny_bind (wpAny_standAt (wpAny_bind ?_));show wpAny _ _ (do let _ <- comprehension (LC2 elt tg iter ifs tg2 iter2 ifs2 scope pos) scope X.env _ (newList []) false (eval iter X.env) (some (assign (.Name y py) X.env))) _ _ s;refine wpAny_bind (wpAny_mono (wpAny_comprehension_free (use:=some (assign (.Name y py) X.env)) (Q:=λ_ s'=>SP X pins D .next s') rfl hs (Bj (S.clos I.ok)) S.kind hnames
  (thn (hi pins s σ H _ I h) λv s1 h1=>thn h1 λitv s2 h2=>?_)) (λ_ s' hq=>wpAny_pure (wpAny_pure hq)) λ_ _ e=>e)
 obtain⟨it,fp,tn,J,H2,rfl,I2,T,st2,f2,hW⟩:=h2;refine Fx (RR:=λacc C=>compPost (model X.prog X.w) X.A X.xe (some (assign (.Name y py) X.env)) (λ_ s'=>SP X pins D .next s') acc C) hc S hg hf hi2 hg2 hf2 he hs2 I2 T st2 f2 hW λs3 s6 H5 σ5 L I3 I6 f3 q=>?_;have J6:Inv X pins σ H5 s6:=E7 (h'':=s6.heap) I3 I6 f3 (.refl ..);obtain⟨m,hm,_⟩:=I6.loc;have hm:s6.heap.Ns s3.heap.objs.size m:=hm;have hL:s3.heap.objs.size≠X.env.locals:=Ne.symm (ne_of_lt I3.lt);show wpAny _ _ (assign (.Name y py) X.env (.ref L)) _ _ s6;refine wpAny_assign_Name (F6 (v:=.ref L) J6 hN hiN (.inl hy) rfl (λs7 I7 ⟨a,sb,ha⟩=>?_) (.inr hy));have hca:s3.heap.objs.size≠a:=by
  rcases ha with rfl|ha
  .exact hL
  .obtain⟨v,z⟩:=I3.cell y a ha;exact Ne.symm (ne_of_lt z.lt)
 refine⟨m,hm.sameBut sb hca,λh' hs'=>?_⟩;refine⟨_,H5,I7.turned (t':=s7.toks) (it:=s3.heap.objs.size) (λb o hb e=>(hs'.2 b hb).trans e) I6.free hL (.inr I3.sz) (λx c e z=>?_) (λp hp z=>?_),q⟩
 .obtain⟨v,w⟩:=I3.cell x c e;exact absurd w.lt (by rw[z];exact lt_irrefl _)
 .exact absurd (Heap.lt_size (I3.pin p hp).1) (by rw[z];exact lt_irrefl _)
end
def OE(K:PySem.W.Frag){X:Cx}{i:Nat}{y:Str}{elt tg iter tg2 iter2:Expr}{ifs ifs2:List Expr}{scope:Scope}{pos spos py:Pos}{loc fr:List Str}{ix:List Nat}{wi wi2:TI}{g g2:TG}{tf tf2:TT}{te:TE}{mi mi2:MI}{n n2:MG}{mf mf2:MT}{mm:ME}(hN:X.N.Nodup)(hiN:X.N[i]?=some y)(hy:X.env.scope.names.lookup y=some .local)(hc:X.calm=true)(S:CSc X scope fr ix)(hi:QI K X tg iter wi mi)
 (hg:∀s H ex,QG K (cCx X (loc++fr) scope s H ex) tg g n) (hf:∀s H ex,QF K (cCx X (loc++fr) scope s H ex) ifs tf mf) (hi2:∀s H ex,QI K (cCx X (loc++fr) scope s H ex) tg2 iter2 wi2 mi2) (hg2:∀s H ex,QG K (cCx X (loc++fr) scope s H ex) tg2 g2 n2) (hf2:∀s H ex,QF K (cCx X (loc++fr) scope s H ex) ifs2 tf2 mf2) (he:∀s H ex,QE K (cCx X (loc++fr) scope s H ex) elt te mm)
 (hsw:swapsWith (.ListComp elt [⟨tg,iter,ifs,0⟩,⟨tg2,iter2,ifs2,0⟩] scope pos) (some (.Name y py)) spos.line X.env=pure true:=by rfl) (hs:∀x,foldedSetIterable iter X.env x=pure x:=by intro _;rfl) (hs2:∀s H ex x,foldedSetIterable iter2 (cCx X (loc++fr) scope s H ex).env x=pure x:=by intro _ _ _ _;rfl):
 QS K X (.Assign [.Name y py] (.ListComp elt [⟨tg,iter,ifs,0⟩,⟨tg2,iter2,ifs2,0⟩] scope pos) spos) (CQ (DT loc.length ix wi g tf wi2 g2 tf2 te) (C1 i)) (AM i (C9 loc.length ix mi n mf mi2 n2 mf2 mm)):=
 ⟨OQ hN hiN hy hc S hi.p (λs H ex=>(hg s H ex).p) (λs H ex=>(hf s H ex).p) (λs H ex=>(hi2 s H ex).p) (λs H ex=>(hg2 s H ex).p) (λs H ex=>(hf2 s H ex).p) (λs H ex=>(he s H ex).p) hsw hs hs2,Ga (JU K (pos:=pos) hc S hi hg hf hi2 hg2 hf2 he hs hs2).r FW⟩
section
variable{prog:Program}{w:World}{A:Around}{E:Value->Shared->Prop}{s:Shared}
def KL{l:Addr}{vs:List Value}{Q:List Value->Shared->Prop}(hl:IsTup s.heap l vs.toArray)
 (h:Q vs { s with heap:=(s.heap.push (seqObj "list" #[] 0)).update s.heap.objs.size (Obj.mapSeq (·++vs.toArray)) }) (hsz:vs.length<=sizeLine:=by size_fits):
 wpAny (model prog w) A (collect (.ref l)) Q E s:=by
 obtain⟨o,ho,hc,n,hd⟩:=id hl;unfold collect;refine wpAny_bind (wpAny_runValue (codeAny_builtin entry_proto_collect' ?_));show wpAny _ _ (do again (.builtin "list.__iadd__" ⟨[<- newList [],.ref l],[]⟩)) _ _ s;refine wpAny_bind (wpAny_newList (wpAny_pure ⟨Code.quiet_builtin _ (by decide +kernel),codeAny_builtin entry_list_iadd' ?_⟩));show wpAny _ _ (Builtin.List.listExtendWith (.ref s.heap.objs.size) (.ref l) (.ref s.heap.objs.size)) _ _ { s with heap:=s.heap.push (seqObj "list" #[] 0) };unfold Builtin.List.listExtendWith;have ho':(s.heap.push (seqObj "list" #[] 0)).get? l=some o:=Heap.get?_push_of_some _ ho;refine wpAny_bind (wpAny_typeOf (T:="tuple") ⟨o,ho',hc⟩ ?_);have ht:(Value.type "tuple"==Value.type "tuple")=true:=by rfl
 rw[if_pos (by rw[ht];simp)];refine wpAny_bind (listItems_at ho' hd ?_);refine wpAny_bind (listItems_at (xs:=#[]) (n:=0) (Heap.get?_push_size _ rfl) rfl ?_);rw[if_neg (by simp)];refine wpAny_bind (listUpdate_at (xs:=#[]) (n:=0) (Heap.get?_push_size _ rfl) rfl ?_ (zero_le _) (by show(#[]++vs.toArray).size<=sizeLine+1;simp only[Array.size_append,size_toArray,length_nil];omega));refine wpAny_pure ?_;show wpAny (model prog w) A (do
  let o <- load s.heap.objs.size
  match o.data with
  |.seq xs _=>pure xs.toList
  | _=>unsupported "internal:collect") Q E { s with heap:=(s.heap.push (seqObj "list" #[] 0)).update s.heap.objs.size (Obj.mapSeq (·++vs.toArray)) }
 refine wpAny_bind (wpAny_load (get?_update_seq (Heap.get?_push_size _ rfl) _) ?_);show wpAny _ _ (pure ((#[]:Array Value)++vs.toArray).toList) Q E _;rw[show((#[]:Array Value)++vs.toArray).toList=vs by simp];exact wpAny_pure h
def JD{l:Addr}{vs:List Value}{ns:List Int}{Q:Value->Shared->Prop}(hl:IsTup s.heap l vs.toArray)(hI:IntsAre vs ns)(h64:vs.length<64)
 (h:∀(out:Array Value) (ns':List Int),IntsAre out.toList ns'->ns'.Perm ns->ns'.Pairwise (·<=·)->Q (.ref (s.heap.objs.size+1)) { s with heap:=sortedAll s.heap vs out }):
 wpAny (model prog w) A (call (.builtin "sorted") [.ref l]) Q E s:=by
 refine Calls.call_function_entry kind_sorted plain_sorted entry_sorted (args_sorted1 _) ?_;unfold Builtin.«sorted»;refine wpAny_bind (m:=checkCount "sorted" 1 1 _) (wpAny_pure ?_);refine wpAny_bind (KL hl ?_);refine wpAny_bind (wpAny_newList ?_);have hsz:((s.heap.push (seqObj "list" #[] 0)).update s.heap.objs.size (Obj.mapSeq (·++vs.toArray))).objs.size=s.heap.objs.size+1:=by
  rw[Heap.size_update,size_push']
 have hoL:(((s.heap.push (seqObj "list" #[] 0)).update s.heap.objs.size (Obj.mapSeq (·++vs.toArray))).push (seqObj "list" vs.toArray 0)).get? (s.heap.objs.size+1)=some (seqObj "list" vs.toArray 0):=by
  rw[<- hsz];exact Heap.get?_push_size _ rfl
 show wpAny _ _ _ _ _ { s with heap:=((s.heap.push (seqObj "list" #[] 0)).update s.heap.objs.size (Obj.mapSeq (·++vs.toArray))).push (seqObj "list" vs.toArray 0) };rw[hsz];refine wpAny_bind (wpAny_holding (wpAny_call_entry slot_list_sort ⟨_,hoL,rfl⟩ entry_list_sort (list_sort_tree hoL hI h64 λout ns' a1 a2 a3=>⟨_,rfl,?_⟩) (args_list_sort _)));exact wpAny_pure ⟨_,rfl,h out ns' a1 a2 a3⟩
end
section
variable(K:PySem.W.Frag){X:Cx}
def G7:List V->Hp->VK->Prop:=λxs H Q=>∃(a:Addr) (ns:List Int),xs=[.ref a]/\SqT K H a (ns.map V.int)/\ns.length<64/\∀(p:Addr) (ns':List Int),H p=none->ns'.Perm ns->ns'.Pairwise (·<=·)->Q (.ref p) (upd H p (.lst (ns'.map V.int)))
def Ju(hK:X.K=K:=by rfl):CallR X (.builtin "sorted") (G7 K):=by
 subst hK;intro pins s σ H xs us Q I r h;obtain⟨a,ns,rfl,hq,h64,q⟩:=h;obtain⟨u,rfl,ru⟩:=CG r;cases ru;obtain⟨its,rv,p,hz⟩:=I.tuple hq;have hlen:=rv.length;rw[length_map]at hlen;refine JD p (EO rv) (by omega) λout ns' a1 a2 a3=>?_;obtain⟨e,he⟩:=sortedAll_at s.heap its out;have hl':ns'.length=ns.length:=a2.length_eq;refine⟨.ref (s.heap.objs.size+1),_,I.laid (a:=s.heap.objs.size+1) (o:=.lst (ns'.map V.int)) (t':=s.toks) (λb o hb=>sortedAll_old hb) (le_succ _) ⟨?_,out.toList,e,KO a1,he⟩,rfl,q _ _ (I.hok.fresh (le_succ _)) a2 a3⟩;rw[length_map,hl'];exact le_of_lt (Hm (by omega))
end
section
variable{K:PySem.W.Frag}
def LQ{t:TE}{m:MI}(h:RRw K true t m):RN K (tCB (G7 K) (BF t C6)) (Cn m):=by
 and_intros;obtain⟨⟨⟨d1,g1⟩,h1⟩,e1,hm⟩:=Yd hm;obtain⟨ns,e2,hm⟩:=Yd hm;split at hm
 .next c=>
  cases hm;refine h ρ σ H hd ls _ d1 g1 _ hR hL e1 λρ1 H1 a x1 R1 G1 S1=>?_;obtain⟨xs,q,r⟩:=S1 ρ1 H1 _ .refl R1 G1;have e3:d1=ns.map λi=>.im (.int i):=De e2;rw[e3]at r;have:=EG r;subst this;refine⟨a,ns,rfl,q,c,λp ns' hp pm pw=>?_⟩;have:ns'=CT ns:=HI (pm.trans (EY ns).symm) pw (F8 ns);subst this;obtain⟨R2,x2⟩:=R1.hid (ho:=.lst ((CT ns).map V.int)) hp;exact hQ ρ1 _ p _ (x1.trans R1 x2) R2 (x1.none hR hp R1) (R1.out hp) AE Fg
 .cases hm
def LX(K:PySem.W.Frag){X:Cx}{e:Expr}{te:TE}{mi:MI}{p pos:Pos}(hm:X.mg "sorted"=none)(ha:QR K true X e te mi)(hg:Gl X "sorted":=by rfl)(he:starEach [e] X.env=[(false,eval e X.env)]:=by rfl)(hK:X.K=K:=by rfl):QN K X (.Call (.Name "sorted" p) [e] [] pos) (tCB (G7 K) (BF te C6)) (Cn mi):=
 ⟨Ee (Ju K hK) hg hm IJ (C0 ha.p D9 he) (by decide) (by decide) he rfl,LQ ha.r⟩
end
end L2
namespace L2
open PySem PySem.Spec PyProof.Rows PySem.W
section
variable{X:Cx}{pins:List (Addr×Obj)}{σ:St}{H:Hp}{s:Shared}{a:Addr}
def Inv.adopt{o:HO}(I:Inv X pins σ H s)(f:FpOk X pins H a)(h0:X.s₀.heap.objs.size<=a)(new:ObjOk X.prog X.w (upd H a o) s.heap a o):Inv X pins σ (upd H a o) s:=by
 obtain⟨hn,hL,hfs,_,hc,hp⟩:=f;have nb:∀b u,H b=some u->b≠a:=λb u e=>AG e hn;have n0:∀b o,X.s₀.heap.get? b=some o->b≠a:=λb o e=>ne_of_lt (lt_of_lt_of_le (Heap.lt_size e) h0);refine⟨I.ok,I.os,I.bare,⟨I.base.keep,I.base.slot,λb o e n hx=>?_,I.base.there,λb xs e=>?_,λb o u e=>?_,λb ps e=>?_⟩,I.loc,I.cell,?_,λx c e=>?_,λp hp'=>?_,λb u e=>?_,I.len⟩
 .rw[A4 (n0 b o e)];exact I.base.free b o e n hx
 .have:=I.base.tups b xs e;rw[A4 (nb b _ this)];exact this
 .have:=I.base.frzs b o u e;rw[A4 (nb b _ this)];exact this
 .obtain⟨m,e1⟩:=I.base.tbls b ps e;exact⟨m,by rw[A4 (nb b _ e1)];exact e1⟩
 .rw[A4 (λz=>hL z.symm)];exact I.free
 .rw[A4 (hc x c e)];exact I.freeC x c e
 .obtain⟨q1,q2,q3⟩:=I.pin p hp';exact⟨q1,by rw[A4 (hp p hp')];exact q2,q3⟩
 .by_cases z:b=a
  .subst z;rw[AE]at e;cases e;exact new
  .rw[A4 z]at e;exact(I.hok b u e).stay (λ_ _ _ q=>q) (λd q=>by rw[A4 (nb d _ q)];exact q) λd xs q=>by rw[A4 (nb d _ q)];exact q
end
section
variable{X:Cx}{pins:List (Addr×Obj)}{σ:St}{H:Hp}{s:Shared}
def FpOk.more{b c:Addr}{o:Obj}(f:FpOk X pins H b)(h:c≠b):FpOk X ((c,o)::pins) H b:=by
 obtain⟨a1,a2,a3,a4,a5,a6⟩:=f;refine⟨a1,a2,a3,a4,a5,λp hp=>?_⟩;rcases mem_append.mp hp with q|q
 .exact a6 p (mem_append_left _ q)
 .rcases mem_cons.mp q with rfl|q
  .exact h
  .exact a6 p (mem_append_right _ q)
def Inv.repin{b:Addr}{o:Obj}(I:Inv X pins σ H s)(f:FpOk X pins H b)(e:s.heap.get? b=some o)(hd:∀v,o.data≠.cell v):Inv X ((b,o)::pins) σ H s:=
 I.pins_of λp hp=>by
  rcases mem_cons.mp hp with rfl|hp
  .exact⟨e,f.1,f.2.1,f.2.2.1,hd⟩
  .exact I.pin p (mem_append_right _ hp)
end
def Im(K:PySem.W.Frag)(P:Addr)(q:Str)(pos:Pos):Prop:=∃p':Pos,(P,q,p')∈Bu K/\((Bu K).map (·.1)).Nodup/\p'.line=pos.line/\p'.col=pos.col
section
variable{K:PySem.W.Frag}{ρ:List Addr}{H:Hp}{hd:Hd}
def J0{P:Addr}{q:Str}{pos:Pos}{H2:Hp}{ps:Array Value}(R:RH K ρ H hd)(hP:H P=some (.tbl ps))(t:EU P q pos H H2)(TI:Im K P q pos):RH K ρ H2 hd/\Ext ρ H ρ H2:=by
 rcases t with rfl|⟨c,hc,ncP,rfl⟩
 .exact⟨R,.refl⟩
 .obtain⟨p',et,nd,e1,e2⟩:=TI;have nP:∀b,b∈ρ->b≠P:=λb hb z=>by
   subst z;rcases R.mut hb with⟨y,w⟩|⟨y,w⟩<;>(rw[hP]at w;cases w)
  have nc:∀b u,H b=some u->b≠c:=λb u e=>AG e hc;have ex:Ext ρ H ρ (upd (upd H P (.tbl #[rawInt pos.line,rawInt pos.col,.ref c])) c (.ext (cdF c q))):=by
   refine⟨⟨[],by simp,by simp⟩,λb o e nb nt'=>?_,λb ps e=>?_⟩
   .rw[A4 (nc b _ e),A4 (λz=>by subst z;rw[hP]at e;cases e;exact nt' _ rfl)];exact e
   .by_cases z:b=P
    .subst z;exact⟨_,by rw[A4 (nc _ _ hP),AE]⟩
    .exact⟨ps,by rw[A4 (nc b _ e),A4 z];exact e⟩
  refine⟨⟨R.len,R.nd,λx hx=>?_,λn o a h1 h2=>?_⟩,ex⟩
  .by_cases hxP:x.1=P
   .have ex:x=(P,q,p'):=by
     obtain⟨i,hi⟩:=mem_iff_getElem?.mp hx;obtain⟨j,hj⟩:=mem_iff_getElem?.mp et;have i1:((Bu K).map (·.1))[i]?=some P:=by rw[List.getElem?_map,hi];simp[hxP]
     have j1:((Bu K).map (·.1))[j]?=some P:=by rw[List.getElem?_map,hj];rfl
     have:i=j:=(List.getElem?_inj (List.getElem?_eq_some_iff.mp i1).1 nd).mp (i1.trans j1.symm);subst this;exact Option.some.inj (hi.symm.trans hj)
    subst ex;refine⟨#[rawInt pos.line,rawInt pos.col,.ref c],by rw[A4 (nc _ _ hP),AE],.inr ⟨c,?_,AE⟩⟩;show #[rawInt pos.line,rawInt pos.col,Value.ref c]=#[rawInt p'.line,rawInt p'.col,Value.ref c];rw[e1,e2]
   .obtain⟨ps',hx1,hG⟩:=R.tabs x hx;refine⟨ps',by rw[A4 (nc _ _ hx1),A4 hxP];exact hx1,?_⟩;rcases hG with g|⟨c',g1,g2⟩
    .exact .inl g
    .exact .inr ⟨c',g1,by rw[A4 (nc _ _ g2),A4 (λz=>by subst z;rw[hP]at g2;cases g2)];exact g2⟩
  .obtain⟨ho,q1,q2⟩:=R.ob n o a h1 h2;exact⟨ho,by rw[A4 (nc a _ q1),A4 (nP a (mem_of_getElem? h2))];exact q1,by simpa using q2.mono (ex.grow R) []⟩
end
structure LamC(K:PySem.W.Frag)(mg:Str->Option Value)(base:Heap)(fd:FuncData)(c P:Addr)(q:Str)(pos:Pos):Prop where
 code:fd.code=.ref c
 hd:CodeHd base c P
 bl:base.BuiltinsAt mg P
 ti:Im K P q pos
def Oa{P:Program}{w:World}{K:PySem.W.Frag}{mg:Str->Option Value}{base:Heap}{x:Str}{st:Stmt}{f:Addr}{fd:FuncData}{N ps:List Str}{j:Nat}{m:MS}(DA:DefAt K mg x st f fd ps)(S:FnScope N ps (A6 st))
 (h:∀(cdv:Value) (A:Around) (outer:List Env) (s:Shared) (H:Hp) (E:XK),fd.code=cdv->Room j (A.deeper (envOfC x (A6 st) s.heap.objs.size f cdv))->∃t,QSs K (E2 CX0 P w K mg base N x (A6 st) f cdv A outer s H E).nox (Aq st) t m):
 FnOk P w K mg base CX0 (j+1) f fd ps (spF K ps.length (mkF ps.length N.length m)):=by
 obtain⟨F,hmg,bd⟩:=DA;obtain⟨⟨oc,od,kV,doc,pm,an,cdv,ct,osl,rfl,lk,hcd⟩,kp⟩:=F;refine Pm lk hcd S (λvs H Q E h=>h.1) λA outer s H vs Q E hr hs=>?_;obtain⟨t,q⟩:=h cdv A outer s H E rfl hr;exact⟨t,q.p.nox,KR q.r hs⟩
end L2
namespace HS
open PySem PyProof.Rows
open PySem.AutoSeq1 (wpAny_loadPart')
open Sem (wp)
abbrev st(t:Tok):List (Str×Value):=[(Str.ofString "start",.int 1 t)]
end HS
namespace L2
open PySem PySem.Spec PyProof.Rows PySem.W
def Inv.turnE{X:Cx}{pins:List (Addr×Obj)}{σ:St}{H:Hp}{s:Shared}{b:Addr}{o:Obj}{h':Heap}{t':Nat}(I:Inv X ((b,o)::pins) σ H s)(f:FpOk X pins H b)(hs:∀c u,c≠b->s.heap.get? c=some u->h'.get? c=some u):Inv X pins σ H { s with heap:=h',toks:=t' }:=by
 have J:Inv X pins σ H s:=I.pins_of λp hp=>I.pin p (mem_append_right _ (mem_cons_of_mem _ hp));obtain⟨hn,hL,_,h1,h2,h3⟩:=f;exact J.turned (λc u n e=>hs c u n e) hn hL h1 h2 h3
section
variable{K:PySem.W.Frag}{hd:Hd}
def Mc{ρ:List Addr}{H:Hp}{ls:Ls}{σ:St}{ix:List Nat}{d:D}{v:V}(L:RL K ρ H ls σ)(r:RD K ρ H d v):RL K ρ H (some d::ix.map λi=>(ls[i]?).join) (some v::ix.map λi=>(σ[i]?).join):=by
 refine⟨by simp,λi d' ei=>?_⟩;cases i with
 |zero=>cases ei;exact⟨v,rfl,r⟩
 |succ j=>
  have ei:(ix.map λi=>(ls[i]?).join)[j]?=some (some d'):=ei;rw[List.getElem?_map]at ei;cases qj:ix[j]? with
  |none=>rw[qj]at ei;cases ei
  |some m=>
   rw[qj]at ei;have ei:(ls[m]?).join=some d':=Option.some.inj ei;have em:ls[m]?=some (some d'):=by
    cases w:ls[m]? with
    |none=>rw[w]at ei;cases ei
    |some z=>rw[w]at ei;simpa using ei
   obtain⟨v,ev,rv⟩:=L.ob m d' em;refine⟨v,?_,rv⟩;show(ix.map λi=>(σ[i]?).join)[j]?=some (some v);rw[List.getElem?_map,qj];simp[ev]
end
end L2
namespace L2
open PySem PySem.W
def tg1:Expr->List Str
 |.Name x _=>[x]
 |_=>[]
def tg2:Expr->List Str
 |.Tuple es _ _=>es.flatMap tg1
 |e=>tg1 e
def tgN:Expr->List Str
 |.Tuple es _ _=>es.flatMap tg2
 |e=>tg1 e
def frN(X:Cx)(ix:List Nat):List Str:=ix.filterMap λi=>X.N[i]?
def ndB:List Str->Bool
 |[]=>true
 |x::xs=>!xs.elem x&&ndB xs
theorem EI:∀{l:List Str},ndB l=true->l.Nodup
 |[],_=>List.nodup_nil
 |x::xs,h=>by
  obtain⟨h1,h2⟩:=Bool.and_eq_true_iff.mp h;refine nodup_cons.mpr ⟨λhm=>?_,EI h2⟩;rw[List.elem_eq_true_of_mem hm]at h1;cases h1
section
variable{K:PySem.W.Frag}{X:Cx}{elt tg iter tg' iter' e:Expr}{ifs ifs':List Expr}{scope:Scope}{pos spos py:Pos}{ix:List Nat}{wi wi':TI}{g g':TG}{tf tf':TT}{te tk tv:TE}{mi mi':MI}{n n':MG}{mf mf':MT}{me mk mv:ME}{k i:Nat}{x y:Str}
def qgA(hN:ndB X.N=true:=by kernel_rfl)(hi:X.N[i]?=some x:=by rfl)(hx:Loc X.env.scope x:=by first|exact Or.inl rfl|exact Or.inr rfl)(hf:X.fn x=true∨X.env.scope.names.lookup x=some .local:=by first|exact .inl rfl|exact .inr rfl):QG K X (.Name x pos) (C1 i) (AB i):=R9 K (EI hN) hi hx hf
def qnA(hi:QI K X tg iter wi mi)(hg:∀s H ex,QG K (cCx X (tgN tg++frN X ix) scope s H ex) tg g n)(hf:∀s H ex,QF K (cCx X (tgN tg++frN X ix) scope s H ex) ifs tf mf)(he:∀s H ex,QE K (cCx X (tgN tg++frN X ix) scope s H ex) elt te me)
 (hc:X.calm=true:=by rfl) (S:CSc X scope (frN X ix) ix:=by exact⟨rfl,by decide +kernel,rfl,rfl,rfl,by decide +kernel⟩) (hs:∀x,foldedSetIterable iter X.env x=pure x:=by intro _;rfl) (hk:(tgN tg).length=k:=by rfl):
 QN K X (.ListComp elt [⟨tg,iter,ifs,0⟩] scope pos) (EV k ix wi g tf te) (Ab k ix mi n mf me):=by
 subst hk;exact Qw K hc S hi hg hf he hs
def Wj(hi:QI K X tg iter wi mi)(hg:∀s H ex,QG K (cCx X (tgN tg++frN X ix) scope s H ex) tg g n)(hf:∀s H ex,QF K (cCx X (tgN tg++frN X ix) scope s H ex) ifs tf mf)(he:∀s H ex,QE K (cCx X (tgN tg++frN X ix) scope s H ex) elt te me)
 (hsw:swapsWith (.ListComp elt [⟨tg,iter,ifs,0⟩] scope pos) (some (.Name y py)) spos.line X.env=pure true:=by rfl) (hN:ndB X.N=true:=by kernel_rfl) (hiN:X.N[i]?=some y:=by rfl) (hy:X.env.scope.names.lookup y=some .local:=by rfl)
 (hc:X.calm=true:=by rfl) (S:CSc X scope (frN X ix) ix:=by exact⟨rfl,by decide +kernel,rfl,rfl,rfl,by decide +kernel⟩) (hs:∀x,foldedSetIterable iter X.env x=pure x:=by intro _;rfl) (hk:(tgN tg).length=k:=by rfl):
 QS K X (.Assign [.Name y py] (.ListComp elt [⟨tg,iter,ifs,0⟩] scope pos) spos) (CQ (EV k ix wi g tf te) (C1 i)) (AM i (Ah (Ab k ix mi n mf me))):=by
 subst hk;exact Qo K (EI hN) hiN hy hc S hi hg hf he hsw hs
def Wl(hi:QI K X tg iter wi mi)(hg:∀s H ex,QG K (cCx X ((tgN tg++tgN tg')++frN X ix) scope s H ex) tg g n)(hf:∀s H ex,QF K (cCx X ((tgN tg++tgN tg')++frN X ix) scope s H ex) ifs tf mf)(hi2:∀s H ex,QI K (cCx X ((tgN tg++tgN tg')++frN X ix) scope s H ex) tg' iter' wi' mi')(hg2:∀s H ex,QG K (cCx X ((tgN tg++tgN tg')++frN X ix) scope s H ex) tg' g' n')(hf2:∀s H ex,QF K (cCx X ((tgN tg++tgN tg')++frN X ix) scope s H ex) ifs' tf' mf')(he:∀s H ex,QE K (cCx X ((tgN tg++tgN tg')++frN X ix) scope s H ex) elt te me)
 (hc:X.calm=true:=by rfl) (S:CSc X scope (frN X ix) ix:=by exact⟨rfl,by decide +kernel,rfl,rfl,rfl,by decide +kernel⟩) (hs:∀x,foldedSetIterable iter X.env x=pure x:=by intro _;rfl) (hs2:∀s H ex x,foldedSetIterable iter' (cCx X ((tgN tg++tgN tg')++frN X ix) scope s H ex).env x=pure x:=by intro _ _ _ _;rfl) (hk:(tgN tg++tgN tg').length=k:=by rfl):
 QE K X (.ListComp elt [⟨tg,iter,ifs,0⟩,⟨tg',iter',ifs',0⟩] scope pos) (DT k ix wi g tf wi' g' tf' te) (C9 k ix mi n mf mi' n' mf' me):=by
 subst hk;exact JU K hc S hi hg hf hi2 hg2 hf2 he hs hs2
def Vj(hi:QI K X tg iter wi mi)(hg:∀s H ex,QG K (cCx X ((tgN tg++tgN tg')++frN X ix) scope s H ex) tg g n)(hf:∀s H ex,QF K (cCx X ((tgN tg++tgN tg')++frN X ix) scope s H ex) ifs tf mf)(hi2:∀s H ex,QI K (cCx X ((tgN tg++tgN tg')++frN X ix) scope s H ex) tg' iter' wi' mi')(hg2:∀s H ex,QG K (cCx X ((tgN tg++tgN tg')++frN X ix) scope s H ex) tg' g' n')(hf2:∀s H ex,QF K (cCx X ((tgN tg++tgN tg')++frN X ix) scope s H ex) ifs' tf' mf')(he:∀s H ex,QE K (cCx X ((tgN tg++tgN tg')++frN X ix) scope s H ex) elt te me)
 (hsw:swapsWith (.ListComp elt [⟨tg,iter,ifs,0⟩,⟨tg',iter',ifs',0⟩] scope pos) (some (.Name y py)) spos.line X.env=pure true:=by rfl) (hN:ndB X.N=true:=by kernel_rfl) (hiN:X.N[i]?=some y:=by rfl) (hy:X.env.scope.names.lookup y=some .local:=by rfl)
 (hc:X.calm=true:=by rfl) (S:CSc X scope (frN X ix) ix:=by exact⟨rfl,by decide +kernel,rfl,rfl,rfl,by decide +kernel⟩) (hs:∀x,foldedSetIterable iter X.env x=pure x:=by intro _;rfl) (hs2:∀s H ex x,foldedSetIterable iter' (cCx X ((tgN tg++tgN tg')++frN X ix) scope s H ex).env x=pure x:=by intro _ _ _ _;rfl) (hk:(tgN tg++tgN tg').length=k:=by rfl):
 QS K X (.Assign [.Name y py] (.ListComp elt [⟨tg,iter,ifs,0⟩,⟨tg',iter',ifs',0⟩] scope pos) spos) (CQ (DT k ix wi g tf wi' g' tf' te) (C1 i)) (AM i (C9 k ix mi n mf mi' n' mf' me)):=by
 subst hk;exact OE K (EI hN) hiN hy hc S hi hg hf hi2 hg2 hf2 he hsw hs hs2
def qsA{pos':Pos}(he:QE K X e te me)(hs:swapsWith e (some (.Name x pos')) pos.line X.env=pure false:=by rfl)(hN:ndB X.N=true:=by kernel_rfl)(hi:X.N[i]?=some x:=by rfl)(hx:Loc X.env.scope x:=by first|exact Or.inl rfl|exact Or.inr rfl)(hf:X.fn x=true∨X.env.scope.names.lookup x=some .local:=by first|exact .inl rfl|exact .inr rfl):
 QS K X (.Assign [.Name x pos'] e pos) (CQ te (C1 i)) (AM i me):=To K (EI hN) hi hx he hs hf
end
end L2
namespace L2
open PySem PySem.Spec PyProof.Rows PySem.W
abbrev Tb:=Addr×Str×Nat×Nat
def S8(ts:List Tb):Obj:={ cls:=.str "tables" 0,data:=.fields (ts.flatMap λt=>[.ref t.1,.str t.2.1 0,.int t.2.2.1 0,.int t.2.2.2 0]).toArray }
def Av(K:PySem.W.Frag)(ts:List Tb):PySem.W.Frag:=(K.filter λp=>!(ts.map (·.1)).contains p.1)++[(mainGlobals,S8 ts)]
theorem MV:∀ts:List Tb,Ia (ts.flatMap λt=>[Value.ref t.1,.str t.2.1 0,.int t.2.2.1 0,.int t.2.2.2 0])=ts.map λt=>(t.1,t.2.1,⟨t.2.2.1,t.2.2.2,0,0⟩)
 |[]=>rfl
 |t::r=>by
  rw[List.flatMap_cons,map_cons,<- MV r];rfl
def F4(K:PySem.W.Frag)(ts:List Tb):Bu (Av K ts)=ts.map λt=>(t.1,t.2.1,⟨t.2.2.1,t.2.2.2,0,0⟩):=by
 unfold Bu Av;rw[List.getLast?_concat];show Ia _=_;rw[<- MV ts]
theorem Dt{L:List Addr}{a:Addr}(ha:a∉L):∀K:PySem.W.Frag,(K.filter λp=>!L.contains p.1).lookup a=K.lookup a
 |[]=>rfl
 |(b,o)::r=>by
   have ih:=Dt ha r;rw[filter_cons];by_cases hb:b∈L
   .have h1:(!L.contains (b,o).1)=false:=by simp[hb]
    have h2:(a==b)=false:=beq_eq_false_iff_ne.mpr λz=>ha (z ▸ hb);rw[if_neg (by rw[h1];decide),lookup_cons,h2,ih]
   .have h1:(!L.contains (b,o).1)=true:=by simp[hb]
    rw[if_pos h1,lookup_cons,lookup_cons,ih]
theorem FM{L:List Addr}{P:Addr}(hP:P∈L):∀K:PySem.W.Frag,(K.filter λp=>!L.contains p.1).lookup P=none
 |[]=>rfl
 |(b,o)::r=>by
   have ih:=FM hP r;rw[filter_cons];by_cases hb:b∈L
   .rw[if_neg (by simp[hb])];exact ih
   .have h2:(P==b)=false:=beq_eq_false_iff_ne.mpr λz=>hb (z ▸ hP);rw[if_pos (by simp[hb]),lookup_cons,h2];exact ih
section
variable{K:PySem.W.Frag}{ts:List Tb}
def FI{a:Addr}{o:Obj}(ha:a∉ts.map (·.1))(e:K.lookup a=some o):(Av K ts).lookup a=some o:=by
 unfold Av;rw[lookup_append,Dt ha,e];rfl
def S7{h:Heap}(X:K.In h){g:Obj}(hg:K.lookup mainGlobals=some g)(hP:mainGlobals∉ts.map (·.1)):(Av K ts).In h:=λa o e=>by
 unfold Av at e;rw[lookup_append]at e;by_cases ha:a∈ts.map (·.1)
 .rw[FM ha,none_or]at e;have h2:(a==mainGlobals)=false:=beq_eq_false_iff_ne.mpr λz=>hP (z ▸ ha);rw[lookup_cons,h2]at e;cases e
 .rw[Dt ha]at e;cases k:K.lookup a with
  |some o'=>rw[k]at e;cases e;exact X _ _ k
  |none=>
   rw[k,none_or,lookup_cons]at e;by_cases hm:a=mainGlobals
   .subst hm;rw[hg]at k;cases k
   .rw[beq_eq_false_iff_ne.mpr hm]at e;cases e
def S6(hM:mainGlobals∉ts.map (·.1)){P:Addr}(hP:P∈ts.map (·.1)):(Av K ts).lookup P=none:=by
 unfold Av;have h2:(P==mainGlobals)=false:=beq_eq_false_iff_ne.mpr λz=>hM (z ▸ hP);rw[lookup_append,FM hP,none_or,lookup_cons,h2];rfl
def Fun.mark{x qual:Str}{st:Stmt}{f:Addr}{fd:FuncData}(D:Fun K x qual st f fd){h:Heap}(X:K.In h)(hP:∀P∈ts.map (·.1),h.get? P=some (tabObj #[])):Fun (Av K ts) x qual st f fd:=by
 have neP:∀a o,K.lookup a=some o->o≠tabObj #[]->a∉ts.map (·.1):=λa o e n z=>by
  have:=X _ _ e;rw[hP a z]at this;exact n (Option.some.inj this).symm
 obtain⟨⟨oc,od,kV,doc,pm,an,cdv,ct,osl,rfl,lk,hcd⟩,kp⟩:=D;have hf:f∉ts.map (·.1):=neP f _ lk (λz=>by cases z);refine⟨⟨oc,od,kV,doc,pm,an,cdv,ct,osl,rfl,FI hf lk,?_⟩,?_⟩
 .unfold codeIn at hcd ⊢;split at hcd
  .next c0=>
   split at hcd
   .next vs sl k=>
    have hc:c0∉ts.map (·.1):=neP c0 _ k (λz=>by
     have:vs=#[]:=by injection z with _ _ z _;injection z
     rw[this]at hcd;cases hcd)
    simp only[FI hc k];exact hcd
   .cases hcd
  .cases hcd
 .unfold keepIn;simp only[FI hf lk]
end
def Vc{K:PySem.W.Frag}{H:Hp}{a:Addr}{xs:List V}(hS:SqL K H a xs)(hO:∀ys,H a≠some (.lst ys)):RoL K H a xs:=by
 rcases hS with(h|h)|h
 .exact absurd h (hO xs)
 .exact .inl h
 .exact .inr h
def N2{Pg:Program}{w:World}{K:PySem.W.Frag}{mg mb:Str->Option Value}{k:Nat}{fa a:Addr}{fd:FuncData}{x:Str}{ts:List Tb}{s₁:Shared}{vs:List Value}{ns:List Int}{F:List D->Hd->Option (D×Hd)}
 (KX:K.In s₁.heap) (hns:s₁.heap.Ns mainGlobals mg) (hb:s₁.heap.Ns builtinsNs mb) (hbb:∀x:Str,x≠"__name__"->mb x=bootBuiltins x) (hlim:s₁.heap.NoLimit) (hg:s₁.gens=#[])
 (ha:s₁.heap.get? a=some { cls:=.type "list",data:=.seq vs.toArray }) (hi:IntsAre vs ns) (hl:ns.length<=sizeLine) (hr:Room k callerA)
 (hT:∀P∈ts.map (·.1),∃cc,s₁.heap.TableAt cc P #[]) (hPK:∀P∈ts.map (·.1),K.lookup P=none) (htab:Bu K=ts.map λt=>(t.1,t.2.1,⟨t.2.2.1,t.2.2.2,0,0⟩))
 (Fn:∀base:Heap,K.In base->base.Ns mainGlobals mg->(∀b o,b∉ts.map (·.1)->b≠a->s₁.heap.get? b=some o->base.get? b=some o)->FnOk Pg w K mg base CX0 k fa fd [x] (spF K 1 F)) (hbind:∀(s:Shared) (u:Value),BindsTo s fd ⟨[u],[]⟩ [(x,u)])
 (hF:∃hd',F [.ro ns] []=some (.im (.bl true),hd')):
 codeAny (model Pg w) callerA (.call (.ref fa) ⟨[.ref a],[]⟩) (λr s'=>r=.ok (.ret (.bool true))/\OldK s₁.heap s'.heap/\s'.os=s₁.os/\AllBare s'.gens) s₁:=by
 have rv:=Hk hi;have lenV:=hi.length;have hP:∀P∈ts.map (·.1),s₁.heap.get? P=some (tabObj #[]):=λP h=>let ⟨cc,t⟩:=hT P h;t.2
 have haP:a∉ts.map (·.1):=λz=>by rw[hP a z]at ha;cases ha
 have core:∀H:Hp,(∀b,b∉ts.map (·.1)->H b=none∨∃o xs,H b=some (.frz o (.lst xs)))->(∀P∈ts.map (·.1),H P=some (.tbl #[]))->SqL K H a (ns.map V.int)->HOk Pg w H s₁.heap->(∀b,H b≠none->b=a∨b∈ts.map (·.1))->(H a≠none->K.lookup a=none) ->
  codeAny (model Pg w) callerA (.call (.ref fa) ⟨[.ref a],[]⟩) (λr s'=>r=.ok (.ret (.bool true))/\OldK s₁.heap s'.heap/\s'.os=s₁.os/\AllBare s'.gens) s₁:=by
  intro H hO hHP hS hok hA hK;have base_of:∀{b:Addr} {o:Obj},s₁.heap.get? b=some o->H b=none->(En s₁.heap H).get? b=some o:=λe n=>Ot e n;have noA:∀{b:Addr} {o:Obj} {es:Array DictEntry} {ep:Nat},s₁.heap.get? b=some o->o.data=.dict es ep->H b=none:=λ{b o es ep} e d=>by
   cases q:H b with
   |none=>rfl
   |some u=>
    rcases hA b (by rw[q];simp)with e'|e'
    .subst e';rw[ha]at e;cases e;have d':Data.seq vs.toArray _=Data.dict es ep:=d;cases d'
    .rw[hP b e']at e;cases e;cases d
  have nsK:∀{b:Addr} {m:Str->Option Value},s₁.heap.Ns b m->(En s₁.heap H).Ns b m:=λ{b m} ⟨o,es,ep,e,d,r⟩=>⟨o,es,ep,base_of e (noA e d),d,r⟩
  have hKb:K.In (En s₁.heap H):=λb o e=>base_of (KX b o e) (by
   cases q:H b with
   |none=>rfl
   |some u=>
    rcases hA b (by rw[q];simp)with e'|e'
    .subst e';rw[hK (by rw[q];simp)]at e;cases e
    .rw[hPK b e']at e;cases e)
  have hM:Mod K mg (En s₁.heap H):=⟨hKb,nsK hns,⟨mb,nsK hb,hbb⟩,let ⟨mc,h1,h2⟩:=hlim;⟨mc,nsK h1,h2⟩⟩
  have e0:Env0 Pg w K mg (En s₁.heap H) callerA [] s₁ H:=⟨rfl,hM,λb o e=>Rz e,Nat.le_of_eq (N6 _ _),trivial,λb hb=>absurd (show b∈([]:List Addr)from hb) (by simp),hok,.of_eq hg⟩
  have hsp:spF K 1 F [.ref a] H (λv _=>v=.bl true) λ_ _ _=>False:=by
   obtain⟨hd',e⟩:=hF;refine⟨rfl,[],[],[.ro ns],.im (.bl true),hd',⟨rfl,List.nodup_nil,λy hy=>?_,λn o a h=>by simp at h⟩,?_,e,λρ' H' v _ _ r=>?_⟩
   .rw[htab]at hy;obtain⟨t,ht,rfl⟩:=mem_map.mp hy;exact⟨#[],hHP t.1 (mem_map.mpr ⟨t,ht,rfl⟩),.inl rfl⟩
   .simp only[RDs,RD];refine⟨_,_,rfl,⟨a,rfl,Vc hS λys z=>?_⟩,rfl⟩;rcases hO a haP with q|⟨o,ys,q⟩<;>(rw[q]at z;cases z)
   .simpa only[RD,RI]using r
  refine codeAny_mono ((Fn _ hKb (nsK hns) λb o n1 n2 e=>base_of e (by
   cases q:H b with
   |none=>rfl
   |some u=>
    rcases hA b (by rw[q];simp)with e'|e'
    .exact absurd e' n2
    .exact absurd e' n1)).run callerA [] s₁ H ⟨[.ref a],[]⟩ [.ref a] [.ref a] _ _ hr e0 (hbind s₁ (.ref a)) (.cons rfl .nil) hsp) λr s' h=>?_
  cases r with
  |error e=>exact h.elim
  |ok fl=>
   cases fl with
   |next=>exact False.elim h
   |brk=>exact False.elim h
   |cont=>exact False.elim h
   |ret u=>
    obtain⟨v,H',os,bare,un,hok',r',q⟩:=h;have q':v=.bl true:=q;subst q';obtain rfl:u=Value.bool true:=r';have keep:∀b o,b∉ts.map (·.1)->s₁.heap.get? b=some o->s'.heap.get? b=some o:=λb o nb e=>by
     cases q:H b with
     |none=>exact un.keep b o e q (by intro z;exact absurd (show b∈([]:List Addr)from z) (by simp)) (by simp)
     |some u=>
      rcases hO b nb with z|⟨ob,xs,z⟩
      .rw[q]at z;cases z
      .have z2:=un.frzs b ob _ z;obtain⟨e1,_⟩:=hok b _ z;obtain⟨e2,_⟩:=hok' b _ z2;rw[e]at e1;cases e1;exact e2
    refine⟨rfl,⟨λb o e=>?_,λb o e=>?_⟩,os,bare⟩
    .by_cases nb:b∈ts.map (·.1)
     .obtain⟨cc,tb⟩:=hT b nb;obtain⟨more,hm⟩:=un.tbls b #[] (hHP b nb);have hb':s'.heap.get? b=some (tabObj (#[]++more)):=hok' b _ hm;rw[hP b nb]at e;cases e;exact .inr (.inl ⟨tb.isCodeTable,rfl,#[],more,rfl,hb'⟩)
     .exact .inl (keep b o nb e)
    .by_cases nb:b∈ts.map (·.1)
     .obtain⟨more,hm⟩:=un.tbls b #[] (hHP b nb);exact⟨_,hok' b _ hm⟩
     .exact⟨o,keep b o nb e⟩
 cases hk:K.lookup a with
 |some o=>
  have e:=KX a o hk;rw[ha]at e;cases e;refine core (λb=>if b∈ts.map (·.1)then some (.tbl #[])else none) (λb nb=>.inl (if_neg nb)) (λP hp=>if_pos hp) (.inr ⟨_,vs.toArray,_,hk,rfl,rfl,rfl,by rw[size_toArray,lenV];exact hl,by simpa using rv⟩) (λb u z=>?_) (λb z=>?_) λz=>absurd (if_neg haP) z
  .by_cases hb:b∈ts.map (·.1)
   .have z':=(if_pos hb).symm.trans z;cases z';exact hP b hb
   .have z':=(if_neg hb).symm.trans z;cases z'
  .by_cases hb:b∈ts.map (·.1)
   .exact .inr hb
   .exact absurd (if_neg hb) z
 |none=>
  refine core (λb=>if b∈ts.map (·.1)then some (.tbl #[])else if b=a then some (.frz { cls:=.type "list",data:=.seq vs.toArray } (.lst (ns.map V.int)))else none) (λb nb=>?_) (λP hp=>if_pos hp) (.inl (.inr ⟨{ cls:=.type "list",data:=.seq vs.toArray },(if_neg haP).trans (if_pos rfl)⟩)) (λb u z=>?_) (λb z=>?_) λ_=>hk
  .rw[if_neg nb];by_cases hb:b=a
   .exact .inr ⟨_,_,if_pos hb⟩
   .exact .inl (if_neg hb)
  .by_cases hp:b∈ts.map (·.1)
   .have z':=(if_pos hp).symm.trans z;cases z';exact hP b hp
   .have z:=(if_neg hp).symm.trans z;by_cases hb:b=a
    .have z':=(if_pos hb).symm.trans z;cases z';subst hb;exact⟨ha,by rw[length_map];exact hl,vs,_,rv,ha⟩
    .have z':=(if_neg hb).symm.trans z;cases z'
  .by_cases hp:b∈ts.map (·.1)
   .exact .inr hp
   .by_cases hb:b=a
    .exact .inl hb
    .exact absurd ((if_neg hp).trans (if_neg hb)) z
def walkL{l:PySem.W.OpenLaw}{n k:Nat}{q:Program}{loose:List Str}{XP:(Str->Option Value)->Heap->Prop}{YP:World->Heap->Prop}{d:DefRec}{K:Params->PySem.W.Frag}{F:List D->Hd->Option (D×Hd)}(xs:List (Str×Str×Nat×Nat))
 (hn:l.most=some n) (hn2:n<=sizeLine) (hdf:d.params.defaults=[]) (hr:Room k callerA) (hdr:∀x∈xs,∃dr,(recsOf q).find? (λe=>e.name==x.1)=some dr)
 (hF:∀ns:List Int,∃hd',F [.ro ns] []=some (.im (.bl true),hd'))
 (hY:∀(w:World) (h:Heap),YP w h->(K w.params).In h)
 (G:∀(w:World) (mg:Str->Option Value) (fa:Addr) (h:Heap) (c P:Str->Addr),(K w.params).In h->h.Ns mainGlobals mg->mg d.name=some (.ref fa) ->
  (∀x∈xs,h.get? (P x.1)=some (tabObj #[])/\CodeHd h (c x.1) (P x.1)/\∃a o fd,mg x.1=some (.ref a)/\h.get? a=some o/\o.data=.func fd/\fd.code=.ref (c x.1)) ->
  (∃g,(K w.params).lookup mainGlobals=some g)/\∃fd:FuncData,(∀(s:Shared) (u:Value),BindsTo s fd ⟨[u],[]⟩ [("_law_script",u)])/\
   ∀base:Heap,(Av (K w.params) (xs.map λx=>(P x.1,x.2))).In base->base.Ns mainGlobals mg->(∀x∈xs,CodeHd base (c x.1) (P x.1))->(∀x∈xs,base.BuiltinsAt mg (P x.1))->FnOk l.prog w (Av (K w.params) (xs.map λx=>(P x.1,x.2))) mg base CX0 k fa fd ["_law_script"] (spF (Av (K w.params) (xs.map λx=>(P x.1,x.2))) 1 F)):
 PySem.W.WalkO q loose XP YP l.row.toRowW d [] (λf vs=>PySem.call f vs):=by
 refine Att.attach_call hn hdf λw s₀ s₁ mg mb fa o pm cd doc a vs ns Gr Y ho hd hcd hmg hobj hints hlen hg=>?_;have KX:=hY w _ Y;have each:∀x:Str,∃cp:Addr×Addr,(∃y∈xs,y.1=x)->(∃cc,s₁.heap.TableAt cc cp.2 #[])/\CodeHd s₁.heap cp.1 cp.2/\∃a o fd,mg x=some (.ref a)/\s₁.heap.get? a=some o/\o.data=.func fd/\fd.code=.ref cp.1:=by
  intro x;by_cases hx:∃y∈xs,y.1=x
  .obtain⟨y,hy,rfl⟩:=hx;obtain⟨dr,hdr⟩:=hdr y hy;have hnm:dr.name=y.1:=beq_iff_eq.mp (List.find?_some (p:=λe:DefRec=>e.name==y.1) hdr);obtain⟨a',o',fd',c,P,h1,h2,h3,h4,h5,h6⟩:=Gr.T.tab dr (List.mem_of_find?_eq_some hdr);rw[hnm]at h1;exact⟨(c,P),λ_=>⟨⟨_,h6⟩,CodeHd.of h5 h6,a',o',fd',h1,h2,h3,h4⟩⟩
  .exact⟨(0,0),λh=>absurd h hx⟩
 obtain⟨cp,hcp⟩:=Classical.skolem.mp each;have hcp:∀x∈xs,(∃cc,s₁.heap.TableAt cc (cp x.1).2 #[])/\CodeHd s₁.heap (cp x.1).1 (cp x.1).2/\∃a o fd,mg x.1=some (.ref a)/\s₁.heap.get? a=some o/\o.data=.func fd/\fd.code=.ref (cp x.1).1:=λx hx=>hcp x.1 ⟨x,hx,rfl⟩;have hts:∀P∈(xs.map λx=>((cp x.1).2,x.2)).map (·.1),∃x∈xs,P=(cp x.1).2:=λP hP=>by
  obtain⟨t,ht,rfl⟩:=mem_map.mp hP;obtain⟨x,hx,rfl⟩:=mem_map.mp ht;exact⟨x,hx,rfl⟩
 have hP:∀x∈xs,s₁.heap.get? (cp x.1).2=some (tabObj #[]):=λx hx=>by
  obtain⟨⟨cc,t⟩,_⟩:=hcp x hx;exact t.2
 have hmP:mainGlobals∉(xs.map λx=>((cp x.1).2,x.2)).map (·.1):=λz=>by
  obtain⟨x,hx,ez⟩:=hts _ z;obtain⟨o,es,ep,e,dd,_⟩:=Gr.T.g;rw[ez,hP x hx]at e;cases e;cases dd
 obtain⟨⟨g,hgl⟩,fd,hb,hFn⟩:=G w mg fa _ (λx=>(cp x).1) (λx=>(cp x).2) KX Gr.T.g hmg λx hx=>⟨hP x hx,(hcp x hx).2⟩
 refine N2 (ts:=xs.map λx=>((cp x.1).2,x.2)) (K:=Av (K w.params) (xs.map λx=>((cp x.1).2,x.2))) (S7 KX hgl hmP) Gr.T.g Gr.T.b Gr.T.builtins Gr.T.nolimit hg hobj hints (le_trans hlen hn2) hr (λP hp=>by obtain⟨x,hx,rfl⟩:=hts P hp;exact(hcp x hx).1) (λP hp=>S6 hmP hp) (F4 _ _) (λbase kb nb keep=>hFn base kb nb (λx hx=>?_) λx hx=>?_) hb (hF ns)
 .obtain⟨oc,vs',file,tf,flags,tg,inF,text,tt,e1,r1,r2,r3,r4,r5,r6,r7,r8,hne⟩:=(hcp x hx).2.1;have hn:(cp x.1).1∉(xs.map λx=>((cp x.1).2,x.2)).map (·.1):=λz=>by
   obtain⟨y,hy,ez⟩:=hts _ z;rw[ez,hP y hy]at e1;cases e1;cases r1
  exact⟨oc,vs',file,tf,flags,tg,inF,text,tt,keep (cp x.1).1 oc hn (λz=>by rw[z,hobj]at e1;cases e1;exact absurd (show Value.type "list"=Value.type "code" from r1) (by decide)) e1,r1,r2,r3,r4,r5,r6,r7,r8,hne⟩
 .obtain⟨bm,ob,b1,b2,b3,b4,b5,b6⟩:=Gr.T.bmain;have nP:∀y∈xs,bm≠(cp y.1).2:=λy hy z=>by rw[z,hP y hy]at b3;cases b3;cases b4
  have hn:bm∉(xs.map λx=>((cp x.1).2,x.2)).map (·.1):=λz=>by
   obtain⟨y,hy,ez⟩:=hts _ z;exact nP y hy ez
  refine⟨bm,ob,b1,b2,λz=>?_,nP x hx,keep bm ob hn (λz=>by rw[z,hobj]at b3;cases b3;exact absurd (show Value.type "list"=Value.type "module" from b4) (by decide)) b3,b4,b5,b6⟩;obtain⟨o,es,ep,e,dd,_⟩:=Gr.T.g;rw[<- z,b3]at e;cases e;rw[b6]at dd;cases dd
def Na(o:Obj):Option Addr:=match o.data with
 | .fields vs=>(match (vs[11]?:Option Value)with
  |some (Value.ref P)=>some P
  | _=>none)
 |_=>none
def Sm{K:PySem.W.Frag}{h:Heap}{c P p:Addr}{o:Obj}(X:K.In h)(hc:CodeHd h c P)(k:K.lookup c=some o)(e:Na o=some p):P=p:=by
 obtain⟨o',vs,file,tf,flags,tg,inF,text,tt,e1,e2,e3,e4,_⟩:=hc;have:=X _ _ k;rw[e1]at this;cases this;simp only[Na,e3,e4]at e;exact Option.some.inj e
end L2
namespace L2
open PySem PySem.W PyProof.Rows
abbrev FD:=List D->Hd->Option (D×Hd)
structure EnK where
 P:Program
 w:World
 K:PySem.W.Frag
 mg:Str->Option Value
 base:Heap
structure Df where
 x:Str
 st:Stmt
 ps:List Str
 k:Nat
 F:FD
def Dn(E:EnK)(e:Df):Prop:=∃f fd,DefAt E.K E.mg e.x e.st f fd e.ps
def Dl(E:EnK)(e:Df)(ps:Pos):Prop:=∃f fd c P,DefAt E.K E.mg e.x e.st f fd e.ps/\LamC E.K E.mg E.base fd c P ((e.x++".<locals>.")++"<lambda>") ps
def Kn(E:EnK)(e:Df):Prop:=∃f fd,DefAt E.K E.mg e.x e.st f fd e.ps/\FnOk E.P E.w E.K E.mg E.base CX0 e.k f fd e.ps (spF E.K e.ps.length e.F)/\∀ds hd z,e.F ds hd=some z->ds.length=e.ps.length
def okK{E:EnK}{x:Str}{st:Stmt}{ps N:List Str}{j k:Nat}{m:MS}{F:FD}(D:Dn E ⟨x,st,ps,k,F⟩)(S:FnScope N ps (A6 st))(hF:F=mkF ps.length N.length m)(hk:k=j+1)
 (h:∀(f:Addr) (cdv:Value) (A:Around) (outer:List Env) (s:Shared) (H:Hp) (Ek:XK),Room j (A.deeper (envOfC x (A6 st) s.heap.objs.size f cdv))->∃t,QSs E.K (E2 CX0 E.P E.w E.K E.mg E.base N x (A6 st) f cdv A outer s H Ek).nox (Aq st) t m):Kn E ⟨x,st,ps,k,F⟩:=by
 obtain⟨f,fd,D⟩:=D;subst hF;subst hk;exact⟨f,fd,D,Ry D S (h f),Kf⟩
def okL{E:EnK}{x:Str}{st:Stmt}{ps N:List Str}{j k:Nat}{m:MS}{F:FD}{pos:Pos}(D:Dl E ⟨x,st,ps,k,F⟩ pos)(S:FnScope N ps (A6 st))(hF:F=mkF ps.length N.length m)(hk:k=j+1)
 (h:∀(f c P:Addr) (fd:FuncData) (LC:LamC E.K E.mg E.base fd c P ((x++".<locals>.")++"<lambda>") pos) (cdv:Value) (A:Around) (outer:List Env) (s:Shared) (H:Hp) (Ek:XK),fd.code=cdv->Room j (A.deeper (envOfC x (A6 st) s.heap.objs.size f cdv))->∃t,QSs E.K (E2 CX0 E.P E.w E.K E.mg E.base N x (A6 st) f cdv A outer s H Ek).nox (Aq st) t m):Kn E ⟨x,st,ps,k,F⟩:=by
 obtain⟨f,fd,c,P,D,LC⟩:=D;subst hF;subst hk;exact⟨f,fd,D,Oa D S (h f c P fd LC),Kf⟩
section
variable{K:PySem.W.Frag}{X:Cx}{e:Expr}{es:List Expr}{t:TA}{m:MA}{x:Str}{j k:Nat}{ps:List Str}{F:FD}{st:Stmt}{p pos:Pos}
def qcW(w:Nat)(G:Kn ⟨X.prog,X.w,X.K,X.mg,X.base⟩ ⟨x,st,ps,j,F⟩)(hr:Room k X.A)(ha:QA K X (e::es) t m)
 (hjk:j<=k:=by first|decide|omega) (hg:Gl X x:=by rfl) (hdb:(x==("__debug__":Str))=false:=by decide) (he:starEach (e::es) X.env=(false,eval e X.env)::starEach es X.env:=by rfl) (hpl:(backTo pos (starEach es X.env)).any (·.1)=false:=by rfl) (hK:X.K=K:=by rfl):
 QE K X (.Call (.Name x p) (e::es) [] pos) (Dj (spF K ps.length F) [] E0 t) (AF w F m):=by
 subst hK;obtain⟨f,fd,D,G,l⟩:=G;exact OK _ w G hr D ha l hjk hg hdb he hpl
def qcG(G:Kn ⟨X.prog,X.w,X.K,X.mg,X.base⟩ ⟨x,st,ps,j,F⟩)(hr:Room k X.A)(ha:QA K X (e::es) t m)
 (hjk:j<=k:=by first|decide|omega) (hg:Gl X x:=by rfl) (hdb:(x==("__debug__":Str))=false:=by decide) (he:starEach (e::es) X.env=(false,eval e X.env)::starEach es X.env:=by rfl) (hpl:(backTo pos (starEach es X.env)).any (·.1)=false:=by rfl) (hK:X.K=K:=by rfl):
 QE K X (.Call (.Name x p) (e::es) [] pos) (Dj (spF K ps.length F) [] E0 t) (CA F m):=by
 subst hK;obtain⟨f,fd,D,G,l⟩:=G;exact OM _ G hr D ha l hjk hg hdb he hpl
variable{c P:Addr}{scope:Scope}{ix:List Nat}{params:Arguments}{body:Expr}{lpos kpos:Pos}{te tb:TE}{mi mb:ME}{fd:FuncData}{cdv:Value}{q:Str}
def LZ(a:Arguments):Str:=match a.args with
 |x::_=>x.arg
 |[]=>""
end
def FnAt(K:PySem.W.Frag)(n:Str)(s:Stmt)(f:Addr)(cd:Value):Prop:=∃oc kV dc pm ct od an sl,PySem.W.nsIn K mainGlobals n=some (some (.ref f))/\K.lookup f=some ⟨oc,od,.func (PySem.W.fnOf n n (Bk s) (Aq s) (A6 s) .none kV dc pm an cd ct),sl⟩/\PySem.W.codeIn K cd n=true/\PySem.W.keepIn K (.ref f)=true
def Fe(K:PySem.W.Frag)(e:Df):Prop:=∃f cd,FnAt K e.x e.st f cd
def Fla(K:PySem.W.Frag)(e:Df)(p:Addr):Prop:=∃f ca ob,FnAt K e.x e.st f (.ref ca)/\K.lookup ca=some ob/\Na ob=some p
abbrev Xs:=List (Str×Str×Nat×Nat)
def HX(xs:Xs)(mg:Str->Option Value)(h:Heap)(c P:Str->Addr):Prop:=∀x∈xs,h.get? (P x.1)=some (tabObj #[])/\CodeHd h (c x.1) (P x.1)/\∃a o fd,mg x.1=some (.ref a)/\h.get? a=some o/\o.data=.func fd/\fd.code=.ref (c x.1)
abbrev tbs(xs:Xs)(P:Str->Addr):List Tb:=xs.map λx=>(P x.1,x.2)
abbrev enM(l:PySem.W.OpenLaw)(w:World)(K:PySem.W.Frag)(xs:Xs)(P:Str->Addr)(mg:Str->Option Value)(base:Heap):EnK:=⟨l.prog,w,Av K (tbs xs P),mg,base⟩
def Bd(e:Df):Prop:=∀(kV doc pm:Value) (an:Option Addr) (cdv ct:Value) (us:List Value),us.length=e.ps.length->bindArgs (PySem.W.fnOf e.x e.x (Bk e.st) (Aq e.st) (A6 e.st) .none kV doc pm an cdv ct) ⟨us,[]⟩=pure (e.ps.zip us)
section
variable{K:PySem.W.Frag}{h:Heap}{mg:Str->Option Value}{xs:Xs}{c P:Str->Addr}(X:K.In h)(G:h.Ns mainGlobals mg)(hx:HX xs mg h c P)
include hx in
theorem Wt:∀P'∈(tbs xs P).map (·.1),h.get? P'=some (tabObj #[]):=λP' hp=>by
 obtain⟨t,ht,rfl⟩:=mem_map.mp hp;obtain⟨x,hxx,rfl⟩:=mem_map.mp ht;exact(hx x hxx).1
include X G hx in
theorem FnAt.def{e:Df}{f:Addr}{cd:Value}(H:FnAt K e.x e.st f cd)(b:Bd e):∃fd,DefAt (Av K (tbs xs P)) mg e.x e.st f fd e.ps/\fd.code=cd:=by
 obtain⟨oc,kV,dc,pm,ct,od,an,sl,a,l,cc,k⟩:=H;have F:=Fun.mark (ts:=tbs xs P) (V5 (st:=e.st) l cc k) X (Wt hx);exact⟨_,⟨F,PySem.W.mg_of X G a,F.binds b⟩,rfl⟩
include X G hx in
theorem Fe.dn{e:Df}(H:Fe K e)(b:Bd e)(l:PySem.W.OpenLaw)(w:World)(base:Heap):Dn (enM l w K xs P mg base) e:=by
 obtain⟨f,cd,H⟩:=H;obtain⟨fd,D,_⟩:=H.def X G hx b;exact⟨f,fd,D⟩
include X G hx in
theorem Fla.code{e:Df}{p:Addr}(H:Fla K e p){q:Str}{i j:Nat}(hm:(e.x,q,i,j)∈xs):P e.x=p/\∃f,FnAt K e.x e.st f (.ref (c e.x)):=by
 obtain⟨f,ca,ob,⟨oc,kV,dc,pm,ct,od,an,sl,a,l,cc,k⟩,t,v⟩:=H;obtain⟨_,hh,a',ob',fd,h1,h2,h3,h4⟩:=hx _ hm;have e1:=h1.symm.trans (PySem.W.mg_of X G a);cases e1;have e2:=h2.symm.trans (X _ _ l);cases e2;cases h3;have e3:Value.ref ca=.ref (c e.x):=h4;cases e3;exact⟨Sm X hh t v,f,⟨_,_,_,_,_,_,_,_,a,l,cc,k⟩⟩
include X G hx in
theorem Fla.dl{e:Df}{p:Addr}(H:Fla K e p)(b:Bd e){q:Str}{i j:Nat}(hm:(e.x,q,i,j)∈xs){i' j':Nat}(l:PySem.W.OpenLaw)(w:World){base:Heap}(hd:∀x∈xs,CodeHd base (c x.1) (P x.1))(bl:∀x∈xs,base.BuiltinsAt mg (P x.1))(nd:((Bu (Av K (tbs xs P))).map (·.1)).Nodup)(hq:q=(e.x++".<locals>.")++"<lambda>"):
 Dl (enM l w K xs P mg base) e ⟨i,j,i',j'⟩:=by
 obtain⟨_,f,H⟩:=H.code X G hx hm;obtain⟨fd,D,e1⟩:=H.def X G hx b;subst hq;exact⟨f,fd,_,_,D,⟨e1,hd _ hm,bl _ hm,⟨i,j,0,0⟩,by rw[F4];exact mem_map.mpr ⟨(P e.x,_,i,j),mem_map.mpr ⟨_,hm,rfl⟩,rfl⟩,nd,rfl,rfl⟩⟩
def Vy{ps:List Addr}(h:(xs.map λx=>P x.1)=ps)(n:ps.Nodup):((Bu (Av K (tbs xs P))).map (·.1)).Nodup:=by
 rw[F4,map_map,map_map];subst h;exact n
end
def Zs(K:PySem.W.Frag):Prop:=∀n∈(["list","tuple","len","range","repr","sum","min","max","abs","all","any","sorted","zip","isinstance","int","bool","str","set","enumerate","reversed","dict"]:List Str),PySem.W.nsIn K mainGlobals n=some none
def Zs.blt{K:PySem.W.Frag}(Z:Zs K){h:Heap}{mg:Str->Option Value}(X:K.In h)(G:h.Ns mainGlobals mg):BltA mg:=by
 constructor<;>exact PySem.W.mg_none_of X G (Z _ (by simp))
def bd1{e:Df}(hl:e.ps.length=1:=by rfl)(h:∀(kV doc pm:Value) (an:Option Addr) (cdv ct:Value) a,bindArgs (PySem.W.fnOf e.x e.x (Bk e.st) (Aq e.st) (A6 e.st) .none kV doc pm an cdv ct) ⟨[a],[]⟩=pure (e.ps.zip [a]):=by intros;rfl):Bd e:=λ_ _ _ _ _ _ us hu=>match us,hu.trans hl with|[_],_=>h ..
def bd2{e:Df}(hl:e.ps.length=2:=by rfl)(h:∀(kV doc pm:Value) (an:Option Addr) (cdv ct:Value) a b,bindArgs (PySem.W.fnOf e.x e.x (Bk e.st) (Aq e.st) (A6 e.st) .none kV doc pm an cdv ct) ⟨[a,b],[]⟩=pure (e.ps.zip [a,b]):=by intros;rfl):Bd e:=λ_ _ _ _ _ _ us hu=>match us,hu.trans hl with|[_,_],_=>h ..
def bd3{e:Df}(hl:e.ps.length=3:=by rfl)(h:∀(kV doc pm:Value) (an:Option Addr) (cdv ct:Value) a b c,bindArgs (PySem.W.fnOf e.x e.x (Bk e.st) (Aq e.st) (A6 e.st) .none kV doc pm an cdv ct) ⟨[a,b,c],[]⟩=pure (e.ps.zip [a,b,c]):=by intros;rfl):Bd e:=λ_ _ _ _ _ _ us hu=>match us,hu.trans hl with|[_,_,_],_=>h ..
def bd4{e:Df}(hl:e.ps.length=4:=by rfl)(h:∀(kV doc pm:Value) (an:Option Addr) (cdv ct:Value) a b c d,bindArgs (PySem.W.fnOf e.x e.x (Bk e.st) (Aq e.st) (A6 e.st) .none kV doc pm an cdv ct) ⟨[a,b,c,d],[]⟩=pure (e.ps.zip [a,b,c,d]):=by intros;rfl):Bd e:=λ_ _ _ _ _ _ us hu=>match us,hu.trans hl with|[_,_,_,_],_=>h ..
def B3{N ps:List Str}{sc:Scope}(h:(decide (sc.kind=.function)&&!sc.isCoroutine&&!sc.isGenerator&&ndB N&&(N.take ps.length==ps)&&(ps.all λx=>sc.names.lookup x==some .local||sc.names.lookup x==some .cell)&&sc.names.all λy=>y.2 != .free)=true):FnScope N ps sc:=by
 simp only[Bool.and_eq_true,all_eq_true,Bool.or_eq_true,beq_iff_eq,decide_eq_true_eq,Bool.not_eq_true',bne_iff_ne]at h;obtain⟨⟨⟨⟨⟨⟨h1,h2⟩,h3⟩,h4⟩,h5⟩,h6⟩,h7⟩:=h;exact⟨h1,h2,h3,EI h4,h5,h6,h7⟩
abbrev HG(l:PySem.W.OpenLaw)(w:World)(K:PySem.W.Frag)(xs:Xs)(mg:Str->Option Value)(c P:Str->Addr)(fa:Addr)(e:Df):Prop:=(∃g,K.lookup mainGlobals=some g)/\∃fd:FuncData,(∀(s:Shared) (v:Value),BindsTo s fd ⟨[v],[]⟩ [("_law_script",v)])/\∀base:Heap,(Av K (tbs xs P)).In base->base.Ns mainGlobals mg->(∀x∈xs,CodeHd base (c x.1) (P x.1))->(∀x∈xs,base.BuiltinsAt mg (P x.1))->FnOk l.prog w (Av K (tbs xs P)) mg base CX0 e.k fa fd ["_law_script"] (spF (Av K (tbs xs P)) 1 e.F)
def Ou{l:PySem.W.OpenLaw}{w:World}{K:PySem.W.Frag}{h:Heap}{mg:Str->Option Value}{fa:Addr}{xs:Xs}{c P:Str->Addr}{e:Df}(X:K.In h)(G:h.Ns mainGlobals mg)(hfa:mg e.x=some (.ref fa))(hx:HX xs mg h c P)(H:Fe K e)(b:Bd e)(hps:e.ps=(["_law_script"]:List Str))
 (ok:∀base:Heap,(∀x∈xs,CodeHd base (c x.1) (P x.1))->(∀x∈xs,base.BuiltinsAt mg (P x.1))->Kn (enM l w K xs P mg base) e):
 HG l w K xs mg c P fa e:=by
 obtain⟨f,cd,H⟩:=H;obtain⟨fd,D,_⟩:=H.def X G hx b;obtain⟨oc,kV,dc,pm,ct,od,an,sl,a,lk,cc,k⟩:=H;have hg:∃g,K.lookup mainGlobals=some g:=by
  cases e:K.lookup mainGlobals with
  |some g=>exact⟨g,rfl⟩
  |none=>unfold PySem.W.nsIn at a;rw[e]at a;cases a
 have e1:=hfa.symm.trans D.mg;cases e1;refine⟨hg,fd,λs v=>?_,λbase _ _ hd bl=>?_⟩
 .obtain⟨⟨oc',od',kV',dc',pm',an',cd',ct',sl',rfl,_,_⟩,_⟩:=D.fn;have:=b kV' dc' pm' an' cd' ct' [v] (by rw[hps];rfl);rw[hps]at this;exact .of_eq this
 .obtain⟨f',fd',D',F',_⟩:=ok base hd bl;have e2:=D.mg.symm.trans D'.mg;cases e2;obtain⟨⟨oc',od',kV',dc',pm',an',cd',ct',sl',h1,h2,_⟩,_⟩:=D.fn;obtain⟨⟨oc2,od2,kV2,dc2,pm2,an2,cd2,ct2,sl2,h3,h4,_⟩,_⟩:=D'.fn;have e3:=h2.symm.trans h4;cases e3;rw[hps]at F';exact F'
end L2
namespace L2
open PySem PySem.Spec PyProof.Rows
def GO{α:Type}:List (Option α)->Option (List α)
 |[]=>some []
 |some x::r=>(GO r).map (x::·)
 |none::_=>none
def pyN:Nat->Hd->D->Option PyData
 |_,_,.im i=>some i.py
 |_,_,.ro ns=>some (.list (I.pys (ns.map I.int)))
 |0,_,_=>none
 |n+1,hd,.tm ds=>(GO (ds.map (pyN n hd))).map .tuple
 |n+1,hd,.mu k=>match hd[k]? with
  |some (.lst ds)=>(GO (ds.map (pyN n hd))).map .list
  |_=>none
 |_+1,_,.op _ _ _=>none
 |_+1,_,.fv _ _=>none
section
variable{K:PySem.W.Frag}{ρ:List Addr}{H:Hp}{hd:Hd}
theorem GN{f:D->Option PyData}(hf:∀d v p,RD K ρ H d v->f d=some p->Rep K H p v):∀{ds:List D} {xs:List V} {ps:List PyData},RDs K ρ H ds xs->GO (ds.map f)=some ps->BE K H ps xs
 |[],xs,ps,r,e=>by
  simp only[RDs]at r;subst r;simp[GO]at e;subst e;simp only[BE]
 |d::ds,xs,ps,r,e=>by
  simp only[RDs]at r;obtain⟨x,r',rfl,h1,h2⟩:=r;rw[map_cons]at e;cases q:f d with
  |none=>rw[q]at e;cases e
  |some p=>
   rw[q]at e;obtain⟨ps',e1,rfl⟩:=Ye (show(GO (ds.map f)).map (p::·)=some ps from e);simp only[BE];exact⟨x,r',rfl,hf d x p h1 q,GN hf h2 e1⟩
theorem FZ(hR:RH K ρ H hd):∀(n:Nat) (d:D) (v:V) (p:PyData),RD K ρ H d v->pyN n hd d=some p->Rep K H p v
 |n,.im i,v,p,h,e=>Cl (hd:=hd) hR h (by cases n<;>exact e)
 |n,.ro ns,v,p,h,e=>Cl (hd:=hd) hR h (by cases n<;>exact e)
 |0,.tm ds,v,p,h,e=>by cases e
 |0,.mu k,v,p,h,e=>by cases e
 |0,.op _ _ _,v,p,h,e=>by cases e
 |n+1,.op _ _ _,v,p,h,e=>by cases e
 |0,.fv _ _,v,p,h,e=>by cases e
 |n+1,.fv _ _,v,p,h,e=>by cases e
 |n+1,.tm ds,v,p,h,e=>by
  simp only[RD]at h;obtain⟨a,xs,rfl,q,r⟩:=h;obtain⟨ps,e1,rfl⟩:=Ye (show(GO (ds.map (pyN n hd))).map PyData.tuple=some p from e);simp only[Rep];exact⟨a,xs,rfl,q,GN (λd v p=>FZ hR n d v p) r e1⟩
 |n+1,.mu k,v,p,h,e=>by
  simp only[pyN]at e;simp only[RD]at h;obtain⟨a,hn,rfl⟩:=h;split at e
  .next ds q=>
   obtain⟨ps,e1,rfl⟩:=Ye e;obtain⟨xs,e2,e3⟩:=hR.lst hn q;simp only[Rep];exact⟨a,xs,rfl,SqL.of e2,GN (λd v p=>FZ hR n d v p) e3 e1⟩
  .cases e
end
def HZ(neg:Bool):D->D->Hd->Option (D×Hd):=λd e hd=>match pyN 30 hd d,pyN 30 hd e with
 |some x,some y=>if x.canLay0=true/\y.canLay0=true/\min x.depth y.depth<=60 then some (.im (.bl (if neg then !PyData.eqv x y else PyData.eqv x y)),hd)else none
 |_,_=>none
def Ta{K:PySem.W.Frag}:RB K (LV K) (HZ true):=by
 intro ρ H hd d e v u Q z hd' hR h1 h2 hf hQ;unfold HZ at hf;split at hf
 .next e1 e2=>
  split at hf
  .next c=>cases hf;exact⟨_,_,FZ hR _ _ _ _ h1 e1,FZ hR _ _ _ _ h2 e2,c.1,c.2.1,c.2.2,hQ ρ H _ .refl hR (by simp[RD,RI])⟩
  .cases hf
 .cases hf
section
variable{hd:Hd}{QE:D->Hd->Prop}{ls:Ls}{ma mb:ME}
def Sd{neg:Bool}{d e:D}{x y:PyData}(h1:pyN 30 hd d=some x)(h2:pyN 30 hd e=some y)(c:x.canLay0=true/\y.canLay0=true/\min x.depth y.depth<=60)(q:QE (.im (.bl (if neg then !PyData.eqv x y else PyData.eqv x y))) hd):WP (HZ neg d e hd) QE:=⟨_,_,by unfold HZ;rw[h1,h2];dsimp only;rw[if_pos c],q⟩
end
section
variable(C:Addr)(f:Str)
def Ends.non(D:Ends):Ends:={ D with rt:=λ_ _=>False }
end
section
variable{C fI:Addr}{f:Str}{X:Cx}{st:Stmt}{rest:List Stmt}{t u:TS}{e:Expr}{es:List Expr}{te tb:TE}{pos:Pos}
def thx{α:Type}{M:Model}{A:Around}{m:Sem α}{P Q:α->Shared->Prop}{E E':Value->Shared->Prop}{s:Shared}(h:wpAny M A m P E s)(k:∀v s,P v s->Q v s)(j:∀e s,E e s->E' e s):wpAny M A m Q E' s:=wpAny_mono h k j
def Wb(t:TS):TS:=λD σ H=>t D.non σ H
end
section
variable{X:Cx}{pins:List (Addr×Obj)}{σ:St}{H:Hp}{s:Shared}{C fI a dx:Addr}{f:Str}
def Wm{dx:Option Addr}{tb:Value}{T:Addr}{h':Heap}(I:Inv X pins σ H s)(ha:H a=some (.ext (XO a C dx)))(hT:∀T,tb=.ref T->H T=none/\New X pins T)(N:Note (frs X.stack) a tb s.heap h')(ex:Exo h' a C dx (.ref T)):Inv X pins σ H { s with heap:=h' }:=by
 have na:∀b,H b=none->b≠a:=λb n z=>by rw[z,ha]at n;cases n
 have hok:=Ob I.hok N ex ha (λT e=>(hT T e).1) I.stkFree;have all:∀ch:List Addr,(∀b,.ref b=tb->b∈ch)->Un (frs X.stack) ch H H s.heap h':=λch hc=>
  ⟨λb o e n nf nc=>N.keep b o e (na b n) (λz=>nc (hc b z)) nf,λb o e n hf nc=>N.slot b o e hf,λ_ _ _ n _=>n,λb o e _=>N.there b o e,λ_ _ e=>e,λ_ _ _ e=>e,λb ps e=>⟨#[],by rw[e];simp⟩⟩
 by_cases q:∃T,tb=.ref T
 .obtain⟨T0,e⟩:=q;exact I.call' (s':={ s with heap:=h' }) (ch:=[T0]) rfl (all [T0] λb z=>by rw[e]at z;cases z;simp) hok I.bare λb hb=>by
   have:b=T0:=by simpa using hb
   subst this;exact(hT b e).2
 .exact I.call' (s':={ s with heap:=h' }) (ch:=[]) rfl (all [] λb z=>absurd ⟨b,z.symm⟩ q) hok I.bare λb hb=>absurd hb (by simp)
end
def Wq(m:MS):MS:=λls hd=>(m ls hd).bind λp=>match p.1 with
 |.rt _=>none
 |fl=>some (fl,p.2)
section
variable{K:PySem.W.Frag}{C:Addr}{f:Str}{ρ ρ':List Addr}{H H':Hp}{hd hd':Hd}
def Xe{t:TS}{m:MS}(h:RS K t m):RS K (Wb t) (Wq m):=by
 intro ρ σ H hd ls E fl hd' hR hL hm hQ;obtain⟨⟨fl1,h1⟩,e1,hm⟩:=Yd hm;refine h ρ σ H hd ls E.non fl1 h1 hR hL e1 λρ' H' x R=>?_;cases fl1 with
 |rt d=>cases hm
 |nx l=>cases hm;exact hQ ρ' H' x R
 |bk l=>cases hm;exact hQ ρ' H' x R
 |ct l=>cases hm;exact hQ ρ' H' x R
end
end L2
namespace L2
open PySem PySem.Spec PyProof.Rows PySem.W
def Le(K K':Frag):Prop:=∀a o,K.lookup a=some o->(∀vs,o.data≠.fields vs)->K'.lookup a=some o
end L2
namespace L2
open PySem PySem.Spec PyProof.Rows
abbrev Cx.en(X:Cx):EnK:=⟨X.prog,X.w,X.K,X.mg,X.base⟩
end L2
namespace L2
open PySem PySem.Spec PyProof.Rows PySem.W
def ltZ(p q:Int×Int):Bool:=decide (p.1<q.1∨p.1=q.1/\p.2<q.2)
def TPair(h:Heap)(a:Addr)(p:Int×Int):Prop:=∃(o:Obj) (n:Nat) (t u:Tok),h.get? a=some o/\o.cls=.type "tuple"/\o.data=.seq #[.int p.1 t,.int p.2 u] n
section
variable{prog:Program}{w:World}{A:Around}{E:Value->Shared->Prop}{s:Shared}{a b:Addr}{p q:Int×Int}
def TPair.typeIs(h:TPair s.heap a p):s.TypeIs (.ref a) "tuple":=let ⟨o,_,_,_,h1,h2,_⟩:=h;⟨o,h1,h2⟩
def NY{P:PySem.Fin->Shared->Prop}(ha:TPair s.heap a p)(hb:TPair s.heap b q)(h:P (.done (.ret (.bool (ltZ p q)))) s):
 wpAny (model prog w) A (Builtin.«tuple.__lt__» ⟨[.ref a,.ref b],[]⟩) P E s:=by
 have hTb:=hb.typeIs;obtain⟨oa,na,t1,t2,hoa,_,hda⟩:=ha;obtain⟨ob,nb,u1,u2,hob,_,hdb⟩:=hb;show wpAny _ _ (isInstance (.ref b) (.type "tuple") >>= _) _ _ s;refine wpAny_bind (wpAny_isInstance hTb isSubtype_tuple_tuple ?_);simp only[Bool.not_true,Bool.false_eq_true,if_false];refine wpAny_bind (wpAny_tupleItemsOf hoa hda ?_);refine wpAny_bind (wpAny_tupleItemsOf hob hdb ?_);refine wpAny_bind ?_;have neq:∀(x y:Int) (t u:Tok),x≠y->P (.done (.ret (.bool (ltZ p q)))) s->decide (x<y)=ltZ p q->True:=λ_ _ _ _ _ _ _=>trivial;refine wpAny_forIn_list _
  (λrest r s'=>r.1=none/\s'=s/\(rest=[(.int p.1 t1,.int q.1 u1),(.int p.2 t2,.int q.2 u2)]∨rest=[(.int p.2 t2,.int q.2 u2)]/\p.1=q.1∨rest=[]/\p.1=q.1/\p.2=q.2))
  _ ?_ ?_ _ _ ⟨rfl,rfl,.inl rfl⟩
 .rintro⟨u,v⟩ rest r s' ⟨hr,rfl,hz⟩;rcases hz with hz|⟨hz,e1⟩|⟨hz,e1⟩
  .simp only[List.cons.injEq,Prod.mk.injEq]at hz;obtain⟨⟨rfl,rfl⟩,rfl⟩:=hz;refine wpAny_bind (wpAny_eqBool_int ?_);by_cases hk:p.1=q.1
   .rw[beq_iff_eq.mpr hk];simp only[Bool.not_true,Bool.false_eq_true,if_false];exact wpAny_pure ⟨rfl,rfl,.inr (.inl ⟨by trivial,hk⟩)⟩
   .rw[beq_eq_false_iff_ne.mpr hk];simp only[Bool.not_false,if_true];have hf:ltZ p q=decide (p.1<q.1):=by unfold ltZ;simp[hk]
    rw[hf]at h;refine wpAny_bind (wpAny_bind (wpAny_rule (wpAny_pure (wpAny_bind (richCompare_gives (op:=.Lt) (typeIs_int _ _ _) (typeIs_int _ _ _) F.slot_int_lt F.entry_int_lt (F.args_int_lt_2 _ _) (gives_int_lt _ _ _ _) (λx=>nomatch x) ?_)))));exact wpAny_pure (wpAny_pure h)
  .simp only[List.cons.injEq,Prod.mk.injEq]at hz;obtain⟨⟨rfl,rfl⟩,rfl⟩:=hz;refine wpAny_bind (wpAny_eqBool_int ?_);by_cases hk:p.2=q.2
   .rw[beq_iff_eq.mpr hk];simp only[Bool.not_true,Bool.false_eq_true,if_false];exact wpAny_pure ⟨rfl,rfl,.inr (.inr ⟨by trivial,e1,hk⟩)⟩
   .rw[beq_eq_false_iff_ne.mpr hk];simp only[Bool.not_false,if_true];have hf:ltZ p q=decide (p.2<q.2):=by unfold ltZ;simp[e1]
    rw[hf]at h;refine wpAny_bind (wpAny_bind (wpAny_rule (wpAny_pure (wpAny_bind (richCompare_gives (op:=.Lt) (typeIs_int _ _ _) (typeIs_int _ _ _) F.slot_int_lt F.entry_int_lt (F.args_int_lt_2 _ _) (gives_int_lt _ _ _ _) (λx=>nomatch x) ?_)))));exact wpAny_pure (wpAny_pure h)
  .cases hz
 .rintro⟨r1,r2⟩ s' ⟨hr,rfl,hz⟩;simp only at hr;subst hr;refine wpAny_pure ?_;rcases hz with hz|⟨hz,e1⟩|⟨hz,e1,e2⟩
  .cases hz
  .cases hz
  .have hf:ltZ p q=false:=by unfold ltZ;simp[e1,e2]
   rw[hf]at h;exact h
def NZ{Q:Value->Shared->Prop}(hu:A.units<cLine)(ha:TPair s.heap a p)(hb:TPair s.heap b q)(h:Q (.bool (ltZ p q)) s):wpAny (model prog w) A (richCompare .Lt (.ref a) (.ref b)) Q E s:=
 wpAny_richCompare_same_room (op:=.Lt) ha.typeIs hb.typeIs F.slot_tuple_lt
  (wpAny_call_entry F.slot_tuple_lt ha.typeIs F.entry_tuple_lt (NY ha hb ⟨_,rfl,(λe=>nomatch e),h⟩) (F.args_tuple_lt_2 _ _)) hu
end
section
variable{M:Model}{A:Around}{E:Value->Shared->Prop}{s:Shared}{env:Env}
def Jy{pos:Pos}{a:Addr}{e:Expr}{rest:List Expr}{Q:Value->Shared->Prop}
 (h:wpAny M A (spliced (backTo pos (starEach (e::rest) env))) (λvs s₁=>(∃(o:Obj) (fd:FuncData),s₁.heap.get? a=some o/\o.data=.func fd)/\wpAny M A (call (.ref a) vs) Q E s₁) E s)
 (he:starEach (e::rest) env=(false,eval e env)::starEach rest env:=by rfl):
 wpAny M A (callWith pos (.ref a) [] (backTo pos (starEach (e::rest) env)) []) Q E s:=by
 rw[he]at h ⊢;unfold callWith;refine wpAny_bind (wpAny_holding (wpAny_mono (Calls.evalArgs_plain (Q:=λx s₁=>(∃(o:Obj) (fd:FuncData),s₁.heap.get? a=some o/\o.data=.func fd)/\wpAny M A (call (.ref a) ([]++x.pos) x.kw) Q E s₁) (wpAny_mono h (λvs s₁ h₁=>h₁) λ_ _ x=>x)) (λx s₁ h₁=>wpAny_bind (wpAny_standAt ?_)) λ_ _ x=>x));obtain⟨⟨o,fd,g1,g2⟩,g3⟩:=h₁;have tail:∀{t:Sem Value},wpAny M A t Q E s₁->wpAny M A (t >>= λr=>holding [r] point >>= λ_=>pure r) Q E s₁:=
  λht=>wpAny_bind (wpAny_mono ht (λr s₂ hr=>wpAny_bind (wpAny_holding (wpAny_point (wpAny_pure hr)))) λ_ _ x=>x)
 cases hs:((backTo pos ((false,eval e env)::starEach rest env)).any (·.1)||([]:List (Option Str×Sem Value)).any (·.1.isNone))<;>refine wpAny_bind (m:=keeperOf (.ref a)) ?_<;>unfold keeperOf<;>refine wpAny_bind (wpAny_load g1 ?_)<;>rw[g2]<;>refine wpAny_pure ?_
 .first|refine wpAny_ite ?_|skip
  split<;>first|exact tail g3|exact tail (by unfold callMarked;exact Calls.wpAny_keep g3)
 .first|exact tail (by unfold callMarked;exact Calls.wpAny_keep g3)|exact tail g3
end
def LF(P:Addr)(q:Str)(pos:Pos):TE:=λ_ H Q=>∃ps,H P=some (.tbl ps)/\Ew H q pos ps/\∀H2 c f,EU P q pos H H2->H2 c=some (.ext (cdF c q))->H2 f=none->Q (.ref f) (upd H2 f (.ext (fnF f c q)))
def JA(tf:TE)(ta:TA):TE:=λσ H Q=>tf σ H λv H1=>∃f,v=.ref f/\ta σ H1 λvs H2=>∃c q x y,vs=[x,y]/\H2 f=some (.ext (fnF f c q))/\H2 c=some (.ext (cdF c q))/\Q y H2
section
variable{X:Cx}{c P:Addr}{scope:Scope}{fr:List Str}{ix:List Nat}{params:Arguments}{p1 p2:Str}{pp lpos:Pos}
def Rp(LA:LamAt X c P)(S:CSc X scope fr ix)(hcl:AL X.env.cells scope.names []=[])(L:SndOk (X.env.qual++"<lambda>") params scope (.Name p2 pp) p1 p2)(hdef:defaultsOf params X.env=([],[]):=by rfl):
 PE X (.Lambda params (.Name p2 pp) scope lpos) (LF P (X.env.qual++"<lambda>") lpos):=by
 intro pins s σ H Q I h;obtain⟨ps,hP,hg,go⟩:=h;refine Jg S LA I hdef hP hg λf cd ctv H2 s2 I2 M=>?_;obtain⟨c',rfl,hc'⟩:=M.cdc;have ff:FpOk X pins H2 f:=I.fpOk M.new M.fre;have ho:=M.fn;rw[hcl]at ho;have J:=I2.adopt (o:=.ext (fnF f c' (X.env.qual++"<lambda>"))) ff (le_trans I.sz M.new) ⟨⟨_,_,_,_,_,_,_,ho,L⟩,⟨_,ho⟩,λh1 h2 q k=>by
  obtain⟨a1,a2,a3,a4,a5,a6,a7,g,z⟩:=q;exact⟨a1,a2,a3,a4,a5,a6,a7,k _ g,z⟩⟩
 exact⟨.ref f,_,J,rfl,go H2 c' f M.step hc' M.fre⟩
def OY{x:Str}{e:Expr}{es:List Expr}{tf:TE}{ta:TA}{p pos:Pos}(hr:Room 1 X.A)(hf:PE X (.Name x p) tf)(ha:PA X (e::es) ta)(he:starEach (e::es) X.env=(false,eval e X.env)::starEach es X.env:=by rfl):
 PE X (.Call (.Name x p) (e::es) [] pos) (JA tf ta):=by
 intro pins s σ H Q I h;refine wpAny_Call_Name_kw (thn (hf pins s σ H _ I h) λu s1 hu=>?_);obtain⟨v,H1,I1,rv,q⟩:=hu;obtain⟨f,rfl,q⟩:=q;cases rv;refine Jy (thn (ha pos pins s1 σ H1 _ I1 q) λus s2 hus=>?_) he;obtain⟨vs,H2,I2,r,c,q,x,y,rfl,g1,g2,hQ⟩:=hus;obtain⟨u0,u1,rfl,r0,r1⟩:∃u0 u1,us=[u0,u1]/\RelV x u0/\RelV y u1:=by
  cases r with
  |cons a b=>cases b with
   |cons a2 b2=>cases b2;exact⟨_,_,rfl,a,a2⟩
 obtain⟨params,scope,p1,p2,pos',pm,ctv,ho',S⟩:=(I2.hok f _ g1).1;refine⟨⟨_,_,ho',rfl⟩,?_⟩;exact wpAny_mono (Np I2 rfl hr g1 g2 r0 r1 hQ) (λ_ _ z=>z) λ_ _ z=>z.elim
end
def Io(K:PySem.W.Frag)(H:Hp)(k:V)(n:Int×Int):Prop:=∃a,k=.ref a/\SqT K H a [.int n.1,.int n.2]
def ET(K:PySem.W.Frag)(src:Hp->List V->Prop)(G:Hp->Prop)(tb:TE)(cap:St):Nat->Nat->V->V->Int×Int->Hp->VK->Prop
 |0,j,b,_,_,H,Q=>(∃xs,src H xs/\xs.length=j)/\Q b H
 |m+1,j,b,kv,kb,H,Q=>∃xs x,src H xs/\xs[j]?=some x/\G H/\tb (some x::cap) H λk H1=>∃n:Int×Int,Io K H1 k n/\Io K H1 kv kb/\(if ltZ n kb=true then ET K src G tb cap m (j+1) x k n H1 Q else ET K src G tb cap m (j+1) b kv kb H1 Q)
def Hg(K:PySem.W.Frag)(src:Hp->List V->Prop)(G:Hp->Prop)(tb:TE)(cap:St)(m:Nat)(H:Hp)(Q:VK):Prop:=
 ∃xs x,src H xs/\xs[0]?=some x/\G H/\tb (some x::cap) H λk H1=>∃n:Int×Int,Io K H1 k n/\ET K src G tb cap m 1 x k n H1 Q
def Ke{X:Cx}{pins:List (Addr×Obj)}{σ:St}{H:Hp}{s:Shared}{a:Addr}{n:Int×Int}(I:Inv X pins σ H s)(h:SqT X.K H a [.int n.1,.int n.2]):TPair s.heap a n:=by
 obtain⟨jts,rj,⟨o,ho,hc,m,hd⟩,_⟩:=I.tuple h;cases rj with
 |cons a1 b1=>cases b1 with
  |cons a2 b2=>
   cases b2;obtain⟨t,rfl⟩:=a1;obtain⟨u,rfl⟩:=a2;exact⟨o,m,t,u,ho,hc,hd⟩
section
variable{X:Cx}{pins:List (Addr×Obj)}{σ:St}{l f It S:Addr}{src:Hp->List V->Prop}{G:Hp->Prop}{tb:TE}{cap:St}{Q:VK}{E:Value->Shared->Prop}
def My(hu:X.A.in1.units<cLine)(hh:X.A.handled=none)
 (hsrc:∀pins' H' s' xs,Inv X pins' σ H' s'->src H' xs->∃its:List Value,Vals xs its/\s'.heap.IsList l its.toArray) (hSI:S≠It) (n0:Nat) (hI0:∀H',H' It=none->FpOk X pins H' It) (hS0:∀H',H' S=none->FpOk X pins H' S)
 (turn:∀(pins':List (Addr×Obj)) (H1:Hp) (s1:Shared) (x:V) (u:Value) (Q1:VK),(∀p∈pins,p∈pins')->Inv X pins' σ H1 s1->RelV x u->G H1->tb (some x::cap) H1 Q1->wpAny (model X.prog X.w) X.A.in1 (call (.ref f) [u]) (EP X pins' σ Q1) (λ_ _=>False) s1):
 ∀(m:Nat) (j:Nat) (b:V) (vb:Value) (kv:V) (vk:Value) (kb:Int×Int) (c:Nat) (oI:Obj) (H:Hp) (s:Shared),Inv X ((S,seqObj "list" #[vb,vk] c)::(It,oI)::pins) σ H s->s.heap.IsListIter It l j->RelV b vb->RelV kv vk ->
   ET X.K src G tb cap m j b kv kb H Q->codeAny (model X.prog X.w) X.A (.builtin "min.loop" ⟨[.ref It,.ref f,.ref S],[]⟩) (λr s'=>match r with|.ok (.ret v)=>EP X pins σ Q v s'|.ok _=>False|.error e=>E e s') s:=by
 have hname:(toString "min"++toString ".loop":String)="min.loop":=by decide
 intro m
 induction m with
 |zero=>
  intro j b vb kv vk kb c oI H s J hit rb rk0 hgo;obtain⟨⟨xs,hG,hje⟩,hQ⟩:=hgo;have nS:=J.pin (S,seqObj "list" #[vb,vk] c) (mem_append_right _ mem_cons_self);have nI:=J.pin (It,oI) (mem_append_right _ (mem_cons_of_mem _ mem_cons_self));refine codeAny_builtin PySem.F.entry_min_loop ?_;rw[Around.under_plainId PySem.F.plain_min_loop _];show wpAny _ X.A.in1 (seqItems? (.ref S) >>= _) _ _ _;refine wpAny_bind (wpAny_seqItems nS.1 rfl ?_);show wpAny _ X.A.in1 (tryCatch (pyNext (.ref It)) _ >>= _) _ _ _;obtain⟨its,hv,hil⟩:=hsrc _ _ _ _ J hG;have hlen:=hv.length;refine wpAny_bind (wpAny_tryCatch (wpAny_pyNext_list_end hh hit hil (by simp;omega) λh' hk'=>?_));have hS':=hk' S _ hSI nS.1;have s1:=Heap.SameBut.update h' S (Obj.mapSeq λ_=>(#[]:Array Value));show wpAny _ X.A.in1 (updateSeq S (λ_=>#[]) >>= _) _ _ _;refine wpAny_bind ?_;refine wpAny_updateSeq hS' rfl (wpAny_bind (wpAny_letGo (wpAny_pure ?_)));have J1:Inv X ((It,oI)::pins) σ H s:=J.pins_of λp hp=>J.pin p (mem_append_right _ (mem_cons_of_mem _ hp));have J2:Inv X pins σ H { s with heap:=h',toks:=s.toks }:=J1.turnE (hI0 H nI.2.1) λc u n e=>hk' c u n e;have J3:=(J2.repin (hS0 H nS.2.1) hS' (λv z=>by cases z)).turnE (t':=s.toks) (hS0 H nS.2.1) λc u n e=>(s1.2 c n).trans e;exact⟨b,H,J3,rb,hQ⟩
 |succ m ih=>
  intro j b vb kv vk kb c oI H s J hit rb rk0 hgo;obtain⟨xs,x,hsr,hxj,hG,hgo⟩:=hgo;obtain⟨its,hv,hil⟩:=hsrc _ _ _ _ J hsr;obtain⟨u,hu9,ru⟩:=hv.get hxj;have nS:=J.pin (S,seqObj "list" #[vb,vk] c) (mem_append_right _ mem_cons_self);have nI:=J.pin (It,oI) (mem_append_right _ (mem_cons_of_mem _ mem_cons_self));refine codeAny_builtin PySem.F.entry_min_loop ?_;rw[Around.under_plainId PySem.F.plain_min_loop _];show wpAny _ X.A.in1 (seqItems? (.ref S) >>= _) _ _ _;refine wpAny_bind (wpAny_seqItems nS.1 rfl ?_);show wpAny _ X.A.in1 (tryCatch (pyNext (.ref It)) _ >>= _) _ _ _;refine wpAny_bind (wpAny_tryCatch (wpAny_pyNext_list_item hit hil (x:=u) (by simpa using hu9) λh' hit' hs'=>?_));obtain⟨oI',hoI',hoc,hod⟩:=id hit';have hSh':h'.get? S=some (seqObj "list" #[vb,vk] c):=(hs'.2 S hSI).trans nS.1;have dI:∀v,oI'.data≠.cell v:=λv z=>by rw[hod]at z;cases z
  have J1:Inv X ((It,oI)::pins) σ H s:=J.pins_of λp hp=>J.pin p (mem_append_right _ (mem_cons_of_mem _ hp));have J2:Inv X pins σ H { s with heap:=h',toks:=s.toks }:=J1.turnE (hI0 H nI.2.1) λc u n e=>(hs'.2 c n).trans e;have J3:=(J2.repin (hI0 H nI.2.1) hoI' dI).repin ((hS0 H nS.2.1).more hSI.symm) hSh' (λv z=>by cases z);show wpAny _ X.A.in1 (tryCatch (holding [u] (call (.ref f) [u])) _ >>= _) _ _ _;refine wpAny_bind (wpAny_tryCatch (wpAny_holding (wpAny_mono (turn _ H _ x u _ (λp hp=>mem_cons_of_mem _ (mem_cons_of_mem _ hp)) J3 ru hG hgo) (λv s2 he=>?_) λ_ _ hF=>hF.elim)));obtain⟨k,H2,J4,rk,n,hn1,hn2,hgo2⟩:=he;obtain⟨ka,rfl,sqa⟩:=id hn1;obtain⟨kb',rfl,sqb⟩:=id hn2;cases rk;cases rk0;have nS2:=J4.pin (S,seqObj "list" #[vb,.ref kb'] c) (mem_append_right _ mem_cons_self);have nI2:=J4.pin (It,oI') (mem_append_right _ (mem_cons_of_mem _ mem_cons_self));show wpAny _ X.A.in1 (tryCatch (holding [u,.ref ka] (richCompare .Lt (.ref ka) (.ref kb') >>= _)) _ >>= _) _ _ _;refine wpAny_bind (wpAny_tryCatch (wpAny_holding (wpAny_bind (NZ hu (Ke J4 sqa) (Ke J4 sqb) ?_))));refine wpAny_bind (wpAny_holding (wpAny_truthy_bool ?_));refine wpAny_bind (wpAny_letGo (wpAny_pure ?_));by_cases hb':ltZ n kb=true
  .have s1:=Heap.SameBut.update s2.heap S (Obj.mapSeq λ_=>#[u,.ref ka]);obtain⟨c2,hc2⟩:∃c2,(s2.heap.update S (Obj.mapSeq λ_=>#[u,.ref ka])).get? S=some (seqObj "list" #[u,.ref ka] c2):=⟨_,get?_update_seq nS2.1 λ_=>#[u,.ref ka]⟩
   simp only[hb',if_true]at hgo2 ⊢;refine wpAny_bind ?_;refine wpAny_updateSeq nS2.1 rfl (wpAny_bind (wpAny_letGo ?_));rw[hname];have J5:Inv X ((S,seqObj "list" #[vb,.ref kb'] c)::pins) σ H2 s2:=J4.pins_of λp hp=>by
    rcases mem_cons.mp hp with rfl|hp
    .exact nS2
    .exact J4.pin p (mem_append_right _ (mem_cons_of_mem _ (mem_cons_of_mem _ hp)))
   have J6:Inv X pins σ H2 { s2 with heap:=s2.heap.update S (Obj.mapSeq λ_=>#[u,.ref ka]),toks:=s2.toks }:=J5.turnE (hS0 H2 nS2.2.1) λc u n e=>(s1.2 c n).trans e;have gI:(s2.heap.update S (Obj.mapSeq λ_=>#[u,.ref ka])).get? It=some oI':=(s1.2 It hSI.symm).trans nI2.1;have J7:=(J6.repin (hI0 H2 nI2.2.1) gI dI).repin ((hS0 H2 nS2.2.1).more hSI.symm) hc2 (λv z=>by cases z);exact wpAny_pure ⟨plainId_quiet PySem.F.plain_min_loop _,ih (j+1) x u (.ref ka) (.ref ka) n c2 oI' H2 _ J7 ⟨oI',gI,hoc,hod⟩ ru rfl hgo2⟩
  .simp only[hb',Bool.false_eq_true,if_false]at hgo2 ⊢;refine wpAny_bind (wpAny_letGo ?_);rw[hname];exact wpAny_pure ⟨plainId_quiet PySem.F.plain_min_loop _,ih (j+1) b vb (.ref kb') (.ref kb') kb c oI' H2 _ J4 ⟨oI',nI2.1,hoc,hod⟩ rb rfl hgo2⟩
def Oe(hu:X.A.in1.units<cLine){H:Hp}{s:Shared}(hh:X.A.handled=none)(I:Inv X pins σ H s)(hsrc:∀pins' H' s' xs,Inv X pins' σ H' s'->src H' xs->∃its:List Value,Vals xs its/\s'.heap.IsList l its.toArray)
 (turn:∀(pins':List (Addr×Obj)) (H1:Hp) (s1:Shared) (x:V) (u:Value) (Q1:VK),(∀p∈pins,p∈pins')->Inv X pins' σ H1 s1->RelV x u->G H1->tb (some x::cap) H1 Q1->wpAny (model X.prog X.w) X.A.in1 (call (.ref f) [u]) (EP X pins' σ Q1) (λ_ _=>False) s1)
 {m:Nat} (h:Hg X.K src G tb cap m H Q):wpAny (model X.prog X.w) X.A (call (.builtin "min") [.ref l] [(Str.ofString "key",.ref f)]) (EP X pins σ Q) E s:=by
 have hname:(toString "min"++toString ".loop":String)="min.loop":=by decide
 obtain⟨xs,x,hsr,hx0,hG,hgo⟩:=h;obtain⟨_,_,hls⟩:=hsrc _ _ _ _ I hsr;refine kmk_tree PySem.F.kind_min PySem.F.plain_min PySem.F.entry_min (kmk_min_key _ _) ?_;show wpAny _ X.A.in1 (Builtin.Builtins.bindParams "min" ["key","default"] 0 ⟨[],[(Str.ofString "key",.ref f)]⟩ >>= _) _ _ s;refine wpAny_bind (wpAny_of_eq (show Builtin.Builtins.bindParams "min" ["key","default"] 0 ⟨[],[(Str.ofString "key",.ref f)]⟩=pure [some (.ref f),none]from rfl) ?_);refine wpAny_bind (wpAny_pure ?_);refine wpAny_bind (wpAny_pyIter_list hls ?_);refine wpAny_bind (wpAny_newList ?_ (zero_le _));rw[hname];have hS:(s.heap.push { cls:=.type "list_iterator",data:=.fields #[.ref l,.int 0 0] }).objs.size=s.heap.objs.size+1:=size_push' ..;rw[hS];have gI:((s.heap.push { cls:=.type "list_iterator",data:=.fields #[.ref l,.int 0 0] }).push (seqObj "list" #[] 0)).get? s.heap.objs.size=some { cls:=.type "list_iterator",data:=.fields #[.ref l,.int 0 0] }:=
  Heap.get?_push_of_some _ (Heap.get?_push_size _ rfl)
 have gS:((s.heap.push { cls:=.type "list_iterator",data:=.fields #[.ref l,.int 0 0] }).push (seqObj "list" #[] 0)).get? (s.heap.objs.size+1)=some (seqObj "list" #[] 0):=by rw[<- hS];exact Heap.get?_push_size _ rfl
 have kp:∀b o,s.heap.get? b=some o->((s.heap.push { cls:=.type "list_iterator",data:=.fields #[.ref l,.int 0 0] }).push (seqObj "list" #[] 0)).get? b=some o:=λb o e=>Heap.get?_push_of_some _ (Heap.get?_push_of_some _ e);have I1:Inv X pins σ H { s with heap:=(s.heap.push { cls:=.type "list_iterator",data:=.fields #[.ref l,.int 0 0] }).push (seqObj "list" #[] 0),toks:=s.toks }:=I.kept (t':=s.toks) kp;have hSI:s.heap.objs.size+1≠s.heap.objs.size:=ne_of_gt (Nat.lt_succ_self _);have hI0:∀H',H' s.heap.objs.size=none->FpOk X pins H' s.heap.objs.size:=λH' hn=>I.fpOk (le_refl _) hn;have hS0:∀H',H' (s.heap.objs.size+1)=none->FpOk X pins H' (s.heap.objs.size+1):=λH' hn=>I.fpOk (le_succ _) hn;have nI:H s.heap.objs.size=none:=I.hok.fresh (le_refl _);have nS:H (s.heap.objs.size+1)=none:=I.hok.fresh (le_succ _);generalize (s.heap.push { cls:=.type "list_iterator",data:=.fields #[.ref l,.int 0 0] }).push (seqObj "list" #[] 0)=h1 at gI gS I1 ⊢;refine wpAny_pure ⟨plainId_quiet PySem.F.plain_min_loop _,?_⟩;refine codeAny_builtin PySem.F.entry_min_loop ?_;rw[Around.under_plainId PySem.F.plain_min_loop _];show wpAny _ X.A.in1 (seqItems? (.ref (s.heap.objs.size+1)) >>= _) _ _ _;refine wpAny_bind (wpAny_seqItems gS rfl ?_);show wpAny _ X.A.in1 (tryCatch (pyNext (.ref s.heap.objs.size)) _ >>= _) _ _ _;obtain⟨its,hv,hil⟩:=hsrc _ _ _ _ I1 hsr;obtain⟨u,hu9,ru⟩:=hv.get hx0;refine wpAny_bind (wpAny_tryCatch (wpAny_pyNext_list_item (i:=0) ⟨_,gI,rfl,rfl⟩ hil (x:=u) (by simpa using hu9) λh' hit' hs'=>?_));obtain⟨oI',hoI',hoc,hod⟩:=id hit';have dI:∀v,oI'.data≠.cell v:=λv z=>by rw[hod]at z;cases z
 have hSh':h'.get? (s.heap.objs.size+1)=some (seqObj "list" #[] 0):=(hs'.2 _ hSI).trans gS;have J2:Inv X pins σ H { s with heap:=h',toks:=s.toks }:=(I1.repin (hI0 H nI) gI (λv z=>by cases z)).turnE (hI0 H nI) λc u n e=>(hs'.2 c n).trans e;have J3:=(J2.repin (hI0 H nI) hoI' dI).repin ((hS0 H nS).more hSI.symm) hSh' (λv z=>by cases z);show wpAny _ X.A.in1 (tryCatch (holding [u] (call (.ref f) [u])) _ >>= _) _ _ _;refine wpAny_bind (wpAny_tryCatch (wpAny_holding (wpAny_mono (turn _ H _ x u _ (λp hp=>mem_cons_of_mem _ (mem_cons_of_mem _ hp)) J3 ru hG hgo) (λv s2 he=>?_) λ_ _ hF=>hF.elim)));obtain⟨k,H2,J4,rk,n,hn1,hgo2⟩:=he;obtain⟨ka,rfl,sqa⟩:=id hn1;cases rk;have nS2:=J4.pin (s.heap.objs.size+1,seqObj "list" #[] 0) (mem_append_right _ mem_cons_self);have nI2:=J4.pin (s.heap.objs.size,oI') (mem_append_right _ (mem_cons_of_mem _ mem_cons_self));have s1:=Heap.SameBut.update s2.heap (s.heap.objs.size+1) (Obj.mapSeq λ_=>#[u,.ref ka]);obtain⟨c2,hc2⟩:∃c2,(s2.heap.update (s.heap.objs.size+1) (Obj.mapSeq λ_=>#[u,.ref ka])).get? (s.heap.objs.size+1)=some (seqObj "list" #[u,.ref ka] c2):=⟨_,get?_update_seq nS2.1 λ_=>#[u,.ref ka]⟩
 show wpAny _ X.A.in1 (updateSeq (s.heap.objs.size+1) (λ_=>#[u,.ref ka]) >>= _) _ _ _;refine wpAny_bind ?_;refine wpAny_updateSeq nS2.1 rfl ?_;rw[hname];have J5:Inv X ((s.heap.objs.size+1,seqObj "list" #[] 0)::pins) σ H2 s2:=J4.pins_of λp hp=>by
  rcases mem_cons.mp hp with rfl|hp
  .exact nS2
  .exact J4.pin p (mem_append_right _ (mem_cons_of_mem _ (mem_cons_of_mem _ hp)))
 have J6:Inv X pins σ H2 { s2 with heap:=s2.heap.update (s.heap.objs.size+1) (Obj.mapSeq λ_=>#[u,.ref ka]),toks:=s2.toks }:=J5.turnE (hS0 H2 nS2.2.1) λc u n e=>(s1.2 c n).trans e;have gI2:(s2.heap.update (s.heap.objs.size+1) (Obj.mapSeq λ_=>#[u,.ref ka])).get? s.heap.objs.size=some oI':=(s1.2 _ hSI.symm).trans nI2.1;have J7:=(J6.repin (hI0 H2 nI2.2.1) gI2 dI).repin ((hS0 H2 nS2.2.1).more hSI.symm) hc2 (λv z=>by cases z);exact wpAny_pure ⟨plainId_quiet PySem.F.plain_min_loop _,My hu hh hsrc hSI 0 hI0 hS0 turn m 1 x u (.ref ka) (.ref ka) n c2 oI' H2 _ J7 ⟨oI',gI2,hoc,hod⟩ ru rfl hgo2⟩
end
def LD(K:PySem.W.Frag)(P:Addr)(q:Str)(pos:Pos)(ix:List Nat)(te tb:TE):TE:=λσ H Q=>te σ H λv H1=>∃(a:Addr) (m:Nat) (ps:Array Value),v=.ref a/\H1 P=some (.tbl ps)/\Ew H1 q pos ps /\
 ∀H2 c,EU P q pos H1 H2->H2 c=some (.ext (cdF c q))->Hg K (λH xs=>SqL K H a xs) (λH=>H c=some (.ext (cdF c q))) tb (ix.map λi=>(σ[i]?).join) m H2 Q
section
variable{X:Cx}{c P:Addr}{scope:Scope}{fr:List Str}{ix:List Nat}{prm:Str}{params:Arguments}{body e:Expr}{p pos lpos kpos:Pos}{te tb:TE}
def Ro(LA:LamAt X c P)(S:CSc X scope fr ix)(L:LSc scope prm)(hr:Room 3 X.A)(hcm:X.calm=true)(hg:Gl X "min")(hm:X.mg "min"=none)
 (hbind:∀(cl:List (Str×Addr)) (pm cd ctv us:Value),bindArgs (kla_fn "<lambda>" (X.env.qual++"<lambda>") params body scope cl pm cd ctv) ⟨[us],[]⟩=pure [(prm,us)])
 (he:PE X e te) (hb:∀(f:Addr) (cd:Value) (s:Shared) (H:Hp),PE (lCx X X.A.in1 (prm::fr) (X.env.qual++"<lambda>") scope f cd (AL X.env.cells scope.names []) s H) body tb)
 (hdef:defaultsOf params X.env=([],[]):=by rfl) (hs:starEach [e] X.env=[(false,eval e X.env)]:=by rfl):
 PE X (.Call (.Name "min" p) [e] [⟨some "key",.Lambda params body scope lpos,kpos⟩] pos) (LD X.K P (X.env.qual++"<lambda>") lpos ix te tb):=by
 intro pins s σ H Q I h;have PAe:PA X [e] (BF te C6):=C0 he D9 hs;refine wpAny_Call_Name_kw (DD (u:=.builtin "min") I hg hm bt_min ?_);have pl:(backTo pos (starEach [e] X.env)).any (·.1)=false:=by rw[hs];rfl
 refine callWith_builtin_kwB pl rfl (evalArgs_kw2 (env:=X.env) (e:=e) (rest:=[]) (kws:=[⟨some "key",.Lambda params body scope lpos,kpos⟩]) rfl (thn (PAe pos pins s σ H (λvs H1=>match vs with
  |[v]=>∃(a:Addr) (m:Nat) (ps:Array Value),v=.ref a/\H1 P=some (.tbl ps)/\Ew H1 (X.env.qual++"<lambda>") lpos ps /\
   ∀H2 c,EU P (X.env.qual++"<lambda>") lpos H1 H2->H2 c=some (.ext (cdF c (X.env.qual++"<lambda>")))->Hg X.K (λH xs=>SqL X.K H a xs) (λH=>H c=some (.ext (cdF c (X.env.qual++"<lambda>")))) tb (ix.map λi=>(σ[i]?).join) m H2 Q
  | _=>False) I h) λus s1 hq=>?_) hs)
 obtain⟨vs,H1,I1,r,q⟩:=hq
 match vs,q with
 |[v],q=>
 obtain⟨a,m,ps,rfl,hP,hg1,go⟩:=q;obtain⟨u,rfl,ru⟩:=CG r;cases ru;show wpAny _ _ (evalAll [(do let v <- eval (.Lambda params body scope lpos) X.env;standAt pos;pure v)]) _ _ s1;refine wpAny_evalAll_cons (wpAny_bind (Jg S LA I1 hdef hP hg1 λf cd ctv H2 s2 I2 M=>wpAny_bind (wpAny_standAt (wpAny_pure (wpAny_evalAll_nil ?_)))));show wpAny _ _ (call (.builtin "min") [.ref a] [(Str.ofString "key",.ref f)]) _ _ s2;obtain⟨c',rfl,hc'⟩:=M.cdc;have go':=go H2 c' M.step hc';have ff:FpOk X pins H2 f:=I1.fpOk M.new M.fre;have I3:=I2.repin ff M.fn (λv z=>by cases z);refine wpAny_mono (Oe hr.in1.units0 (pins:=(f,_)::pins) (I3.ok.hd hcm) I3 (λpins' H' s' xs J hG=>?_) (λpins' H' s' x u Q1 sub J ru hG hq=>?_) go') (λv s' hv=>?_) λ_ _ z=>z
 .obtain⟨its,rv,pl2,hz⟩:=J.list hG;exact⟨its,rv,pl2.isList⟩
 .have pf:=J.pin (f,_) (mem_append_right _ (sub _ mem_cons_self));exact Oo (A:=X.A.in1) (f:=f) S L J rfl (hr.in1.mono (by decide)) pf.1 (J.hok c' _ hG).1 (λus=>hbind _ _ _ _ us) (λs H=>hb f _ s H) ru hq
 .obtain⟨y,H',J,ry,qy⟩:=hv;exact⟨y,H',J.pins_of λp hp=>J.pin p (mem_append_right _ (mem_cons_of_mem _ hp)),ry,qy⟩
end
def Gi:ME:=λ_ hd=>some (.fv 0 [],hd)
def Cc(mf:ME)(ma:MA):ME:=λls hd=>(mf ls hd).bind λp=>match p.1 with
 |.fv 0 []=>(ma ls p.2).bind λr=>match r.1 with
  |[_,e]=>some (e,r.2)
  |_=>none
 |_=>none
def Qa{K:PySem.W.Frag}{P:Addr}{q:Str}{pos:Pos}(TI:Im K P q pos):RE K (LF P q pos) Gi:=by
 and_intros;cases hm;obtain⟨p',et,_,l1,l2⟩:=id TI;obtain⟨ps,hP,hG⟩:=hR.tabs (P,q,p') et;have hG':Ew H q pos ps:=by
  rcases hG with g|⟨c,g1,g2⟩
  .exact .inl g
  .refine .inr ⟨c,?_,g2⟩;rw[g1];show #[rawInt p'.line,rawInt p'.col,Value.ref c]=_;rw[l1,l2]
 refine⟨ps,hP,hG',λH2 c f step hc hf=>?_⟩;obtain⟨R2,x2⟩:=J0 hR hP step TI;obtain⟨R3,x3⟩:=R2.hid hf (ho:=.ext (fnF f c q));refine hQ ρ _ _ (x2.trans R2 x3) R3 ?_;simp only[RD,RDs];refine⟨f,[],rfl,⟨rfl,rfl,c,q,AE,?_⟩,rfl⟩;rw[A4 (λz=>by subst z;rw[hf]at hc;cases hc)];exact hc
def O1{K:PySem.W.Frag}{tf:TE}{ta:TA}{mf:ME}{ma:MA}(hf:RE K tf mf)(ha:RA K ta ma):RE K (JA tf ta) (Cc mf ma):=by
 and_intros;obtain⟨⟨d1,h1⟩,e1,hm⟩:=Yd hm;dsimp only at hm;split at hm
 .obtain⟨⟨ds,h2⟩,e2,hm⟩:=Yd hm;dsimp only at hm;split at hm
  .next d0 e=>
   cases hm;refine hf ρ σ H hd ls _ _ _ hR hL e1 λρ1 H1 v1 x1 R1 r1=>?_;simp only[RD,RDs]at r1;obtain⟨f,xs,rfl,⟨_,_,c,q,g1,g2⟩,_⟩:=r1;refine⟨f,rfl,ha ρ1 σ H1 _ ls _ _ _ R1 (hL.ext hR x1) e2 λρ2 H2 vs x2 R2 r2=>?_⟩;simp only[RDs]at r2;obtain⟨x,r,rfl,q1,y,r',rfl,q2,rfl⟩:=r2;exact⟨c,q,x,y,rfl,(x2.grow R1).keep _ _ trivial g1,(x2.grow R1).keep _ _ trivial g2,hQ ρ2 H2 y (x1.trans R1 x2) R2 q2⟩
  .cases hm
 .cases hm
def GA{K:PySem.W.Frag}{ρ:List Addr}{H:Hp}{a b:Int}{k:V}(h:RD K ρ H (.im (.tup [.int a,.int b])) k):Io K H k (a,b):=by
 simp only[RD,RI,RIs]at h;obtain⟨p,xs,rfl,sq,x,r,rfl,rfl,y,r',rfl,rfl,rfl⟩:=h;exact⟨p,rfl,sq⟩
open Classical in
def El(mb:ME)(cap:Ls)(hd:Hd):List D->Option (List (Int×Int))
 |[]=>some []
 |d::r=>match mb (some d::cap) hd with
  |some (.im (.tup [.int n,.int n2]),h)=>match El mb cap hd r with
   |some ks=>if h=hd then some ((n,n2)::ks)else none
   |none=>none
  |_=>none
def By:List D->List (Int×Int)->D->Int×Int->D
 |x::r,n::ns,b,kb=>if ltZ n kb=true then By r ns x n else By r ns b kb
 |_,_,b,_=>b
def Dd(mi:ME)(ix:List Nat)(mb:ME):ME:=λls hd=>(mi ls hd).bind λp=>(Aa p.2 p.1).bind λds=>(El mb (ix.map λi=>(ls[i]?).join) p.2 ds).bind λkz=>match ds,kz with
 |d::r,n::ns=>some (By r ns d n,p.2)
 |_,_=>none
section
variable{K:PySem.W.Frag}{hd:Hd}
theorem GM{tb:TE}{mb:ME}{ix:List Nat}{q:Str}{c a:Addr}{d1:D}{ds:List D}(hb:RE K tb mb){ls:Ls}{σ:St}(ev:Aa hd d1=some ds):∀(rs:List D) (ns:List (Int×Int)) (j:Nat) (bd:D) (bv kv:V) (kb:Int×Int) (ρ:List Addr) (H:Hp) (Q:VK),ds.drop j=rs->j<=ds.length ->
 El mb (ix.map λi=>(ls[i]?).join) hd rs=some ns->RH K ρ H hd->RL K ρ H ls σ->H c=some (.ext (cdF c q))->RD K ρ H d1 (.ref a)->RD K ρ H bd bv->RD K ρ H (.im (.tup [.int kb.1,.int kb.2])) kv ->
 (∀ρ' H' v,Ext ρ H ρ' H'->RH K ρ' H' hd->RD K ρ' H' (By rs ns bd kb) v->Q v H') ->
 ET K (λH xs=>SqL K H a xs) (λH=>H c=some (.ext (cdF c q))) tb (ix.map λi=>(σ[i]?).join) rs.length j bv kv kb H Q
 |[],ns,j,bd,bv,kv,kb,ρ,H,Q,hr,hj,e,R,L,hc,r1,rb,rkb,k=>by
  obtain⟨a',xs,ea,sq,rs⟩:=RD.lst R r1 ev;cases ea;have hl:=rs.len;have hd0:=congrArg List.length hr;simp at hd0;refine⟨⟨xs,sq,by omega⟩,k ρ H bv .refl R ?_⟩;cases e;exact rb
 |x::r,ns,j,bd,bv,kv,kb,ρ,H,Q,hr,hj,e,R,L,hc,r1,rb,rkb,k=>by
  obtain⟨a',xs,ea,sq,rs⟩:=RD.lst R r1 ev;cases ea;have hjl:j<ds.length:=by
   have:=congrArg List.length hr;simp at this;omega
  have hxj:ds[j]?=some x:=by
   rw[drop_eq_getElem_cons hjl]at hr;rw[List.getElem?_eq_getElem hjl,(List.cons.inj hr).1]
  have hr':ds.drop (j+1)=r:=by
   rw[drop_eq_getElem_cons hjl]at hr;exact(List.cons.inj hr).2
  obtain⟨v,hv,rv⟩:=rs.get hxj;unfold El at e;split at e
  .next n n2 h e1=>
   split at e
   .next ks e2=>
    split at e
    .next eh=>
     cases e;rw[eh]at e1;refine⟨xs,v,sq,hv,hc,hb ρ _ H _ _ _ (.im (.tup [.int n,.int n2])) _ R (Mc L rv) e1 λρ1 H1 v1 x1 R1 rk=>?_⟩;have oc:c∉ρ:=λm=>by rcases R.mut m with⟨y,w⟩|⟨y,w⟩<;>(rw[hc]at w;cases w)
     have rkb1:=rkb.ext R x1;refine⟨(n,n2),GA rk,GA rkb1,?_⟩;by_cases hop:ltZ (n,n2) kb=true
     .rw[if_pos hop];refine GM hb ev r ks (j+1) x v v1 (n,n2) ρ1 H1 Q hr' hjl e2 R1 (L.ext R x1) (x1.keep c _ hc oc nt) (r1.ext R x1) (rv.ext R x1) rk λρ2 H2 w x2 R2 r2=>k ρ2 H2 w (x1.trans R1 x2) R2 ?_;rw[By,if_pos hop];exact r2
     .rw[if_neg hop];refine GM hb ev r ks (j+1) bd bv kv kb ρ1 H1 Q hr' hjl e2 R1 (L.ext R x1) (x1.keep c _ hc oc nt) (r1.ext R x1) (rb.ext R x1) rkb1 λρ2 H2 w x2 R2 r2=>k ρ2 H2 w (x1.trans R1 x2) R2 ?_;rw[By,if_neg hop];exact r2
    .cases e
   .cases e
  .cases e
def QZ{te tb:TE}{mi mb:ME}{P:Addr}{q:Str}{pos:Pos}{ix:List Nat}(hi:RE K te mi)(hb:RE K tb mb)(TI:Im K P q pos):RE K (LD K P q pos ix te tb) (Dd mi ix mb):=by
 and_intros;obtain⟨⟨d1,h1⟩,e1,hm⟩:=Yd hm;obtain⟨ds,e2,hm⟩:=Yd hm;obtain⟨kz,e3,hm⟩:=Yd hm;dsimp only at hm e2 e3;split at hm
 .next x r n ns _=>
  cases hm;refine hi ρ σ H hd ls _ d1 _ hR hL e1 λρ1 H1 v1 x1 R1 r1=>?_;obtain⟨a,xs,rfl,sq,rs⟩:=RD.lst R1 r1 e2;obtain⟨p',et,_,l1,l2⟩:=id TI;obtain⟨ps,hP,hG⟩:=R1.tabs (P,q,p') et;have hG':Ew H1 q pos ps:=by
   rcases hG with g|⟨c,g1,g2⟩
   .exact .inl g
   .refine .inr ⟨c,?_,g2⟩;rw[g1];show #[rawInt p'.line,rawInt p'.col,Value.ref c]=_;rw[l1,l2]
  refine⟨a,r.length,ps,rfl,hP,hG',λH2 c step hc=>?_⟩;obtain⟨R2,x2⟩:=J0 R1 hP step TI;have x12:=x1.trans R1 x2;have L2':=hL.ext hR x12;have r2:=r1.ext R1 x2;obtain⟨a',xs,ea,sq,rs⟩:=RD.lst R2 r2 e2;cases ea;obtain⟨v,hv,rv⟩:=rs.get (i:=0) (d:=x) rfl;unfold El at e3;split at e3
  .next n' n2 h e4=>
   split at e3
   .next ks e5=>
    split at e3
    .next eh=>
     cases e3;rw[eh]at e4;refine⟨xs,v,sq,hv,hc,hb ρ1 _ H2 _ _ _ (.im (.tup [.int _,.int _])) _ R2 (Mc L2' rv) e4 λρ3 H3 v3 x3 R3 rk=>?_⟩;have oc:c∉ρ1:=λm=>by rcases R2.mut m with⟨y,w⟩|⟨y,w⟩<;>(rw[hc]at w;cases w)
     refine⟨_,GA rk,GM hb e2 r ns 1 x v v3 _ ρ3 H3 Q rfl (by simp) e5 R3 (L2'.ext R2 x3) (x3.keep c _ hc oc nt) (r2.ext R2 x3) (rv.ext R2 x3) rk λρ4 H4 w x4 R4 r4=>hQ ρ4 H4 w ((x12.trans R2 x3).trans R3 x4) R4 r4⟩
    .cases e3
   .cases e3
  .cases e3
 .cases hm
end
def OL(K:PySem.W.Frag){X:Cx}{x:Str}{e:Expr}{es:List Expr}{tf:TE}{ta:TA}{mf:ME}{ma:MA}{p pos:Pos}{k:Nat}(hr:Room k X.A)(hf:QE K X (.Name x p) tf mf)(ha:QA K X (e::es) ta ma)(hk:1<=k:=by decide)(he:starEach (e::es) X.env=(false,eval e X.env)::starEach es X.env:=by rfl):
 QE K X (.Call (.Name x p) (e::es) [] pos) (JA tf ta) (Cc mf ma):=⟨OY (hr.mono hk) hf.p ha.p he,O1 hf.r ha.r⟩
section
variable{K:PySem.W.Frag}{X:Cx}{c P:Addr}{fd:FuncData}{q:Str}{scope:Scope}{params:Arguments}{p2:Str}{pp p pos lpos kpos:Pos}{cdv:Value}{ix:List Nat}{body e:Expr}{te tb:TE}{mi mb:ME}{k:Nat}
def U0(LC:LamC X.K X.mg X.base fd c P q lpos)(hcd:fd.code=cdv)(hcv:X.env.code=cdv:=by rfl)(hq:q=X.env.qual++"<lambda>":=by rfl)(S:CSc X scope (frN X []) []:=by exact⟨rfl,by decide +kernel,rfl,rfl,rfl,by decide +kernel⟩)
 (L:SndOk q params scope (.Name p2 pp) (LZ params) p2:=by exact⟨by decide,⟨rfl,rfl,rfl,rfl⟩,⟨rfl,rfl,rfl,rfl⟩,rfl,rfl,by decide,by decide,λ_ _ _ _ _ _=>rfl⟩)
 (hcl:AL X.env.cells scope.names []=[]:=by rfl) (hdef:defaultsOf params X.env=([],[]):=by rfl) (hK:X.K=K:=by rfl):QE K X (.Lambda params (.Name p2 pp) scope lpos) (LF P (X.env.qual++"<lambda>") lpos) Gi:=by
 subst hq;subst hK;exact⟨Rp ⟨hcv.trans (hcd.symm.trans LC.code),LC.hd,LC.bl⟩ S hcl L hdef,Qa LC.ti⟩
def Tz(LC:LamC X.K X.mg X.base fd c P q lpos)(hcd:fd.code=cdv)(hr:Room k X.A)(hm:X.mg "min"=none)(he:QE K X e te mi)
 (hb:∀(f:Addr) (cd:Value) (s:Shared) (H:Hp),QE K (lCx X X.A.in1 (LZ params::frN X ix) (X.env.qual++"<lambda>") scope f cd (AL X.env.cells scope.names []) s H) body tb mb)
 (hcv:X.env.code=cdv:=by rfl) (hq:q=X.env.qual++"<lambda>":=by rfl) (S:CSc X scope (frN X ix) ix:=by exact⟨rfl,by decide +kernel,rfl,rfl,rfl,by decide +kernel⟩) (L:LSc scope (LZ params):=by exact⟨rfl,rfl,rfl,rfl⟩) (h3:3<=k:=by decide)
 (hbind:∀(cl:List (Str×Addr)) (pm cd ctv us:Value),bindArgs (kla_fn "<lambda>" (X.env.qual++"<lambda>") params body scope cl pm cd ctv) ⟨[us],[]⟩=pure [(LZ params,us)]:=by exact λ_ _ _ _ _=>rfl)
 (hcm:X.calm=true:=by rfl) (hg:Gl X "min":=by rfl) (hdef:defaultsOf params X.env=([],[]):=by rfl) (hs:starEach [e] X.env=[(false,eval e X.env)]:=by rfl) (hK:X.K=K:=by rfl):
 QE K X (.Call (.Name "min" p) [e] [⟨some "key",.Lambda params body scope lpos,kpos⟩] pos) (LD K P (X.env.qual++"<lambda>") lpos ix te tb) (Dd mi ix mb):=by
 subst hq;subst hK;exact⟨Ro ⟨hcv.trans (hcd.symm.trans LC.code),LC.hd,LC.bl⟩ S L (hr.mono h3) hcm hg hm hbind he.p (λf cd s H=>(hb f cd s H).p) hdef hs,QZ he.r (hb 0 .none X.s₀ X.H₀).r LC.ti⟩
end
section
variable{ls:Ls}{hd:Hd}{Q:D->Hd->Prop}
def Pw(q:Q (.fv 0 []) hd):WE Gi ls hd Q:=⟨_,_,rfl,q⟩
def NT{mf:ME}{ma:MA}(h:WE mf ls hd λd x=>d=.fv 0 []/\WA ma ls x λds y=>∃a b,ds=[a,b]/\Q b y):WE (Cc mf ma) ls hd Q:=by
 obtain⟨d,x,e1,rfl,ds,y,e2,a,b,rfl,q⟩:=h;refine⟨_,_,?_,q⟩;simp only[Cc,e1,bind_some,e2]
def NU{mi mb:ME}{ix:List Nat}(h:WE mi ls hd λd x=>∃(e:D) (es:List D) (kf:D->Int×Int),Aa x d=some (e::es)/\(∀y∈e::es,mb (some y::ix.map λi=>(ls[i]?).join) x=some (.im (.tup [.int (kf y).1,.int (kf y).2]),x))/\Q (By es (es.map kf) e (kf e)) x):WE (Dd mi ix mb) ls hd Q:=by
 obtain⟨d,x,e1,e,es,kf,e2,ek,q⟩:=h;have go:∀ys:List D,(∀y∈ys,mb (some y::ix.map λi=>(ls[i]?).join) x=some (.im (.tup [.int (kf y).1,.int (kf y).2]),x))->El mb (ix.map λi=>(ls[i]?).join) x ys=some (ys.map kf):=by
  intro ys
  induction ys with
  |nil=>intro _;rfl
  |cons y r ih=>
   intro h;unfold El;rw[h y mem_cons_self,ih λz hz=>h z (mem_cons_of_mem _ hz)];simp
 refine⟨_,x,?_,q⟩;simp only[Dd,e1,bind_some,e2,go _ ek,map_cons]
def leP(p q:Int×Int):Prop:=ltZ q p=false
def Om(p:Int×Int):leP p p:=by unfold leP ltZ;simp
def Hw{p q r:Int×Int}(h:leP p q)(h':leP q r):leP p r:=by
 unfold leP ltZ at *;simp only[decide_eq_false_iff_not,not_or,not_and,Int.not_lt]at *;omega
theorem FS(kf:D->Int×Int):∀(es:List D) (b:D),By es (es.map kf) b (kf b)∈b::es/\∀y∈b::es,leP (kf (By es (es.map kf) b (kf b))) (kf y)
 |[],b=>⟨mem_cons_self,λy hy=>by rw[mem_singleton]at hy;subst hy;exact Om _⟩
 |e::es,b=>by
  rw[map_cons,By];by_cases h:ltZ (kf e) (kf b)=true
  .rw[if_pos h];obtain⟨h1,h2⟩:=FS kf es e;refine⟨mem_cons_of_mem _ h1,λy hy=>?_⟩;rcases mem_cons.mp hy with rfl|hy
   .refine Hw (h2 e mem_cons_self) ?_;unfold leP ltZ at *;simp only[decide_eq_true_eq,decide_eq_false_iff_not,not_or,not_and,Int.not_lt]at *;omega
   .exact h2 y hy
  .rw[if_neg h];obtain⟨h1,h2⟩:=FS kf es b;refine⟨?_,λy hy=>?_⟩
   .rcases mem_cons.mp h1 with q|q
    .rw[q];exact mem_cons_self
    .exact mem_cons_of_mem _ (mem_cons_of_mem _ q)
   .rcases mem_cons.mp hy with rfl|hy
    .exact h2 y mem_cons_self
    .rcases mem_cons.mp hy with rfl|hy
     .refine Hw (h2 b mem_cons_self) ?_;unfold leP;simpa using h
     .exact h2 y (mem_cons_of_mem _ hy)
end
theorem Jj:∀{bs:List Int} {us:List Value} {i:Nat} {v:Value},Vals (bs.map V.int) us->us[i]?=some v->∃b t,bs[i]?=some b/\v=.int b t
 |[],_,_,_,.nil,e=>by simp at e
 |b::bs,_,0,_,.cons r _,e=>by
  simp at e;subst e;obtain⟨t,rfl⟩:=r;exact⟨b,t,rfl,rfl⟩
 |b::bs,_,i+1,_,.cons _ t,e=>by
  obtain⟨c,t,h1,h2⟩:=Jj (i:=i) t (by simpa using e);exact⟨c,t,by simpa using h1,h2⟩
def Pa(K:PySem.W.Frag):List V->Hp->VK->Prop:=λxs H Q=>∃(a:Addr) (bs:List Int),xs=[.ref a]/\SqL K H a (bs.map V.int)/\Q (.bl (bs.any λn=>n != 0)) H
theorem any_map(bs:List Int):((List.range bs.length).any λi=>((bs[i]?).getD 0) != 0)=bs.any λn=>n != 0:=by
 have:=LSm.range_any (bs.map λn=>n != 0);rw[length_map,List.any_map]at this;rw[show(id ∘ λn:Int=>n != 0)=λn:Int=>n != 0 from rfl]at this;rw[<- this,Bool.eq_iff_iff,List.any_eq_true,List.any_eq_true];constructor
 .rintro⟨i,hi,h⟩;have hi':i<bs.length:=by simpa using hi
  exact⟨i,hi,by simpa [hi']using h⟩
 .rintro⟨i,hi,h⟩;have hi':i<bs.length:=by simpa using hi
  exact⟨i,hi,by simpa [hi']using h⟩
def M9(K:PySem.W.Frag){X:Cx}(hc:X.calm=true)(hK:X.K=K:=by rfl):CallR X (.builtin "any") (Pa K):=by
 subst hK;intro pins s σ H xs us Q I r h;obtain⟨a,bs,rfl,hq,q⟩:=h;obtain⟨u,rfl,ru⟩:=CG r;cases ru;obtain⟨its,rv,p,hz⟩:=I.list hq;have hl:=p.isList;have hlen:=rv.length;have hlt:a<s.heap.objs.size:=by obtain⟨_,e,_⟩:=hl;exact Heap.lt_size e
 refine call_any_walk (wpAny_pyIter_list hl ?_);refine⟨s.heap.objs.size,[s.heap.objs.size,a],[s.heap.objs.size],its.toArray.size,_,_,λi=>((bs[i]?).getD 0) != 0,rfl,Walks.list (A:=X.A.in1) (I.ok.hd hc) _ a (ne_of_lt hlt) its.toArray,
  ⟨⟨_,Heap.get?_push_size _ rfl,rfl,rfl⟩,hl.push _⟩,λi v s' Q' E' hP hQ=>?_,λh' tk hk=>?_⟩
 .obtain⟨b,t,e,rfl⟩:=Jj rv (by simpa using hP);simp only[e,getD_some]at hQ;exact P.truthy_int hQ
 .have e:((List.range its.toArray.size).any λi=>((bs[i]?).getD 0) != 0)=bs.any λn=>n != 0:=by
   rw[size_toArray,<- hlen,length_map];exact any_map bs
  rw[e];exact⟨.bl _,H,I.kept (LSm.kept_iter hk),rfl,q⟩
def Gk(ds:List D):Option D:=(Af ds).map λns=>.im (.bl (ns.any λn=>n != 0))
def QU{K:PySem.W.Frag}:RG K false (Pa K) Gk:=by
 intro ρ H hd a xs ds Q z hR q r e hQ;obtain⟨ns,e1,rfl⟩:=Ye e;rw[De e1]at r;have:=EG r;subst this;rcases q with q|⟨q,_⟩
 .exact⟨a,ns,rfl,q,hQ H _ .refl hR (by simp[RD,RI])⟩
 .cases q
end L2
namespace Rw
open PySem L2 Bd
def pairs_im(ps:List (Int×Int)):(ps.map Mt).map D.im=ps.map AU:=by rw[map_map];rfl
end Rw
namespace Pl
open PySem L2 Bd
abbrev Pc:=Nat×Int×Int
def last:List Pc->Nat->Int->Int
 |[],_,v=>v
 |p::r,k,v=>last r k (if p.1=k then p.2.2 else v)
def dn:List Pc->Nat->Int
 |[],_=>0
 |p::r,k=>(if p.1=k then p.2.2-p.2.1 else 0)+dn r k
theorem IB:∀(ps:List Pc) (es:List Int) (k:Nat),(BM es ps)[k]?=(es[k]?).map (last ps k)
 |[],es,k=>by
  show es[k]?=(es[k]?).map id;rw[Option.map_id_fun];rfl
 |p::r,es,k=>by
  rw[BM,IB r,List.getElem?_set];by_cases h:p.1=k
  .subst h;by_cases hk:p.1<es.length
   .simp[hk,last]
   .simp[hk]
  .simp only[h,if_false,last]
def ends_map{n:Nat}(ps:List Pc):BM (List.replicate n 0) ps=(List.range n).map λk=>last ps k 0:=by
 refine ext_getElem? λi=>?_;rw[IB];by_cases hi:i<n
 .simp[hi]
 .simp[hi]
structure Ok(n:Nat)(c:Int)(ps:List Pc):Prop where
 ch:ps.Pairwise λp q=>p.2.2<=q.2.1
 ea:∀p∈ps,p.1<n/\c<=p.2.1/\p.2.1<p.2.2
section
variable{n:Nat}{c:Int}{l:Nat->Int}{ps:List Pc}
abbrev E(ps:List Pc)(k:Nat):Int:=last ps k 0
end
end Pl
namespace Sr
abbrev sl(f:Nat->Nat)(S:List Nat):Nat:=(S.map f).sum
def JF(f:Nat->Nat)(A B:List Nat):sl f (A++B)=sl f A+sl f B:=by simp[sl,List.sum_append]
theorem PK{f g:Nat->Nat}:∀{S:List Nat},(∀i∈S,f i<=g i)->sl f S<=sl g S
 |[],_=>le_refl _
 |x::r,h=>by
  have h1:=h x (by simp);have ih:=PK (S:=r) λi hi=>h i (by simp[hi]);simp only[sl,map_cons,sum_cons]at ih ⊢;omega
def GU{f g:Nat->Nat}{S:List Nat}(h:∀i∈S,f i=g i):sl f S=sl g S:=by
 unfold sl;rw[List.map_congr_left h]
theorem KS{f:Nat->Nat}:∀{S:List Nat},sl f S=0->∀i∈S,f i=0
 |[],_,_,h=>by cases h
 |x::r,e,i,h=>by
  simp only[sl,map_cons,sum_cons]at e;rcases mem_cons.mp h with rfl|h
  .omega
  .exact KS (S:=r) (by simp only[sl];omega) i h
theorem F9{f:Nat->Nat}:∀{S:List Nat},0<sl f S->∃i∈S,0<f i
 |[],h=>by simp[sl]at h
 |x::r,h=>by
  by_cases q:0<f x
  .exact⟨x,by simp,q⟩
  .simp only[sl,map_cons,sum_cons]at h;obtain⟨i,hi,z⟩:=F9 (S:=r) (f:=f) (by simp only[sl];omega);exact⟨i,by simp[hi],z⟩
theorem EZ(f:Nat->Nat){y:Nat}:∀{S:List Nat},y∈S->sl f S=f y+sl f (S.erase y)
 |x::r,h=>by
  by_cases q:x=y
  .subst q;simp[sl]
  .have hr:y∈r:=by
    rcases mem_cons.mp h with e|h
    .exact absurd e.symm q
    .exact h
   have ih:=EZ f hr;rw[List.erase_cons_tail (by simpa using q)];simp only[sl,map_cons,sum_cons]at ih ⊢;omega
def Su{f g:Nat->Nat}{k:Nat}(hk:0<f k)(hg:∀j,g j=if j=k then f j-1 else f j){S:List Nat}(nd:S.Nodup)(h:k∈S):sl g S+1=sl f S:=by
 rw[EZ f h,EZ g h];have:sl g (S.erase k)=sl f (S.erase k):=GU λi hi=>by
  have hn:i≠k:=λe=>by subst e;exact(List.Nodup.not_mem_erase nd) hi
  rw[hg,if_neg hn]
 rw[this,hg k,if_pos rfl];omega
theorem Mx:∀{l L:List Nat},l.Nodup->(∀x∈l,x∈L)->l.length<=L.length
 |[],_,_,_=>by simp
 |x::r,L,nd,h=>by
  have hx:=h x (by simp);obtain⟨n1,n2⟩:=nodup_cons.mp nd;have ih:=Mx (L:=L.erase x) n2 λy hy=>(List.mem_erase_of_ne λe=>by subst e;exact n1 hy).mpr (h y (by simp[hy]));have e:=List.length_erase_of_mem hx;have:0<L.length:=List.length_pos_of_mem hx;simp only[length_cons];omega
variable(n:Nat)(ln cm:Nat->Nat)
structure Hist(G:Nat->Nat->Nat)(t:Nat):Prop where
 g0:∀j,G 0 j=ln j
 st:∀τ,τ<t->(∀j,j<n->cm j<=τ->G τ j=0)/\(∀j,G (τ+1) j=G τ j)∨∃k,k<n/\cm k<=τ/\0<G τ k/\(∀j,j<n->cm j<=τ->0<G τ j->G τ k<=G τ j)/\∀j,G (τ+1) j=if j=k then G τ j-1 else G τ j
def vr(S:List Nat):Nat->Nat
 |0=>sl ln (S.filter λi=>cm i==0)
 |τ+1=>(vr S τ-1)+sl ln (S.filter λi=>cm i==τ+1)
variable{n ln cm}
theorem Hist.full{G:Nat->Nat->Nat}{t:Nat}(H:Hist n ln cm G t):∀τ,τ<=t->∀j,τ<=cm j->G τ j=ln j
 |0,_,j,_=>H.g0 j
 |τ+1,h,j,hj=>by
  have ih:=H.full τ (by omega) j (by omega);rcases H.st τ (by omega)with⟨_,e⟩|⟨k,_,hk,_,_,e⟩
  .rw[e,ih]
  .rw[e,if_neg (λz=>by subst z;omega),ih]
def step{G:Nat->Nat->Nat}{t τ:Nat}(H:Hist n ln cm G t)(ht:τ<t){Y:List Nat}(nd:Y.Nodup)(hy:∀y∈Y,y<n/\cm y<=τ){V:Nat}(hV:sl (G τ) Y<=V):
 ∃Z:List Nat,Z.Nodup/\(∀y∈Z,y<n/\cm y<=τ)/\Z.length=Y.length/\sl (G (τ+1)) Z<=V-1:=by
 rcases H.st τ ht with⟨z,e⟩|⟨k,kn,hk,k0,km,e⟩
 .refine⟨Y,nd,hy,rfl,?_⟩;have:sl (G (τ+1)) Y=sl (λ_=>0) Y:=GU λi hi=>by rw[e];exact z i (hy i hi).1 (hy i hi).2
  rw[this];have:∀L:List Nat,sl (λ_=>0) L=0:=λL=>by induction L with
   |nil=>rfl
   |cons x r ih=>simpa [sl]using ih
  rw[this];omega
 .by_cases h0:sl (G τ) Y=0
  .refine⟨Y,nd,hy,rfl,?_⟩;have:sl (G (τ+1)) Y<=sl (G τ) Y:=PK λi _=>by rw[e];split<;>omega
   omega
  .by_cases ky:k∈Y
   .have:=Su k0 e nd ky;exact⟨Y,nd,hy,rfl,by omega⟩
   .obtain⟨y,yY,y0⟩:=F9 (f:=G τ) (S:=Y) (by omega);have h1:=km y (hy y yY).1 (hy y yY).2 y0;have h2:=EZ (G τ) yY;refine⟨k::Y.erase y,nodup_cons.mpr ⟨λh=>ky (List.mem_of_mem_erase h),nd.erase y⟩,λx hx=>?_,?_,?_⟩
    .rcases mem_cons.mp hx with rfl|h
     .exact⟨kn,hk⟩
     .exact hy x (List.mem_of_mem_erase h)
    .have:=List.length_erase_of_mem yY;have:0<Y.length:=List.length_pos_of_mem yY;simp only[length_cons];omega
    .have h3:sl (G (τ+1)) (Y.erase y)=sl (G τ) (Y.erase y):=GU λi hi=>by rw[e,if_neg (λz=>by subst z;exact ky (List.mem_of_mem_erase hi))]
     show G (τ+1) k+sl (G (τ+1)) (Y.erase y)<=V-1;rw[h3,e,if_pos rfl];omega
def SO(S:List Nat)(τ:Nat):(S.filter λi=>decide (cm i<=τ+1)).length=(S.filter λi=>decide (cm i<=τ)).length+(S.filter λi=>cm i==τ+1).length:=by
 induction S with
 |nil=>rfl
 |cons x r ih=>
  rw[filter_cons,filter_cons,filter_cons];by_cases h1:cm x<=τ
  .have h3:(cm x==τ+1)=false:=by simpa using (by omega:¬ cm x=τ+1)
   rw[decide_eq_true h1,decide_eq_true (by omega:cm x<=τ+1),h3];simp only[if_true,Bool.false_eq_true,if_false,length_cons];omega
  .by_cases h3:cm x=τ+1
   .rw[decide_eq_false h1,decide_eq_true (by omega:cm x<=τ+1),(by simpa using h3:(cm x==τ+1)=true)];simp only[if_true,Bool.false_eq_true,if_false,length_cons];omega
   .rw[decide_eq_false h1,decide_eq_false (by omega:¬ cm x<=τ+1),(by simpa using h3:(cm x==τ+1)=false)];simp only[Bool.false_eq_true,if_false];omega
def fc{p:Nat->Prop}[DecidablePred p]{S:List Nat}{c:Nat}(h:∀i,p i↔cm i=c):(S.filter λi=>decide (p i))=S.filter λi=>cm i==c:=List.filter_congr λi _=>by
 by_cases q:cm i=c
 .rw[decide_eq_true ((h i).mpr q),q];simp
 .rw[decide_eq_false λz=>q ((h i).mp z)];simp[q]
theorem main{G:Nat->Nat->Nat}{t:Nat}(H:Hist n ln cm G t){S:List Nat}(nd:S.Nodup)(hS:∀i∈S,i<n):∀τ,τ<=t->∃Y:List Nat,Y.Nodup/\(∀y∈Y,y<n/\cm y<=τ)/\Y.length=(S.filter λi=>decide (cm i<=τ)).length/\sl (G τ) Y<=vr ln cm S τ
 |0,_=>by
  refine⟨S.filter λi=>decide (cm i<=0),nd.filter _,λy hy=>?_,rfl,?_⟩
  .have:=mem_filter.mp hy;exact⟨hS y this.1,by simpa using this.2⟩
  .have e:(S.filter λi=>decide (cm i<=0))=S.filter λi=>cm i==0:=fc λi=>by omega
   rw[e,vr];exact Nat.le_of_eq (GU λi _=>H.g0 i)
 |τ+1,h=>by
  obtain⟨Y,n1,n2,n3,n4⟩:=main H nd hS τ (by omega);obtain⟨Z,z1,z2,z3,z4⟩:=step H (by omega) n1 n2 n4;refine⟨Z++S.filter λi=>cm i==τ+1,?_,λy hy=>?_,?_,?_⟩
  .rw[nodup_append];refine⟨z1,nd.filter _,λa ha b hb e=>?_⟩;have h1:=(z2 a ha).2;have h2:cm b=τ+1:=by simpa using (mem_filter.mp hb).2
   subst e;omega
  .rcases mem_append.mp hy with q|q
   .have:=z2 y q;exact⟨this.1,by omega⟩
   .have:=mem_filter.mp q;have h2:cm y=τ+1:=by simpa using this.2
    exact⟨hS y this.1,by omega⟩
  .rw[length_append,z3,n3,SO]
  .rw[JF,vr];have:sl (G (τ+1)) (S.filter λi=>cm i==τ+1)=sl ln (S.filter λi=>cm i==τ+1):=GU λi hi=>by
    have h2:cm i=τ+1:=by simpa using (mem_filter.mp hi).2
    exact H.full (τ+1) h i (by omega)
   omega
def Ss(S:List Nat)(τ c:Nat)(hc:c<=τ):sl ln (S.filter λi=>decide (c<=cm i/\cm i<=τ+1))=sl ln (S.filter λi=>decide (c<=cm i/\cm i<=τ))+sl ln (S.filter λi=>cm i==τ+1):=by
 induction S with
 |nil=>rfl
 |cons x r ih=>
  rw[filter_cons,filter_cons,filter_cons];by_cases h3:cm x=τ+1
  .rw[decide_eq_false (by omega:¬ (c<=cm x/\cm x<=τ)),decide_eq_true (by omega:c<=cm x/\cm x<=τ+1),(by simpa using h3:(cm x==τ+1)=true)];simp only[if_true,Bool.false_eq_true,if_false,sl,map_cons,sum_cons]at ih ⊢;omega
  .have h4:(cm x==τ+1)=false:=by simpa using h3
   by_cases h1:c<=cm x/\cm x<=τ
   .rw[h4,decide_eq_true h1,decide_eq_true (by omega:c<=cm x/\cm x<=τ+1)];simp only[if_true,Bool.false_eq_true,if_false,sl,map_cons,sum_cons]at ih ⊢;omega
   .rw[h4,decide_eq_false h1,decide_eq_false (by omega:¬ (c<=cm x/\cm x<=τ+1))];simp only[Bool.false_eq_true,if_false];exact ih
theorem VM(S:List Nat):∀τ,vr ln cm S τ=0∨∃j∈S,cm j<=τ/\vr ln cm S τ+τ<=sl ln (S.filter λi=>decide (cm j<=cm i/\cm i<=τ))+cm j
 |0=>by
  by_cases h:vr ln cm S 0=0
  .exact .inl h
  .obtain⟨i,hi,_⟩:=F9 (f:=ln) (S:=S.filter λi=>cm i==0) (by rw[vr]at h;omega);obtain⟨h1,h2⟩:=mem_filter.mp hi;have h2:cm i=0:=by simpa using h2
   refine .inr ⟨i,h1,by omega,?_⟩;have e:(S.filter λx=>decide (cm i<=cm x/\cm x<=0))=S.filter λx=>cm x==0:=fc λx=>by omega
   rw[e,vr];omega
 |τ+1=>by
  by_cases h:vr ln cm S (τ+1)=0
  .exact .inl h
  .refine .inr ?_;rcases VM S τ with z|⟨j,hj,hc,hb⟩
   .have e:vr ln cm S (τ+1)=sl ln (S.filter λi=>cm i==τ+1):=by rw[vr,z];omega
    obtain⟨i,hi,_⟩:=F9 (f:=ln) (S:=S.filter λi=>cm i==τ+1) (by omega);obtain⟨h1,h2⟩:=mem_filter.mp hi;have h2:cm i=τ+1:=by simpa using h2
    refine⟨i,h1,by omega,?_⟩;have e2:(S.filter λx=>decide (cm i<=cm x/\cm x<=τ+1))=S.filter λx=>cm x==τ+1:=fc λx=>by omega
    rw[e2,e];omega
   .by_cases v0:vr ln cm S τ=0
    .have e:vr ln cm S (τ+1)=sl ln (S.filter λi=>cm i==τ+1):=by rw[vr,v0];omega
     obtain⟨i,hi,_⟩:=F9 (f:=ln) (S:=S.filter λi=>cm i==τ+1) (by omega);obtain⟨h1,h2⟩:=mem_filter.mp hi;have h2:cm i=τ+1:=by simpa using h2
     refine⟨i,h1,by omega,?_⟩;have e2:(S.filter λx=>decide (cm i<=cm x/\cm x<=τ+1))=S.filter λx=>cm x==τ+1:=fc λx=>by omega
     rw[e2,e];omega
    .refine⟨j,hj,by omega,?_⟩;rw[Ss S τ (cm j) hc,vr];omega
def Fit(ln cm:Nat->Nat)(S:List Nat)(t:Nat):Prop:=∀j∈S,sl ln (S.filter λi=>decide (cm j<=cm i))+cm j<=t
def Py{S:List Nat}{t:Nat}(h:Fit ln cm S t):vr ln cm S t=0:=by
 rcases VM (ln:=ln) (cm:=cm) S t with z|⟨j,hj,_,hb⟩
 .exact z
 .have h1:=h j hj;have:∀L:List Nat,sl ln (L.filter λi=>decide (cm j<=cm i/\cm i<=t))<=sl ln (L.filter λi=>decide (cm j<=cm i)):=λL=>by
   induction L with
   |nil=>exact le_refl _
   |cons x r ih=>
    simp only[filter_cons];by_cases h2:cm j<=cm x
    .rw[decide_eq_true h2];by_cases h3:cm x<=t
     .rw[decide_eq_true ⟨h2,h3⟩];simp only[if_true,sl,map_cons,sum_cons]at ih ⊢;omega
     .rw[decide_eq_false (λz=>h3 z.2)];simp only[if_true,Bool.false_eq_true,if_false,sl,map_cons,sum_cons]at ih ⊢;omega
    .rw[decide_eq_false h2,decide_eq_false (λz=>h2 z.1)];simpa using ih
  have:=this S;omega
def SN{G:Nat->Nat->Nat}{t τ:Nat}(H:Hist n ln cm G t)(ht:τ<=t){S:List Nat}(nd:S.Nodup)(hS:∀i∈S,i<n)(l1:∀i∈S,1<=ln i)(F:Fit ln cm S τ):S.length<=((List.range n).filter λj=>decide (cm j<=τ/\G τ j=0)).length:=by
 obtain⟨Y,n1,n2,n3,n4⟩:=main H nd hS τ ht;rw[Py F]at n4;have z:=KS (f:=G τ) (S:=Y) (by omega);have e:(S.filter λi=>decide (cm i<=τ))=S:=List.filter_eq_self.mpr λi hi=>by
  have:=F i hi;simp only[decide_eq_true_eq];omega
 rw[e]at n3;rw[<- n3];exact Mx n1 λy hy=>by simp[(n2 y hy).1,(n2 y hy).2,z y hy]
end Sr
namespace L2
open PySem PySem.W PyProof.Rows
def feE{K:PySem.W.Frag}{e:Df}{n:Str}{s:Stmt}(h:Ea.Fe K n s)(hn:e.x=n:=by rfl)(hs:e.st=s:=by rfl):Fe K e:=by subst hn;subst hs;exact h
def flE{K:PySem.W.Frag}{e:Df}{n:Str}{s:Stmt}{p:Addr}(h:Ea.Fl K n s p)(hn:e.x=n:=by rfl)(hs:e.st=s:=by rfl):Fla K e p:=by subst hn;subst hs;exact h
def zsE{K:PySem.W.Frag}(h:Ea.Zs K):Zs K:=h
end L2
namespace T45
open PySem L2
abbrev Fr:Stmt:=top 4
def JL:FnScope ["thing"] ["thing"] (A6 Fr):=B3 (by kernel_rfl)
@[reducible] def KG:MS:=(AY (Cv (C7 .int (A0 0)) (Fc (C7 .bool (A0 0)))))
def Bl:FD:=mkF 1 1 KG
abbrev Cz:Df:=⟨"is_number",Fr,["thing"],1,Bl⟩
abbrev DV:Stmt:=top 5
def Fm:FnScope ["least","thing"] ["least","thing"] (A6 DV):=B3 (by kernel_rfl)
@[reducible] def GD:MS:=(AY (Cv (AF 0 Bl (A2 (A0 1) A8)) (mOp gGe (A0 1) (A0 0))))
def Bi:FD:=mkF 2 2 GD
abbrev CO:Df:=⟨"is_number_from",DV,["least","thing"],2,Bi⟩
abbrev Cj:Stmt:=top 6
def Eb:FnScope ["many","thing"] ["many","thing"] (A6 Cj):=B3 (by kernel_rfl)
@[reducible] def F2:MS:=(AY (Cv (AF 0 Bi (A2 (mC (.int 0)) (A2 (A0 1) A8))) (mOp gLt (A0 1) (A0 0))))
def BG:FD:=mkF 2 2 F2
abbrev Bo:Df:=⟨"is_number_of_work",Cj,["many","thing"],3,BG⟩
abbrev Ez:Stmt:=top 7
def HD:FnScope ["many","thing"] ["many","thing"] (A6 Ez):=B3 (by kernel_rfl)
@[reducible] def IU:MS:=(AY (Cv (C7 .tuple (A0 1)) (mOp gEq (mCB (f1 true BD) (A2 (A0 1) A8)) (A0 0))))
def CK:FD:=mkF 2 2 IU
abbrev DH:Df:=⟨"is_tuple_of",Ez,["many","thing"],1,CK⟩
abbrev CU:Stmt:=top 9
def EC:FnScope ["works","word"] ["works","word"] (A6 CU):=B3 (by kernel_rfl)
@[reducible] def Ei:MS:=(B8 (BN (Bn GG (Ab 1 [1] (Ai (A0 0)) (AB 0) BI (mOp gNe (mOp gIx (mOp gIx (A0 0) (mC (.int 2))) (mC (.int 0))) (A0 1)))))
 EL
 Ao)
def B5:FD:=mkF 2 2 Ei
abbrev Bg:Df:=⟨"refuse_other_costs",CU,["works","word"],1,B5⟩
abbrev Fo:Stmt:=top 10
def JI:FnScope ["work"] ["work"] (A6 Fo):=B3 (by kernel_rfl)
@[reducible] def KC:MS:=(AY (mOp gIx (mOp gIx (A0 0) (mC (.int 2))) (Dr (mC (.int 1)))))
def CD:FD:=mkF 1 1 KC
abbrev Dx:Df:=⟨"weight_of",Fo,["work"],1,CD⟩
abbrev FA:Stmt:=top 11
def IR:FnScope ["works","weight"] ["works"] (A6 FA):=B3 (by kernel_rfl)
@[reducible] def Jd:MS:=(AA (AM 1 (AF 0 CD (A2 (mOp gIx (A0 0) (mC (.int 0))) A8)))
 (AA (B8 (BN (Bn GG (Ab 1 [1] (Ai (A0 0)) (AB 0) BI (mOp gNe (AF 0 CD (A2 (A0 0) A8)) (A0 1)))))
  EL
  Ao)
 (AY (A0 1))))
def Ch:FD:=mkF 1 2 Jd
abbrev Dg:Df:=⟨"one_weight",FA,["works"],2,Ch⟩
abbrev Fu:Stmt:=top 13
def JN:FnScope ["pieces","work","begin","end"] ["pieces","work","begin","end"] (A6 Fu):=B3 (by kernel_rfl)
@[reducible] def KI:MS:=(B8 (Ej (BN (A0 0)) (Ej (AH (mOp gEq (mOp gIx (mOp gIx (A0 0) (Dr (mC (.int 1)))) (mC (.int 0))) (A0 1))) (AH (mOp gEq (mOp gIx (mOp gIx (A0 0) (Dr (mC (.int 1)))) (mC (.int 2))) (A0 2)))))
 (CZ (A0 0) (Dr (mC (.int 1))) (Bv (A2 (A0 1) (A2 (mOp gIx (mOp gIx (A0 0) (Dr (mC (.int 1)))) (mC (.int 1))) (A2 (A0 3) A8)))))
 (Cb (mMt BV (A0 0) (A2 (Bv (A2 (A0 1) (A2 (A0 2) (A2 (A0 3) A8)))) A8))))
def CF:FD:=mkF 4 4 KI
abbrev E1:Df:=⟨"add_piece",Fu,["pieces","work","begin","end"],1,CF⟩
abbrev Ey:Stmt:=top 14
def HC:FnScope ["works","begins","rank","left","pieces","t","undone","work","stop"] ["works","begins","rank"] (A6 Ey):=B3 (by kernel_rfl)
@[reducible] def IT:MS:=(AA (AM 3 (Ah (Ab 1 [] (Ai (A0 0)) (AB 0) BI (mOp gIx (A0 0) (mC (.int 0))))))
 (AA (AM 4 (Ah (CY A8)))
 (AA (AM 5 (mC (.int 0)))
 (AA (Db (BN (mCB (f1 false Gk) (A2 (A0 3) A8)))
  (AA (AM 6 (Ah (Ab 1 [3] (Ds (A2 (mCB (f1 true BD) (A2 (A0 0) A8)) A8)) (AB 0) (AH (mOp gGt (mOp gIx (A0 1) (A0 0)) (mC (.int 0)))) (A0 0))))
 (AA (AM 5 (mCB Es (A2 (A0 5) (A2 (Bn Dv (Ab 1 [1] (Co (A0 6)) (AB 0) BI (mOp gIx (A0 1) (A0 0)))) A8))))
 (AA (AM 7 (Dd (Ah (Ab 1 [1,5] (Co (A0 6)) (AB 0) (AH (mOp gLe (mOp gIx (A0 1) (A0 0)) (A0 2))) (A0 0))) [2,3] (Bv (A2 (Cc (A0 1) (A2 (A0 0) (A2 (mOp gIx (A0 2) (A0 0)) A8))) (A2 (A0 0) A8)))))
 (AA (AM 8 (Bn Dv (FK (Ah (CY (A2 (mOp BR (A0 5) (mOp gIx (A0 3) (A0 7))) A8))) (Ah (Ab 1 [1,5] (Co (A0 6)) (AB 0) (AH (mOp gGt (mOp gIx (A0 1) (A0 0)) (A0 2))) (mOp gIx (A0 1) (A0 0)))))))
 (AA (Cb (CA CF (A2 (A0 4) (A2 (A0 7) (A2 (A0 5) (A2 (A0 8) A8))))))
 (AA (Cu (A0 3) (A0 7) (mOp Cd (A0 8) (A0 5)) (λi j=>i-j))
 (AM 5 (A0 8)))))))))
 (AY (mCB (f1 true DE) (A2 (A0 4) A8)))))))
def CJ:FD:=mkF 3 9 IT
abbrev CI:Df:=⟨"ranked_plan",Ey,["works","begins","rank"],4,CJ⟩
abbrev GZ:Stmt:=top 16
def K8:FnScope ["works","thing","work","begin","end"] ["works","thing"] (A6 GZ):=B3 (by kernel_rfl)
@[reducible] def Lk:MS:=(AA (B8 (CN (BN (AF 0 CK (A2 (mC (.int 3)) (A2 (A0 1) A8)))))
 (AY (mC (.bl false)))
 Ao)
 (AA (FL (A0 1) (CL 3 (AQ (AB 2) (AQ (AB 3) (AQ (AB 4) CM)))))
 (AA (B8 (mOr (CN (BN (AF 0 BG (A2 (mCB (f1 true BD) (A2 (A0 0) A8)) (A2 (A0 2) A8))))) (mOr (CN (BN (AF 0 Bl (A2 (A0 3) A8)))) (CN (BN (AF 0 Bl (A2 (A0 4) A8))))))
  (AY (mC (.bl false)))
  Ao)
 (AY (Cv (mOp gLe (mOp gIx (mOp gIx (A0 0) (A0 2)) (mC (.int 1))) (A0 3)) (mOp gLt (A0 3) (A0 4)))))))
def DK:FD:=mkF 2 5 Lk
abbrev Eu:Df:=⟨"is_piece",GZ,["works","thing"],4,DK⟩
abbrev Dk:Stmt:=top 17
def G0:FnScope ["pieces"] ["pieces"] (A6 Dk):=B3 (by kernel_rfl)
@[reducible] def Gh:MS:=(AY (Bn Em (Ab 2 [] (HN (Ai (A0 0)) (Ai (HP (A0 0) (Fb (mC (.int 1))) DL))) (CL 2 (AQ (AB 0) (AQ (AB 1) CM))) BI (mOp gLe (mOp gIx (A0 0) (mC (.int 2))) (mOp gIx (A0 1) (mC (.int 1)))))))
def Bq:FD:=mkF 1 1 Gh
abbrev Ce:Df:=⟨"one_at_a_time",Dk,["pieces"],1,Bq⟩
abbrev ED:Stmt:=top 18
def GV:FnScope ["works","pieces","done","work","begin","end"] ["works","pieces"] (A6 ED):=B3 (by kernel_rfl)
@[reducible] def HL:MS:=(AA (AM 2 (Ah (Ab 1 [] (Ai (A0 0)) (AB 0) BI (mC (.int 0)))))
 (AA (Ca (Ai (A0 1)) (CL 3 (AQ (AB 3) (AQ (AB 4) (AQ (AB 5) CM))))
  (Cu (A0 2) (A0 3) (mOp Cd (A0 5) (A0 4)) (λi j=>i+j)))
 (AY (A0 2))))
def C3:FD:=mkF 2 6 HL
abbrev Cq:Df:=⟨"lengths_done",ED,["works","pieces"],1,C3⟩
abbrev EE:Stmt:=top 19
def GW:FnScope ["wishes","pieces","ends"] ["wishes","pieces","ends"] (A6 EE):=B3 (by kernel_rfl)
@[reducible] def HM:MS:=(AY (mCB (f1 false Em) (A2 (C9 5 [1,2] (Ai (A0 0)) (CL 2 (AQ (AB 0) (AQ (AB 1) CM))) BI (Ai (A0 5)) (CL 3 (AQ (AB 2) (AQ (AB 3) (AQ (AB 4) CM)))) (AH (mOp gEq (A0 2) (A0 1))) (mOp gLe (mOp gIx (A0 6) (A0 0)) (A0 3))) A8)))
def C4:FD:=mkF 3 3 HM
abbrev Cr:Df:=⟨"keeps_wishes",EE,["wishes","pieces","ends"],1,C4⟩
abbrev Hq:Stmt:=top 21
def LO:FnScope ["works","plan","ends","work","begin","end"] ["works","plan"] (A6 Hq):=B3 (by kernel_rfl)
@[reducible] def HR:MS:=(AA (AM 2 (Ah (Ab 1 [] (Ai (A0 0)) (AB 0) BI (mC (.int 0)))))
 (AA (Ca (Ai (A0 1)) (CL 3 (AQ (AB 3) (AQ (AB 4) (AQ (AB 5) CM))))
  (CZ (A0 2) (A0 3) (A0 5)))
 (AY (mCB (f1 true DE) (A2 (A0 2) A8)))))
def F_ends_of:FD:=mkF 2 6 HR
abbrev Dp:Df:=⟨"ends_of",Hq,["works","plan"],1,F_ends_of⟩
abbrev Ho:Stmt:=top 20
def LN:FnScope ["works","wishes","thing"] ["works","wishes","thing"] (A6 Ho):=B3 (by kernel_rfl)
@[reducible] def Mz:MS:=(AA (B8 (mOr (CN (BN (C7 .tuple (A0 2)))) (CN (BN (Bn Em (Ab 1 [0] (Ai (A0 2)) (AB 0) BI (AF 0 DK (A2 (A0 1) (A2 (A0 0) A8))))))))
 (AY (mC (.bl false)))
 Ao)
 (AA (B8 (CN (BN (AF 0 Bq (A2 (A0 2) A8))))
  (AY (mC (.bl false)))
  Ao)
 (AA (B8 (AH (BP true (AF 0 C3 (A2 (A0 0) (A2 (A0 2) A8))) (Ab 1 [] (Ai (A0 0)) (AB 0) BI (mOp gIx (A0 0) (mC (.int 0))))))
  (AY (mC (.bl false)))
  Ao)
 (AY (AF 0 C4 (A2 (A0 1) (A2 (A0 2) (A2 (AF 0 F_ends_of (A2 (A0 0) (A2 (A0 2) A8))) A8))))))))
def Dq:FD:=mkF 3 3 Mz
abbrev FP:Df:=⟨"is_plan",Ho,["works","wishes","thing"],5,Dq⟩
abbrev FB:Stmt:=top 23
def IS:FnScope ["works"] ["works"] (A6 FB):=B3 (by kernel_rfl)
@[reducible] def Je:MS:=(AA (Cb (AF 0 B5 (A2 (A0 0) (A2 (mC (.str "ends")) A8))))
 (AY (AF 0 Ch (A2 (A0 0) A8))))
def Ci:FD:=mkF 1 1 Je
abbrev Dh:Df:=⟨"end_weight",FB,["works"],3,Ci⟩
abbrev Fq:Stmt:=top 24
def JK:FnScope ["works"] ["works"] (A6 Fq):=B3 (by kernel_rfl)
@[reducible] def KF:MS:=(AA (Cb (AF 0 Ci (A2 (A0 0) A8)))
 (AY (CA CJ (A2 (A0 0) (A2 (Ah (Ab 1 [] (Ai (A0 0)) (AB 0) BI (mOp gIx (A0 0) (mC (.int 1))))) (A2 Gi A8))))))
def D2:FD:=mkF 1 1 KF
abbrev Cy:Df:=⟨"left_plan",Fq,["works"],5,D2⟩
abbrev JO:Stmt:=top 26
def MY:FnScope ["_law_script"] ["_law_script"] (A6 JO):=B3 (by kernel_rfl)
@[reducible] def Og:MS:=(AY (Ii [((mC (.str "cells")),(Ah (FJ (Jf (A0 0) DL (Fb (mC (.int 63))))))),((mC (.str "at")),(mC (.int 0))),((mC (.str "rest")),(mC (.int 0))),((mC (.str "count")),(mC (.int 0)))]))
def Ex:FD:=mkF 1 1 Og
abbrev GK:Df:=⟨"_law_source",JO,["_law_script"],1,Ex⟩
abbrev MZ:Stmt:=top 27
def Q7:FnScope ["_law_source_here","_law_many","_law_found","_law_cells","_law_cell","_law_mixed"] ["_law_source_here","_law_many"] (A6 MZ):=B3 (by kernel_rfl)
@[reducible] def Uq:MS:=(AA (Dm (A0 0) (mC (.str "count")) (mOp BR (mOp Bf (A0 0) (mC (.str "count"))) (mC (.int 1))))
 (AA (B8 (AH (mOp gGt (mOp Bf (A0 0) (mC (.str "rest"))) (mC (.int 0))))
  (AA (AM 2 (mOp Eo (mOp Bf (A0 0) (mC (.str "rest"))) (A0 1)))
 (AA (Dm (A0 0) (mC (.str "rest")) (mOp Go (mOp Bf (A0 0) (mC (.str "rest"))) (A0 1)))
 (AY (A0 2))))
  Ao)
 (AA (AM 3 (mOp Bf (A0 0) (mC (.str "cells"))))
 (AA (AM 4 (mIf (AH (BP true (A0 3) (CY A8))) (mOp gIx (A0 3) (mOp Eo (mOp Bf (A0 0) (mC (.str "at"))) (mCB (f1 true BD) (A2 (A0 3) A8)))) (mC (.int 11))))
 (AA (Dm (A0 0) (mC (.str "at")) (mOp BR (mOp Bf (A0 0) (mC (.str "at"))) (mC (.int 1))))
 (AA (B8 (Ej (AH (mOp gGe (A0 4) (mOp Ow (mC (.int 10)) (mC (.int 18))))) (AH (mOp gLe (mOp Bf (A0 0) (mC (.str "at"))) (mCB (f1 true BD) (A2 (A0 3) A8)))))
  (AA (Dm (A0 0) (mC (.str "rest")) (mOp Go (A0 4) (A0 1)))
 (AY (mOp Eo (A0 4) (A0 1))))
  Ao)
 (AA (AM 5 (mOp BR (mOp Eo (A0 4) (mC (.int 1073741827))) (mOp GI (mC (.int 611953)) (mOp Bf (A0 0) (mC (.str "count"))))))
 (AA (AM 5 (mOp Eo (mOp BR (mOp BR (mOp GI (A0 5) (A0 5)) (mOp GI (mC (.int 3)) (mOp Bf (A0 0) (mC (.str "count"))))) (mC (.int 7))) (mC (.int 2147483543))))
 (AA (AM 5 (mOp Eo (mOp BR (mOp BR (mOp GI (A0 5) (A0 5)) (mOp GI (mC (.int 69069)) (mOp Bf (A0 0) (mC (.str "count"))))) (mC (.int 1))) (mC (.int 2147483497))))
 (AY (mOp Eo (mOp Go (A0 5) (mC (.int 256))) (A0 1))))))))))))
def Ax:FD:=mkF 2 6 Uq
abbrev Jn:Df:=⟨"_law_pick",MZ,["_law_source_here","_law_many"],1,Ax⟩
abbrev Ft:Stmt:=top 28
def JM:FnScope ["_law_source_here","_law_most","_law_many","_law_longest","_law_latest","_law_weight","_law_works","_law_k","_law_way","_law_work"] ["_law_source_here","_law_most"] (A6 Ft):=B3 (by kernel_rfl)
@[reducible] def KH:MS:=(AA (AM 2 (mOp BR (mC (.int 1)) (AF 2 Ax (A2 (A0 0) (A2 (A0 1) A8)))))
 (AA (AM 3 (GF (CY (A2 (mC (.int 20)) (A2 (mC (.int 6)) (A2 (mC (.int 2)) A8)))) (AF 2 Ax (A2 (A0 0) (A2 (mC (.int 3)) A8)))))
 (AA (AM 4 (GF (CY (A2 (mC (.int 61)) (A2 (mC (.int 12)) (A2 (mC (.int 1)) A8)))) (AF 2 Ax (A2 (A0 0) (A2 (mC (.int 3)) A8)))))
 (AA (AM 5 (AF 2 Ax (A2 (A0 0) (A2 (mC (.int 10)) A8))))
 (AA (AM 6 (Ah (CY A8)))
 (AA (Ca (Ds (A2 (A0 2) A8)) (AB 7)
  (AA (AM 8 (AF 2 Ax (A2 (A0 0) (A2 (mC (.int 5)) A8))))
 (AA (AM 9 (Bv (A2 (mOp BR (mC (.int 1)) (AF 2 Ax (A2 (A0 0) (A2 (A0 3) A8)))) (A2 (AF 2 Ax (A2 (A0 0) (A2 (A0 4) A8))) (A2 (Bv (A2 (mC (.str "ends")) (A2 (A0 5) A8))) A8)))))
 (AA (B8 (Ej (AH (mOp gEq (A0 8) (mC (.int 0)))) (AH (mOp gGt (A0 7) (mC (.int 0)))))
  (AM 9 (mOp gIx (A0 6) (AF 2 Ax (A2 (A0 0) (A2 (A0 7) A8)))))
  Ao)
 (Cb (mMt BV (A0 6) (A2 (A0 9) A8)))))))
 (AY (mCB (f1 true DE) (A2 (A0 6) A8)))))))))
def D3:FD:=mkF 2 10 KH
abbrev Dz:Df:=⟨"_law_end_works",Ft,["_law_source_here","_law_most"],2,D3⟩
abbrev Ma:Stmt:=top 29
def Q8:FnScope ["_law_works","_law_t","_law_found","_law_pair","_law_length","_law_coming","_law_cost"] ["_law_works","_law_t"] (A6 Ma):=B3 (by kernel_rfl)
@[reducible] def Ur:MS:=(AA (AM 2 (Ah (CY (A2 (Bv (A2 (mC (.int 0)) (A2 (mC (.int 0)) A8))) A8))))
 (AA (Ca (Dc (Cm (Dc (Ab 1 [0] (Ds (A2 (mCB (f1 true BD) (A2 (A0 0) A8)) A8)) (AB 0) BI (Bv (A2 (mOp Cd (mC (.int 0)) (mOp gIx (mOp gIx (A0 1) (A0 0)) (mC (.int 1)))) (A2 (A0 0) A8))))))) (AB 3)
  (AA (FL (mOp gIx (A0 0) (mOp gIx (A0 3) (mC (.int 1)))) (CL 3 (AQ (AB 4) (AQ (AB 5) (AQ (AB 6) CM)))))
 (AM 2 (Ah (FK (A0 2) (Ah (Ab 1 [4,1,5] (Co (A0 2)) (AB 0) (AH (mOp gLe (mOp BR (mOp gIx (A0 0) (mC (.int 0))) (A0 1)) (mOp Cd (A0 2) (A0 3)))) (Bv (A2 (mOp BR (mOp gIx (A0 0) (mC (.int 0))) (A0 1)) (A2 (mOp BR (mOp gIx (A0 0) (mC (.int 1))) (mC (.int 1))) A8))))))))))
 (AY (Bn HV (Ab 1 [] (Co (A0 2)) (AB 0) BI (mOp gIx (A0 0) (mC (.int 1))))))))
def Gx:FD:=mkF 2 7 Ur
abbrev Jo:Df:=⟨"_law_done",Ma,["_law_works","_law_t"],1,Gx⟩
abbrev GY:Stmt:=top 30
def K7:FnScope ["_law_works","_law_plan","_law_left","_law_now","_law_piece","_law_part","_law_k","_law_begin","_law_end"] ["_law_works","_law_plan"] (A6 GY):=B3 (by kernel_rfl)
@[reducible] def Lj:MS:=(AA (B8 (CN (BN (C7 .tuple (A0 1))))
 (AY (mC (.bl false)))
 Ao)
 (AA (AM 2 (Ah (Ab 1 [] (Ai (A0 0)) (AB 0) BI (mOp gIx (A0 0) (mC (.int 0))))))
 (AA (AM 3 (mC (.int 0)))
 (AA (Ca (Ai (A0 1)) (AB 4)
  (AA (B8 (mOr (CN (BN (C7 .tuple (A0 4)))) (AH (mOp gNe (mCB (f1 true BD) (A2 (A0 4) A8)) (mC (.int 3)))))
  (AY (mC (.bl false)))
  Ao)
 (AA (Ca (Ai (A0 4)) (AB 5)
  (B8 (mOr (CN (BN (C7 .int (A0 5)))) (BN (C7 .bool (A0 5))))
  (AY (mC (.bl false)))
  Ao))
 (AA (FL (A0 4) (CL 3 (AQ (AB 6) (AQ (AB 7) (AQ (AB 8) CM)))))
 (AA (B8 (mOr (AH (mOp gLt (A0 6) (mC (.int 0)))) (mOr (AH (mOp gGe (A0 6) (mCB (f1 true BD) (A2 (A0 0) A8)))) (mOr (AH (mOp gLt (A0 7) (A0 3))) (mOr (AH (mOp gLt (A0 7) (mOp gIx (mOp gIx (A0 0) (A0 6)) (mC (.int 1))))) (AH (mOp gGe (A0 7) (A0 8)))))))
  (AY (mC (.bl false)))
  Ao)
 (AA (CZ (A0 2) (A0 6) (mOp Cd (mOp gIx (A0 2) (A0 6)) (mOp Cd (A0 8) (A0 7))))
 (AM 3 (A0 8))))))))
 (AY (BP false (A0 2) (GE (CY (A2 (mC (.int 0)) A8)) (mCB (f1 true BD) (A2 (A0 0) A8)))))))))
def DJ:FD:=mkF 2 9 Lj
abbrev Et:Df:=⟨"_law_is_plan",GY,["_law_works","_law_plan"],1,DJ⟩
abbrev Fp:Stmt:=top 31
def JJ:FnScope ["_law_works","_law_plan","_law_ends","_law_k","_law_begin","_law_end"] ["_law_works","_law_plan"] (A6 Fp):=B3 (by kernel_rfl)
@[reducible] def KD:MS:=(AA (AM 2 (Ah (GE (CY (A2 (mC (.int 0)) A8)) (mCB (f1 true BD) (A2 (A0 0) A8)))))
 (AA (Ca (Ai (A0 1)) (CL 3 (AQ (AB 3) (AQ (AB 4) (AQ (AB 5) CM))))
  (CZ (A0 2) (A0 3) (A0 5)))
 (AY (mCB (f1 true DE) (A2 (A0 2) A8)))))
def D1:FD:=mkF 2 6 KD
abbrev Dy:Df:=⟨"_law_plan_ends",Fp,["_law_works","_law_plan"],1,D1⟩
abbrev PL:Stmt:=top 32
def Sv:FnScope ["_law_script","_law_source_here","_law_turn","_law_works","_law_plan","_law_ends","_law_k","_law_end"] ["_law_script"] (A6 PL):=B3 (by kernel_rfl)
@[reducible] def W0:MS:=(AA (AM 1 (CA Ex (A2 (A0 0) A8)))
 (AA (Ca (Ds (A2 (mC (.int 2)) A8)) (AB 2)
  (AA (AM 3 (AF 2 D3 (A2 (A0 1) (A2 (mC (.int 8)) A8))))
 (AA (AM 4 (AF 0 D2 (A2 (A0 3) A8)))
 (AA (B8 (mOr (CN (BN (AF 0 DJ (A2 (A0 3) (A2 (A0 4) A8))))) (AH (HQ true true (AF 0 Dq (A2 (A0 3) (A2 (Bv A8) (A2 (A0 4) A8)))))))
  (AY (mC (.bl false)))
  Ao)
 (AA (AM 5 (AF 0 D1 (A2 (A0 3) (A2 (A0 4) A8))))
 (AA (B8 (AH (mOp (HZ true) (AF 0 F_ends_of (A2 (A0 3) (A2 (A0 4) A8))) (A0 5)))
  (AY (mC (.bl false)))
  Ao)
 (Ca (Fd (Dc (Cn (Ai (A0 5))))) (CL 2 (AQ (AB 6) (AQ (AB 7) CM)))
  (B8 (AH (mOp gGt (AF 0 Gx (A2 (A0 3) (A2 (mOp Cd (A0 7) (mC (.int 1))) A8))) (A0 6)))
  (AY (mC (.bl false)))
  Ao))))))))
 (AY (mC (.bl true)))))
def Yc:FD:=mkF 1 8 W0
abbrev M3:Df:=⟨"law",PL,["_law_script"],6,Yc⟩
set_option maxHeartbeats 0 in
def oks{E:EnK}(B:BltA E.mg):(Dn E Cz->Kn E Cz)/\
 (Dn E CO->Kn E Cz->Kn E CO)/\
 (Dn E Bo->Kn E CO->Kn E Bo)/\
 (Dn E DH->Kn E DH)/\
 (Dn E Bg->Kn E Bg)/\
 (Dn E Dx->Kn E Dx)/\
 (Dn E Dg->Kn E Dx->Kn E Dg)/\
 (Dn E E1->Kn E E1)/\
 (Dl E CI ⟨41,62,41,93⟩->Kn E E1->Kn E CI)/\
 (Dn E Eu->Kn E Cz->Kn E Bo->Kn E DH->Kn E Eu)/\
 (Dn E Ce->Kn E Ce)/\
 (Dn E Cq->Kn E Cq)/\
 (Dn E Cr->Kn E Cr)/\
 (Dn E Dp->Kn E Dp)/\
 (Dn E FP->Kn E Eu->Kn E Ce->Kn E Cq->Kn E Cr->Kn E Dp->Kn E FP)/\
 (Dn E Dh->Kn E Bg->Kn E Dg->Kn E Dh)/\
 (Dl E Cy ⟨83,59,83,82⟩->Kn E CI->Kn E Dh->Kn E Cy)/\
 (Dn E GK->Kn E GK)/\
 (Dn E Jn->Kn E Jn)/\
 (Dn E Dz->Kn E Jn->Kn E Dz)/\
 (Dn E Jo->Kn E Jo)/\
 (Dn E Et->Kn E Et)/\
 (Dn E Dy->Kn E Dy)/\
 (Dn E M3->Kn E FP->Kn E Dp->Kn E Cy->Kn E GK->Kn E Dz->Kn E Jo->Kn E Et->Kn E Dy->Kn E M3):=by
 refine⟨λD=>okK D JL rfl rfl λ_ _ _ _ _ _ _ hr=>?_,
  λD _=>okK D Fm rfl rfl λ_ _ _ _ _ _ _ hr=>?_,
  λD _=>okK D Eb rfl rfl λ_ _ _ _ _ _ _ hr=>?_,
  λD=>okK D HD rfl rfl λ_ _ _ _ _ _ _ hr=>?_,
  λD=>okK D EC rfl rfl λ_ _ _ _ _ _ _ hr=>?_,
  λD=>okK D JI rfl rfl λ_ _ _ _ _ _ _ hr=>?_,
  λD _=>okK D IR rfl rfl λ_ _ _ _ _ _ _ hr=>?_,
  λD=>okK D JN rfl rfl λ_ _ _ _ _ _ _ hr=>?_,
  λD _=>okL D HC rfl rfl λ_ _ _ _ LC _ _ _ _ _ _ hcd hr=>?_,
  λD _ _ _=>okK D K8 rfl rfl λ_ _ _ _ _ _ _ hr=>?_,
  λD=>okK D G0 rfl rfl λ_ _ _ _ _ _ _ hr=>?_,
  λD=>okK D GV rfl rfl λ_ _ _ _ _ _ _ hr=>?_,
  λD=>okK D GW rfl rfl λ_ _ _ _ _ _ _ hr=>?_,
  λD=>okK D LO rfl rfl λ_ _ _ _ _ _ _ hr=>?_,
  λD _ _ _ _ _=>okK D LN rfl rfl λ_ _ _ _ _ _ _ hr=>?_,
  λD _ _=>okK D IS rfl rfl λ_ _ _ _ _ _ _ hr=>?_,
  λD _ _=>okL D JK rfl rfl λ_ _ _ _ LC _ _ _ _ _ _ hcd hr=>?_,
  λD=>okK D MY rfl rfl λ_ _ _ _ _ _ _ hr=>?_,
  λD=>okK D Q7 rfl rfl λ_ _ _ _ _ _ _ hr=>?_,
  λD _=>okK D JM rfl rfl λ_ _ _ _ _ _ _ hr=>?_,
  λD=>okK D Q8 rfl rfl λ_ _ _ _ _ _ _ hr=>?_,
  λD=>okK D K7 rfl rfl λ_ _ _ _ _ _ _ hr=>?_,
  λD=>okK D JJ rfl rfl λ_ _ _ _ _ _ _ hr=>?_,
  λD _ _ _ _ _ _ _ _=>okK D Sv rfl rfl λ_ _ _ _ _ _ _ hr=>?_⟩
 all_goals (refine' ⟨_,_⟩;rotate_left;repeat' (first
  |((with_reducible show QE _ _ _ _ _);first|exact qv _ _|(first|exact UF _|exact U8 _|exact Vn _)|((with_reducible show QE _ _ _ _ (mOp _ _ _));first|((with_reducible show QE _ _ _ _ (mOp gIx _ _));refine' Vl _ _ _)|((with_reducible show QE _ _ _ _ (mOp Bf _ _));refine' RO _ (Pk hr) _ _)|((with_reducible show QE _ _ _ _ (mOp BR _ _));refine' FY _ ((Uo).or (OZ _)) (EH Te Qg) _ _)|((with_reducible show QE _ _ _ _ (mOp Cd _ _));refine' FY _ Ud TY _ _)|((with_reducible show QE _ _ _ _ (mOp GI _ _));refine' FY _ Ui Tc _ _)|((with_reducible show QE _ _ _ _ (mOp Eo _ _));refine' FY _ Uj Td _ _)|((with_reducible show QE _ _ _ _ (mOp Go _ _));refine' FY _ Rv Qf _ _)|((with_reducible show QE _ _ _ _ (mOp Ow _ _));refine' FY _ Uf TZ _ _)|((with_reducible show QE _ _ _ _ (mOp gLt _ _));refine' FE _ Pf PR _ _)|((with_reducible show QE _ _ _ _ (mOp gLe _ _));refine' FE _ Ph PU _ _)|((with_reducible show QE _ _ _ _ (mOp gGe _ _));refine' FE _ Pi PV _ _)|((with_reducible show QE _ _ _ _ (mOp gEq _ _));refine' FE _ ((Pj).or (HJ _ hr.units)) (EH Mk Ml) _ _)|((with_reducible show QE _ _ _ _ (mOp gNe _ _));refine' FE _ ((Pe).or (Fa _ hr.units)) (EH Mi Mj) _ _))|refine' U7 _ _|((with_reducible show QE _ _ _ _ (Ah _));refine' UC _ _)|refine' UD _ _|((with_reducible show QE _ _ _ _ (AF _ _ _));first|refine' qcW _ (by assumption) hr _|refine' qcW _ (by assumption) (hr.in1.deeper _) _)|((with_reducible show QE _ _ _ _ (CA _ _));refine' qcG (by assumption) hr _)|((with_reducible show QE _ _ _ _ Gi);exact U0 LC hcd)|((with_reducible show QE _ _ _ _ (Cc _ _));refine' OL _ (hr.in1.deeper _) _ _)|((with_reducible show QE _ _ _ _ (Dd _ _ _));refine' Tz LC hcd hr B.min _ (λ_ _ _ _=>_))|((with_reducible show QE _ _ _ _ (Bn _ _));first|((with_reducible show QE _ _ _ _ (Bn Em _));refine' Ih _ (II _ rfl) Mg B.all L2.bt_all _)|((with_reducible show QE _ _ _ _ (Bn GG _));refine' Ih _ (IH _ rfl) Mf B.any L2.bt_any _)|((with_reducible show QE _ _ _ _ (Bn Dv _));refine' Ih _ (IF _ rfl) Md B.min L2.bt_min _)|((with_reducible show QE _ _ _ _ (Bn HV _));refine' Ih _ ((IG _ rfl).or (Gu _ rfl)) Me B.max L2.bt_max _))|((with_reducible show QE _ _ _ _ (mCB _ _));first|((with_reducible show QE _ _ _ _ (mCB (f1 _ Em) _));refine' Ed _ (II _ rfl) (G5 Mg) B.all L2.bt_all _)|((with_reducible show QE _ _ _ _ (mCB (f1 _ GG) _));refine' Ed _ (IH _ rfl) (G5 Mf) B.any L2.bt_any _)|((with_reducible show QE _ _ _ _ (mCB (f1 _ BD) _));refine' Ed _ (NH _) (G5 TK) B.len L2.bt_len _)|((with_reducible show QE _ _ _ _ (mCB (f1 _ Dv) _));refine' Ed _ (IF _ rfl) (G5 Md) B.min L2.bt_min _)|((with_reducible show QE _ _ _ _ (mCB (f1 _ HV) _));refine' Ed _ ((IG _ rfl).or (Gu _ rfl)) (G5 Me) B.max L2.bt_max _)|((with_reducible show QE _ _ _ _ (mCB (f1 _ Gk) _));refine' Ed _ (M9 _ rfl) (G5 QU) B.any L2.bt_any _)|((with_reducible show QE _ _ _ _ (mCB Es _));refine' Ed _ (NG rfl) QV B.max L2.bt_max _)|((with_reducible show QE _ _ _ _ (mCB (f1 _ DE) _));refine' Vm _ (KM _) (G5 Nx) B.tuple L2.bt_tuple _))|((with_reducible show QE _ _ _ _ (GF _ _));refine' UE _ _ _)|((with_reducible show QE _ _ _ _ (HP _ _ _));refine' U9 _ _ _ _)|refine' OJ _ _ _ _|((with_reducible show QE _ _ _ _ (mMt _ _ _));first|((with_reducible show QE _ _ _ _ (mMt BV _ _));refine' Vk _ PySem.F.slot_list_append PySem.F.type_list_append Hu Mb _ _))|((with_reducible show QE _ _ _ _ (C9 _ _ _ _ _ _ _ _ _));refine' Wl _ (λ_ _ _=>_) (λ_ _ _=>_) (λ_ _ _=>_) (λ_ _ _=>_) (λ_ _ _=>_) (λ_ _ _=>_))|refine' RK _ _|((with_reducible show QE _ _ _ _ (C7 _ _));first|((with_reducible show QE _ _ _ _ (C7 .int _));refine' JT _ .int B.isinstance B.int _)|((with_reducible show QE _ _ _ _ (C7 .bool _));refine' JT _ .bool B.isinstance B.bool _)|((with_reducible show QE _ _ _ _ (C7 .tuple _));refine' JT _ .tuple B.isinstance B.tuple _))|((with_reducible show QE _ _ _ _ (BP _ _ _));refine' RJ _ (Uk _ hr.units) _ _)|((with_reducible show QE _ _ _ _ (Cv _ _));refine' UG _ _ _)|((with_reducible show QE _ _ _ _ (Fc _));refine' UB _ _)|refine' UA _ _)
  |refine' RP _ _ _|exact UH _
  |((with_reducible show QT _ _ _ _ _);first|((with_reducible show QT _ _ _ _ (AH (mOp _ _ _)));first|((with_reducible show QT _ _ _ _ (AH (mOp gLt _ _)));refine' DY _ Pf PR _ _)|((with_reducible show QT _ _ _ _ (AH (mOp gLe _ _)));refine' DY _ Ph PU _ _)|((with_reducible show QT _ _ _ _ (AH (mOp gGt _ _)));refine' DY _ Vu Vg _ _)|((with_reducible show QT _ _ _ _ (AH (mOp gGe _ _)));refine' DY _ Pi PV _ _)|((with_reducible show QT _ _ _ _ (AH (mOp gEq _ _)));refine' DY _ ((Pj).or (HJ _ hr.units)) (EH Mk Ml) _ _)|((with_reducible show QT _ _ _ _ (AH (mOp gNe _ _)));refine' DY _ ((Pe).or (Fa _ hr.units)) (EH Mi Mj) _ _)|((with_reducible show QT _ _ _ _ (AH (mOp (HZ true) _ _)));refine' DY _ (Fa _ hr.units) Ta _ _))|refine' Tm _ _|((with_reducible show QT _ _ _ _ (BN _));refine' OB _ _)|((with_reducible show QT _ _ _ _ (Ej _ _));refine' QW.toT _)|((with_reducible show QT _ _ _ _ (mOr _ _));refine' QW.toT _)|((with_reducible show QT _ _ _ _ (AH (HQ _ _ _)));refine' Qk _ _)|((with_reducible show QT _ _ _ _ (AH (BP _ _ _)));refine' Ql _ (Ug _ hr.units) _ _))
  |refine' Qj _ _|refine' Tk _ _|refine' Tl _ _ _|refine' Vh _ _ _
  |((with_reducible show QN _ _ _ _ _);first|refine' Tw _ _|((with_reducible show QN _ _ _ _ (Ab _ _ _ _ _ _));refine' qnA _ (λ_ _ _=>_) (λ_ _ _=>_) (λ_ _ _=>_))|((with_reducible show QN _ _ _ _ (GE _ _));refine' Tv _ _ _)|((with_reducible show QN _ _ _ _ (FK _ _));refine' Tx _ _ _)|((with_reducible show QN _ _ _ _ (Jf _ _ _));refine' Tu _ _ _ _)|((with_reducible show QN _ _ _ _ (Cm _));refine' LY _ B.sorted _)|((with_reducible show QN _ _ _ _ (Cn _));(refine' LX _ B.sorted _;rotate_left;refine' Mm _ _))|((with_reducible show QN _ _ _ _ (FJ _));refine' OH _ B.list _))
  |((with_reducible show QI _ _ _ _ _ _);first|((with_reducible show QI _ _ _ _ _ (Ds _));refine' Qx _ B.range _)|((with_reducible show QI _ _ _ _ _ (Ai _));refine' U2 _ _)|((with_reducible show QI _ _ _ _ _ (Co _));refine' Qy _ _)|((with_reducible show QI _ _ _ _ _ (Dc _));refine' U3 _ _)|((with_reducible show QI _ _ _ _ _ (Fd _));refine' Qz _ B.enumerate _)|((with_reducible show QI _ _ _ _ _ (HN _ _));refine' U1 _ B.zip _ _))
  |((with_reducible show QR _ _ _ _ _ _);first|((with_reducible show QR _ _ _ _ _ (Dc _));refine' Tt _ _)|((with_reducible show QR _ _ _ _ _ (Ai _));refine' Mm _ _))
  |exact qgA
  |refine' U4 _ rfl _
  |exact R8 _|refine' OI _ _ _
  |exact U6 _|refine' U5 _ _
  |exact Qv _|refine' Qu _ _
  |exact Qt _|refine' OG _ _ _ _
  |((with_reducible show QSs _ _ _ _ _);first|((with_reducible show QSs _ _ _ _ (AA _ _));refine' OC _ _ _)|(first|exact Qn _|refine' Qm _ _))
  |((with_reducible show QS _ _ _ _ _);first|((with_reducible show QS _ _ _ _ (AM _ (Ah (Ab _ _ _ _ _ _))));first|refine' Wj _ (λ_ _ _=>_) (λ_ _ _=>_) (λ_ _ _=>_)|refine' qsA _)|((with_reducible show QS _ _ _ _ (AM _ (C9 _ _ _ _ _ _ _ _ _)));first|refine' Vj _ (λ_ _ _=>_) (λ_ _ _=>_) (λ_ _ _=>_) (λ_ _ _=>_) (λ_ _ _=>_) (λ_ _ _=>_)|refine' qsA _)|((with_reducible show QS _ _ _ _ (AM _ _));refine' qsA _)|refine' Vi _ _ _ _|refine' Tq _ _|refine' Tr _ rfl _ _ _|refine' Qr _ _|((with_reducible show QS _ _ _ _ (Dm _ _ _));refine' Qs _ (Pk hr) _ _ _)|((with_reducible show QS _ _ _ _ (CZ _ _ _));refine' Qq _ _ _ _)|refine' Ts _ _ _|refine' OD _ _ _|exact Qp _|((with_reducible show QS _ _ _ _ EL);exact OF _)|((with_reducible show QS _ _ _ _ (Cu _ _ _ _));first|refine' Kb _ _ _ _ V3|refine' Kb _ _ _ _ V2))
  |((with_reducible show YXs _ _ _ _ _);first|((with_reducible show YXs _ _ _ _ (AA _ EL));refine' yxs_cons _ yxs_never)|((with_reducible show YXs _ _ _ _ (AA _ _));refine' yxs_cons _ _)|(first|exact yxs_nil|refine' yxs_one _|exact yxs_never))
  |((with_reducible show YX _ _ _ _ _);first|refine' yx_if _ _ _|refine' yx_ret _|refine' yx_for _ _ _)
  |((with_reducible show YXE _ _ _ _ _);first|refine' yxe_tup _|refine' yxe_call _ (by assumption) hr _|refine' yxe_callG (by assumption) hr _|refine' yxe_ife _ _ _)
  | ((with_reducible show YXA _ _ _ _ _);first|refine' yxa_here _)))
open Bd
structure Sp where
 cells:List Int
 a:Int
 rs:Int
 cn:Int
def B6(t:Sp):List (Key×D):=[(.inr "cells",.mu 0),(.inr "at",.im (.int t.a)),(.inr "rest",.im (.int t.rs)),(.inr "count",.im (.int t.cn))]
def sp(t:Sp):Hd:=[.lst (t.cells.map λi=>.im (.int i)),.dic (B6 t)]
@[simp] theorem sp0(t:Sp):(sp t)[0]?=some (.lst (t.cells.map λi=>.im (.int i))):=rfl
@[simp] theorem sp1(t:Sp):(sp t)[1]?=some (.dic (B6 t)):=rfl
@[simp] theorem YF(t t':Sp)(h:t'.cells=t.cells):(sp t).set 1 (.dic (B6 t'))=sp t':=by unfold sp;rw[h];rfl
def Ba:(("cells":Str)="at")=False:=by simp[eq_iff_iff];decide
def BC:(("cells":Str)="rest")=False:=by simp[eq_iff_iff];decide
def Az:(("cells":Str)="count")=False:=by simp[eq_iff_iff];decide
def Bc:(("at":Str)="cells")=False:=by simp[eq_iff_iff];decide
def Bx:(("at":Str)="rest")=False:=by simp[eq_iff_iff];decide
def Bb:(("at":Str)="count")=False:=by simp[eq_iff_iff];decide
def BA:(("rest":Str)="cells")=False:=by simp[eq_iff_iff];decide
def Bw:(("rest":Str)="at")=False:=by simp[eq_iff_iff];decide
def B9:(("rest":Str)="count")=False:=by simp[eq_iff_iff];decide
def Ay:(("count":Str)="cells")=False:=by simp[eq_iff_iff];decide
def BZ:(("count":Str)="at")=False:=by simp[eq_iff_iff];decide
def BB:(("count":Str)="rest")=False:=by simp[eq_iff_iff];decide
section
variable(t:Sp)(v:Int)
@[simp] theorem We:Bt (B6 t) (.inr "cells")=some (.mu 0):=by simp[Bt,B6]
@[simp] theorem YG:Bt (B6 t) (.inr "at")=some (.im (.int t.a)):=by simp[Bt,B6,Ba,BC,Az,Bc,Bx,Bb,BA,Bw,B9,Ay,BZ,BB]
@[simp] theorem X7:Bt (B6 t) (.inr "rest")=some (.im (.int t.rs)):=by simp[Bt,B6,Ba,BC,Az,Bc,Bx,Bb,BA,Bw,B9,Ay,BZ,BB]
@[simp] theorem Wd:Bt (B6 t) (.inr "count")=some (.im (.int t.cn)):=by simp[Bt,B6,Ba,BC,Az,Bc,Bx,Bb,BA,Bw,B9,Ay,BZ,BB]
@[simp] theorem Xc:CV (B6 t) (.inr "at") (.im (.int v))=B6 { t with a:=v }:=by simp[CV,B6,Ba,BC,Az,Bc,Bx,Bb,BA,Bw,B9,Ay,BZ,BB]
@[simp] theorem Wc:CV (B6 t) (.inr "rest") (.im (.int v))=B6 { t with rs:=v }:=by simp[CV,B6,Ba,BC,Az,Bc,Bx,Bb,BA,Bw,B9,Ay,BZ,BB]
@[simp] theorem WW:CV (B6 t) (.inr "count") (.im (.int v))=B6 { t with cn:=v }:=by simp[CV,B6,Ba,BC,Az,Bc,Bx,Bb,BA,Bw,B9,Ay,BZ,BB]
@[simp] theorem Xd:(B6 t).length=4:=rfl
end
def o1:CH 1073741827:=by unfold CH;decide
def o2:CH 2147483543:=by unfold CH;decide
def o3:CH 2147483497:=by unfold CH;decide
def o4:Ik 256:=by unfold Ik;decide
def o5(j:Int):Ef 611953 j:=EJ (by decide) (by decide)
def o6(j:Int):Ef 3 j:=EJ (by decide) (by decide)
def o7(j:Int):Ef 69069 j:=EJ (by decide) (by decide)
def mx1(c n:Int):Int:=c%1073741827+611953*n
def mx2(x n:Int):Int:=(x*x+3*n+7)%2147483543
def mx3(x n:Int):Int:=(x*x+69069*n+1)%2147483497
def Rg(τ:Sp)(many:Int)(h0:0<many)(h1:many<1073741824)(n0:0<=τ.cn)(n1:τ.cn<=100000):∃r τ',Ax [.mu 1,.im (.int many)] (sp τ)=some (.im (.int r),sp τ')/\0<=r/\r<many/\τ'.cn=τ.cn+1:=by
 have hm:CH many:=h0;have hv:Ik many:=⟨h0,h1⟩
 by_cases hl:τ.rs>0
 .refine⟨τ.rs%many,{ τ with cn:=τ.cn+1,rs:=τ.rs/many },?_,(DI many h0).1,(DI many h0).2,rfl⟩;simp[Ax,mkF,hl,hm,hv]
 .have key:∀cell:Int,(if τ.cells=[]then cell=11 else atI (τ.cells.map λi=>D.im (.int i)) (τ.a%(τ.cells.length:Int))=some (.im (.int cell))) ->
   ∃r τ',Ax [.mu 1,.im (.int many)] (sp τ)=some (.im (.int r),sp τ')/\0<=r/\r<many/\τ'.cn=τ.cn+1:=by
   intro cell hcell;have b1:=DI (x:=cell) 1073741827 (by decide);have b2:=DI (x:=mx1 cell (τ.cn+1)*mx1 cell (τ.cn+1)+3*(τ.cn+1)+7) 2147483543 (by decide);have c1:∀j,Ef (mx1 cell (τ.cn+1)) j:=λj=>EJ (by unfold mx1;omega) (by unfold mx1;omega);have c2:∀j,Ef (mx2 (mx1 cell (τ.cn+1)) (τ.cn+1)) j:=λj=>EJ (by unfold mx2;omega) (by unfold mx2;omega);by_cases hb:cell>=1000000000000000000/\τ.a+1<=(τ.cells.length:Int)
   .refine⟨cell%many,{ τ with cn:=τ.cn+1,a:=τ.a+1,rs:=cell/many },?_,(DI many h0).1,(DI many h0).2,rfl⟩;by_cases hc:τ.cells=[]
    .rw[if_pos hc]at hcell;subst hcell;omega
    .rw[if_neg hc]at hcell;have hl0:0<τ.cells.length:=DM hc;have hl0':CH (τ.cells.length:Int):=by unfold CH;omega
     simp[Ax,mkF,hl,hm,hv,o1,o2,o3,o4,o5,o6,o7,po1,BP,pyD,Bh,BX,I.pys,EQ,hc,hcell,hl0',hb.1,hb.2,BD]
   .refine⟨mx3 (mx2 (mx1 cell (τ.cn+1)) (τ.cn+1)) (τ.cn+1)/256%many,{ τ with cn:=τ.cn+1,a:=τ.a+1 },?_,(DI many h0).1,(DI many h0).2,rfl⟩;have hb':1000000000000000000<=cell->¬ τ.a+1<=(τ.cells.length:Int):=λa b=>hb ⟨a,b⟩;unfold mx1 at c1 c2;unfold mx2 at c2;unfold mx3 mx2 mx1;by_cases hc:τ.cells=[]
    .rw[if_pos hc]at hcell;subst hcell;simp only[Int.reduceMod]at c1 c2;simp[Ax,mkF,hl,hm,hv,o1,o2,o3,o4,o5,o6,o7,po1,BP,pyD,Bh,BX,I.pys,EQ,VL,hc,BD,c1,c2]
    .rw[if_neg hc]at hcell;have hl0:0<τ.cells.length:=DM hc;have hl0':CH (τ.cells.length:Int):=by unfold CH;omega
     by_cases hd:1000000000000000000<=cell
     .simp[Ax,mkF,hl,hm,hv,o1,o2,o3,o4,o5,o6,o7,po1,BP,pyD,Bh,BX,I.pys,EQ,hc,hcell,hl0',BD,c1,c2,hd,hb' hd]
     .simp[Ax,mkF,hl,hm,hv,o1,o2,o3,o4,o5,o6,o7,po1,BP,pyD,Bh,BX,I.pys,EQ,hc,hcell,hl0',BD,c1,c2,hd]
  by_cases hc:τ.cells=[]
  .exact key 11 (by rw[if_pos hc])
  .obtain⟨c,e⟩:=WQ hc τ.a;exact key c (by rw[if_neg hc];exact e)
def T(k:Nat)(a b:MO):Prop:=∃τ:Sp,0<=τ.cn/\τ.cn+k<=100000/\sp τ=[a,b]
def tap:Tap T Ax where
 cl:=by
  rintro k a b ⟨τ,_,_,e⟩;cases e;simp[clO,IE,B6,E4,clD]
 le:=by
  rintro j k a b ⟨τ,h1,h2,e⟩ h;exact⟨τ,h1,by omega,e⟩
 pick:=by
  rintro k a b many ⟨τ,n0,n1,e⟩ h0 h1;obtain⟨r,τ',eq,p1,p2,c⟩:=Rg τ many h0 h1 n0 (by push_cast at n1;omega);refine⟨r,.lst (τ'.cells.map λi=>.im (.int i)),.dic (B6 τ'),p1,p2,?_,τ',by omega,by push_cast at n1;omega,rfl⟩;rw[<- e];exact eq
def No(ns:List Int):WF Ex [.ro ns] [] λd x=>d=.mu 1/\∃a b,T 90000 a b/\x=[a,b]:=by
 obtain⟨cs,e⟩:=P2 ns none (some 63);exact⟨.mu 1,_,by simp[Ex,mkF,e,EK,CV,Ba,BC,Az,Bc,Bx,Bb,BA,Bw,B9,Ay,BZ,BB];rfl,rfl,_,_,⟨⟨cs,0,0,0⟩,(show(0:Int)<=0 by decide),(show(0:Int)+(90000:Nat)<=100000 by decide),rfl⟩,rfl⟩
structure EW(w:Int)(ws:List Wk):Prop where
 n1:1<=ws.length
 n8:ws.length<=8
 w0:0<=w/\w<=9
 ea:∀z∈ws,(1<=z.len/\z.len<=20)/\(0<=z.com/\z.com<=60)/\z.cost=.ends w
abbrev wkD(z:Wk):D:=.im (Ac z)
def EA(ws:List Wk):(ws.map Ac).map D.im=ws.map wkD:=by simp
def at3{r:Int}(h0:0<=r)(h1:r<3)(x y z:D):∃d,(d=x∨d=y∨d=z)/\atI [x,y,z] r=some d:=by
 rcases(show r=0∨r=1∨r=2 by omega)with rfl|rfl|rfl
 .exact⟨x,.inl rfl,FU _ _⟩
 .exact⟨y,.inr (.inl rfl),E6 _ _ _⟩
 .exact⟨z,.inr (.inr rfl),K0 _ _ _ _⟩
abbrev Le(m lg lt w:Int)(z7 z8 z9:Option D):Ls:=[some (.mu 1),some (.im (.int 8)),some (.im (.int m)),some (.im (.int lg)),some (.im (.int lt)),some (.im (.int w)),some (.mu 2),z7,z8,z9]
inductive I_e(n k:Nat)(lg lt w:Int)(r:List D)(ls:Ls)(hd:Hd):Prop
 |mk (j:Nat) (ws:List Wk) (a b:MO) (z7 z8 z9:Option D) (h0:r=Ae (j:Int) (k-j)) (h1:j<=k) (h2:ws.length=j) (h3:∀z∈ws,(1<=z.len/\z.len<=20)/\(0<=z.com/\z.com<=60)/\z.cost=.ends w) (h4:ls=Le (k:Int) lg lt w z7 z8 z9) (h5:hd=[a,b,.lst (ws.map wkD)]) (h6:T (n+10*(k-j)) a b):I_e n k lg lt w r ls hd
inductive J_e(n k j:Nat)(lg lt w:Int)(z8:Option D)(ws:List Wk)(f:Fl)(x:Hd):Prop
 |mk (z:Wk) (a b:MO) (h0:f=.nx (Le (k:Int) lg lt w (some (.im (.int (j:Int)))) z8 (some (wkD z)))) (h1:x=[a,b,.lst (ws.map wkD)]) (h2:(1<=z.len/\z.len<=20)/\(0<=z.com/\z.com<=60)/\z.cost=.ends w) (h3:T (n+10*(k-(j+1))) a b):J_e n k j lg lt w z8 ws f x
def KJ(n:Nat):∀a b,T (n+100) a b->WF D3 [.mu 1,.im (.int 8)] [a,b] λd x=>∃i a' b' g,d=.im i/\(∃ws w,i=AN ws/\EW w ws)/\T n a' b'/\x=a'::b'::g:=by
 intro a b hT;unfold D3;refine As rfl ?_;refine AD (AX (A9 (AI ?_)));refine tap.draw hT rfl (by first|decide|omega) (by first|decide|omega) λm a b hT pm qm=>?_;refine E9 (A5 (AD (AX (ML (D6 (A3 (AI (A3 (AI (A3 (AI (A7 ⟨FN,?_⟩))))))))))));refine tap.draw hT rfl (by first|decide|omega) (by first|decide|omega) λr2 a b hT pr2 qr2=>?_;obtain⟨d2,hd2,ed2⟩:=at3 pr2 qr2 (.im (.int 20)) (.im (.int 6)) (.im (.int 2));refine⟨_,_,rfl,ed2,?_⟩;obtain⟨lg,rfl,hlg⟩:∃t,d2=.im (.int t)/\(2<=t/\t<=20):=by
  rcases hd2 with rfl|rfl|rfl<;>exact⟨_,rfl,by omega,by omega⟩
 refine A5 (AD (AX (ML (D6 (A3 (AI (A3 (AI (A3 (AI (A7 ⟨FN,?_⟩)))))))))));refine tap.draw hT rfl (by first|decide|omega) (by first|decide|omega) λr3 a b hT pr3 qr3=>?_;obtain⟨d3,hd3,ed3⟩:=at3 pr3 qr3 (.im (.int 61)) (.im (.int 12)) (.im (.int 1));refine⟨_,_,rfl,ed3,?_⟩;obtain⟨lt,rfl,hlt⟩:∃t,d3=.im (.int t)/\(1<=t/\t<=61):=by
  rcases hd3 with rfl|rfl|rfl<;>exact⟨_,rfl,by omega,by omega⟩
 refine A5 (AD (AX ?_));refine tap.draw hT rfl (by first|decide|omega) (by first|decide|omega) λw a b hT pw qw=>?_;refine A5 (AD (AX (BL (D6 (A7 ⟨Jk,A5 (AD (D4 (Kx (A3 (A1 rfl (A7 ⟨_,rfl,?_⟩))))))⟩)))));refine⟨FV (by omega) (by omega),?_⟩;obtain⟨k,hk⟩:=Int.eq_ofNat_of_zero_le (show 0<=1+m by omega);rw[hk,toNat_natCast];change WP (B4 _ _ _ _ (Le (k:Int) lg lt w none none none) [a,b,.lst []]) _;have hT:T (n+10*(k-0)) a b:=tap.le hT (by omega);refine C8 (I_e n k lg lt w) ⟨0,[],a,b,none,none,none,rfl,by omega,rfl,by simp,rfl,rfl,hT⟩ ?_ ?_
 .rintro d r ls hd ⟨j,ws,a,b,z7,z8,z9,er,hj,hl,hws,rfl,rfl,hT⟩;obtain⟨m',hm⟩:∃m,k-j=m+1:=by
   cases q:k-j with
   |zero=>rw[q]at er;cases er
   |succ m=>exact⟨m,rfl⟩
  rw[hm,Ae]at er;obtain⟨rfl,rfl⟩:=List.cons.inj er;have hT:T (n+10*(k-(j+1))+10) a b:=tap.le hT (by omega);refine⟨Le (k:Int) lg lt w (some (.im (.int (j:Int)))) z8 z9,rfl,?_⟩;refine AD (AX ?_);refine tap.draw hT rfl (by first|decide|omega) (by first|decide|omega) λway a b hT pway qway=>?_;refine A5 (AD (AX (CP (A3 (A9 (AI ?_))))));refine tap.draw hT rfl (by first|decide|omega) (by first|decide|omega) λln a b hT pln qln=>?_;refine E9 (A3 ?_);refine tap.draw hT rfl (by first|decide|omega) (by first|decide|omega) λcm a b hT pcm qcm=>?_;refine A3 (CP (A3 (AI (A3 (A1 rfl (A7 ⟨FO,A7 ⟨FN,A5 ?_⟩⟩))))));change WS _ (Le (k:Int) lg lt w (some (.im (.int (j:Int)))) (some (.im (.int way))) (some (wkD ⟨1+ln,cm,.ends w⟩))) [a,b,.lst (ws.map wkD)] _;refine AD (WP.mono (Q:=J_e n k j lg lt w (some (.im (.int way))) ws) (B1 (Iq (AR (A9 (A1 rfl (AI (F3 ⟨_,rfl,?_⟩))))))) ?_)
  .have no:J_e n k j lg lt w (some (.im (.int way))) ws (.nx (Le (k:Int) lg lt w (some (.im (.int (j:Int)))) (some (.im (.int way))) (some (wkD ⟨1+ln,cm,.ends w⟩)))) [a,b,.lst (ws.map wkD)]:=⟨_,a,b,rfl,rfl,⟨⟨by show 1<=1+ln;omega,by show 1+ln<=20;omega⟩,⟨by show 0<=cm;omega,by show cm<=60;omega⟩,rfl⟩,tap.le hT (by omega)⟩
   by_cases h1:way=0
   .rw[if_pos (by simpa using h1)];refine AR (A9 (A1 rfl (AI (IY ⟨_,rfl,λhc=>?_,λhc=>Ak no⟩))));have hc:0<(j:Int):=by simpa using hc
    refine AX (A9 (A1 rfl ?_));refine tap.draw hT (many:=(j:Int)) (rest:=[.lst (ws.map wkD)]) (by simp) (by omega) (by omega) λr a b hT pr qr=>?_;obtain⟨i,hi⟩:=Int.eq_ofNat_of_zero_le pr;have hi':i<ws.length:=by omega
    exact AT (ds:=ws.map wkD) (e:=wkD ws[i]) rfl (FT hi (by simp[hi'])) ⟨ws[i],a,b,rfl,rfl,hws _ (List.getElem_mem hi'),tap.le hT (by omega)⟩
   .rw[if_neg (by simpa using h1)];exact⟨(λh=>by cases h),λ_=>Ak no⟩
  rintro f x ⟨z,a,b,rfl,rfl,okz,hT⟩;refine A5 (E8 (PB (A1 rfl ⟨⟨_,rfl⟩,A3 (A1 rfl (A7 (Is rfl (Ep (by simp;omega)) ?_)))⟩)));exact⟨AJ _,j+1,ws++[z],a,b,_,_,_,by rw[show((j:Int)+1)=((j+1:Nat):Int) by omega,show m'=k-(j+1) by omega],by omega,by simp[hl],λy hy=>by rcases mem_append.mp hy with q|q;exact hws y q;rw[mem_singleton]at q;subst q;exact okz,rfl,by simp,hT⟩
 .rintro ls hd ⟨j,ws,a,b,z7,z8,z9,er,hj,hl,hws,rfl,rfl,hT⟩;have:j=k:=by
   cases q:k-j with
   |zero=>omega
   |succ m=>rw[q]at er;cases er
  subst this;refine A5 (Ad (Bp (A3 (A1 rfl (A7 (Bz (ds:=ws.map wkD) (z:=.im (AN ws)) rfl ?_ ?_))))))
  .show some (AV (ws.map wkD))=_;rw[<- EA,DZ]
  .exact⟨_,a,b,_,rfl,⟨ws,w,rfl,⟨by omega,by omega,by omega,hws⟩⟩,tap.le hT (by omega),rfl⟩
def Iv{z:Wk}{w:Int}(h:z.cost=.ends w):WF CD [wkD z] [] λd x=>d=.im (.int w):=by
 unfold CD;refine As rfl ?_;unfold wkD Ac;rw[h];refine Ad (A9 (A9 (A1 rfl (AI (AT rfl (K0 _ _ _ _) ?_)))));refine Iw (AI ⟨_,rfl,?_⟩);refine AT (ds:=[.im (.str "ends"),.im (.int w)]) (e:=.im (.int w)) rfl ?_ rfl;rfl
def Ny{w:Int}{ws:List Wk}(W:EW w ws):WF B5 [.im (AN ws),.im (.str "ends")] [] λd x=>d=.im .non:=by
 have n8:=W.n8;unfold B5;refine As rfl ?_;refine B1 (B0 (DQ (Al (Bs (A1 rfl ⟨_,rfl,?_⟩)))));rw[EA];refine⟨AS (by simp;omega),?_⟩;refine B2 wkD (λ_=>some (.im (.bl false))) (λ_ ls=>∃x,ls=[some x,some (.im (.str "ends"))]) _ (AJ _) ?_ ?_
 .rintro z hz ls hls;refine⟨[some (wkD z),some (.im (.str "ends"))],by rcases hls with rfl|⟨_,x,rfl⟩<;>rfl,⟨_,rfl⟩,BS ⟨rfl,?_⟩⟩;rw[if_pos rfl];unfold wkD Ac;rw[(W.ea z hz).2.2];refine⟨_,rfl,A9 (A9 (A9 (A1 rfl (AI (AT rfl (K0 _ _ _ _) (AI (AT (ds:=[.im (.str "ends"),.im (.int w)]) rfl (FU _ _) (A1 rfl (Sc ⟨rfl,?_⟩)))))))))⟩;simp
 have e:(ws.filterMap λ_=>some (D.im (.bl false)))=blD (ws.map λ_=>false):=by simp[blD]
 rw[e];refine⟨_,by rw[GG,blsD_map];rfl,_,rfl,?_⟩;exact⟨(λh=>by simp at h),λ_=>Ak rfl⟩
def Vv{w:Int}{ws:List Wk}(W:EW w ws):WF Ch [.im (AN ws)] [] λd x=>d=.im (.int w):=by
 have n8:=W.n8;have n1:=W.n1;unfold Ch;refine As rfl ?_;have e0:atI ((ws.map Ac).map D.im) 0=some (wkD ws[0]):=FT (k:=0) rfl (by rw[List.getElem?_map,List.getElem?_map,List.getElem?_eq_getElem n1];rfl);refine AD (AX (AW (A3 (A9 (A1 rfl (AI (AT rfl e0 (A7 ⟨by simp,(Iv (W.ea _ (List.getElem_mem n1)).2.2).mono ?_⟩))))))));rintro d x rfl;refine⟨_,rfl,A5 ?_⟩;refine AD (B1 (B0 (DQ (Al (Bs (A1 rfl ⟨_,rfl,?_⟩))))));rw[EA];refine⟨AS (by simp;omega),?_⟩;refine B2 wkD (λ_=>some (.im (.bl false))) (λ_ ls=>∃x,ls=[some x,some (.im (.int w))]) _ (AJ _) ?_ ?_
 .rintro z hz ls hls;refine⟨[some (wkD z),some (.im (.int w))],by rcases hls with rfl|⟨_,x,rfl⟩<;>rfl,⟨_,rfl⟩,BS ⟨rfl,?_⟩⟩;rw[if_pos rfl];refine⟨_,rfl,A9 (AW (A3 (A1 rfl (A7 ⟨by simp,(Iv (W.ea z hz).2.2).mono ?_⟩))))⟩;rintro d x rfl;refine⟨_,rfl,A1 rfl (MK ⟨rfl,?_⟩)⟩;simp
 have e:(ws.filterMap λ_=>some (D.im (.bl false)))=blD (ws.map λ_=>false):=by simp[blD]
 rw[e];refine⟨_,by rw[GG,blsD_map];rfl,_,rfl,?_⟩;exact⟨(λh=>by simp at h),λ_=>Ak (A5 (Ad (A1 rfl rfl)))⟩
def Jm{w:Int}{ws:List Wk}(W:EW w ws):WF Ci [.im (AN ws)] [] λd x=>d=.im (.int w):=by
 unfold Ci;refine As rfl ?_;refine AD (E8 (AW (A3 (A1 rfl (A3 (AI (A7 ⟨by simp,(Ny W).mono ?_⟩)))))));rintro d x rfl;refine⟨_,rfl,A5 ?_⟩;refine Ad (AW (A3 (A1 rfl (A7 ⟨by simp,(Vv W).mono ?_⟩))));rintro d x rfl;exact⟨_,rfl,rfl⟩
abbrev Pc:=Pl.Pc
abbrev pcD(P:List Pc):List D:=P.map λp=>.im (AC p)
def Di(P:List Pc)(k:Nat)(b e:Int):List Pc:=match P.getLast? with
 |some p=>if p.1=k/\p.2.2=b then P.dropLast++[(k,p.2.1,e)]else P++[(k,b,e)]
 |none=>P++[(k,b,e)]
def Mw(P:List Pc):P=[]∨∃P' p,P=P'++[p]:=by
 rcases List.eq_nil_or_concat P with h|⟨P',p,h⟩
 .exact .inl h
 .exact .inr ⟨P',p,by rw[h,List.concat_eq_append]⟩
def IP(P:List Pc)(p:Pc)(k:Nat)(b e:Int):Di (P++[p]) k b e=if p.1=k/\p.2.2=b then P++[(k,p.2.1,e)]else P++[p]++[(k,b,e)]:=by
 unfold Di;rw[List.getLast?_concat,List.dropLast_concat]
def KN{i:Nat}{P:List Pc}{hd:Hd}(eh:hd[i]?=some (.lst (pcD P)))(hl:P.length<=100)(k:Nat)(b e:Int):WF CF [.mu i,.im (.int (k:Int)),.im (.int b),.im (.int e)] hd λd x=>d=.im .non/\x=hd.set i (.lst (pcD (Di P k b e))):=by
 have tr:C5 hd (.mu i)=some (!(pcD P).isEmpty):=by simp only[C5,eh]
 have sv:Am hd (.mu i)=some (pcD P):=by simp[Am,AZ,Aa,eh]
 unfold CF;refine As rfl ?_;refine B1 (Iq (B0 (A1 rfl ⟨_,tr,?_⟩)));have app:∀{Q:Fl->Hd->Prop},Q (.nx [some (.mu i),some (.im (.int (k:Int))),some (.im (.int b)),some (.im (.int e))]) (hd.set i (.lst (pcD (P++[(k,b,e)]))))->WS (Cb (mMt BV (A0 0) (A2 (Bv (A2 (A0 1) (A2 (A0 2) (A2 (A0 3) A8)))) A8))) [some (.mu i),some (.im (.int (k:Int))),some (.im (.int b)),some (.im (.int e))] hd Q:=λ{Q} q=>by
  refine E8 (PB (A1 rfl ⟨⟨_,by rw[W8,eh]⟩,A3 (CP (A3 (A1 rfl (A3 (A1 rfl (A3 (A1 rfl (A7 ⟨FN,A7 ?_⟩))))))))⟩));refine Is eh (Ep (by simp;omega)) ?_;rw[show pcD (P++[(k,b,e)])=pcD P++[AV [.im (.int (k:Int)),.im (.int b),.im (.int e)]] by show(P++[_]).map _=_;rw[map_append];rfl]at q;exact q
 rcases Mw P with rfl|⟨P',p,rfl⟩
 .rw[if_neg (by simp)];exact⟨(λh=>by cases h),λ_=>app ⟨rfl,rfl⟩⟩
 .rw[if_pos (by simp)];rw[IP];have la:atI (pcD (P'++[p])) (-1)=some (.im (AC p)):=by show atI ((P'++[p]).map _) (-1)=_;rw[map_append];exact P7 _ _
  have gl:∀{j:Int} {v:D} {QE:D->Hd->Prop},atI [D.im (.int (p.1:Int)),.im (.int p.2.1),.im (.int p.2.2)] j=some v->QE v hd->WE (mOp gIx (mOp gIx (A0 0) (Dr (mC (.int 1)))) (mC (.int j))) [some (.mu i),some (.im (.int (k:Int))),some (.im (.int b)),some (.im (.int e))] hd QE:=λ{j v QE} ea q=>
   A9 (A9 (A1 rfl (Iw (AI ⟨_,rfl,AT (ds:=pcD (P'++[p])) sv la (AI (AT (ds:=[D.im (.int (p.1:Int)),.im (.int p.2.1),.im (.int p.2.2)]) rfl ea q))⟩))))
  refine Iq (AR (A9 (gl (FU _ _) (A1 rfl (F3 ⟨_,rfl,?_⟩)))));by_cases h1:p.1=k
  .rw[if_pos (by simp[h1])];refine AR (A9 (gl (K0 _ _ _ _) (A1 rfl (F3 ⟨_,rfl,λh2=>?_,λh2=>?_⟩))))
   .have h2:p.2.2=b:=by simpa using h2
    rw[if_pos ⟨h1,h2⟩];refine Gy (CP (A3 (A1 rfl (A3 (gl (E6 _ _ _) (A3 (A1 rfl (A7 ⟨FN,A1 rfl (Iw (AI ⟨_,rfl,?_⟩))⟩))))))));refine⟨i,-1,P'.length,pcD (P'++[p]),rfl,rfl,eh,?_,?_⟩
    .unfold ixN;rw[if_neg (by decide),if_pos (by simp;omega)]
     congr 1
     simp;omega
    .refine⟨rfl,?_⟩;show hd.set i (.lst (((P'++[p]).map _).set P'.length _))=hd.set i (.lst ((P'++[_]).map _));rw[map_append,map_append];simp[AV,Aj,AC]
   .have h2:¬ p.2.2=b:=by simpa using h2
    rw[if_neg (λh=>h2 h.2)];exact app ⟨rfl,rfl⟩
  .rw[if_neg (by simp;omega),if_neg (λh=>h1 h.1)];exact⟨(λh=>by cases h),λ_=>app ⟨rfl,rfl⟩⟩
open PySem L2 Bd Sr
theorem Do(p:Pc)(j:Nat):∀(P:List Pc) (v:Int),Pl.last (P++[p]) j v=if p.1=j then p.2.2 else Pl.last P j v
 |[],v=>by simp[Pl.last]
 |q::r,v=>by rw[cons_append,Pl.last,Do p j r,Pl.last]
theorem dn_snoc(q:Pc)(j:Nat):∀P:List Pc,Pl.dn (P++[q]) j=Pl.dn P j+(if q.1=j then q.2.2-q.2.1 else 0)
 |[]=>by simp[Pl.dn]
 |p::r=>by rw[cons_append,Pl.dn,Pl.dn,dn_snoc q j r];omega
structure Pcs(n:Nat)(cm:Nat->Nat)(P:List Pc)(t:Nat):Prop where
 pc:∀p∈P,p.1<n/\(cm p.1:Int)<=p.2.1/\p.2.1<p.2.2/\p.2.2<=(t:Int)
 pw:P.Pairwise λp q=>p.2.2<=q.2.1
def Pcs.add{n:Nat}{cm:Nat->Nat}{P:List Pc}{t b e k:Nat}(h:Pcs n cm P t)(hk:k<n)(hc:cm k<=b)(tb:t<=b)(be:b<e):Pcs n cm (Di P k (b:Int) (e:Int)) e/\(Di P k b e).length<=P.length+1/\(∀j,Pl.dn (Di P k b e) j=Pl.dn P j+if k=j then(e:Int)-b else 0)/\∀j,Pl.E (Di P k b e) j=if k=j then(e:Int)else Pl.E P j:=by
 have plain:Pcs n cm (P++[(k,(b:Int),(e:Int))]) e/\(P++[(k,(b:Int),(e:Int))]).length<=P.length+1/\(∀j,Pl.dn (P++[(k,(b:Int),(e:Int))]) j=Pl.dn P j+if k=j then(e:Int)-b else 0)/\∀j,Pl.E (P++[(k,(b:Int),(e:Int))]) j=if k=j then(e:Int)else Pl.E P j:=by
  refine⟨⟨λp hp=>?_,?_⟩,by simp,λj=>dn_snoc _ _ _,λj=>Do _ _ _ _⟩
  .rcases mem_append.mp hp with q|q
   .have:=h.pc p q;exact⟨this.1,this.2.1,this.2.2.1,by omega⟩
   .rw[mem_singleton]at q;subst q;exact⟨hk,by show(cm k:Int)<=(b:Int);omega,by show(b:Int)<(e:Int);omega,by show(e:Int)<=(e:Int);omega⟩
  .rw[List.pairwise_append];refine⟨h.pw,List.pairwise_singleton _ _,λp hp q hq=>?_⟩;rw[mem_singleton]at hq;subst hq;have:=(h.pc p hp).2.2.2;show p.2.2<=(b:Int);omega
 rcases Mw P with rfl|⟨P',p,rfl⟩
 .exact plain
 .rw[IP];by_cases c:p.1=k/\p.2.2=(b:Int)
  .rw[if_pos c];obtain⟨c1,c2⟩:=c;have hp:=h.pc p (by simp);refine⟨⟨λx hx=>?_,?_⟩,by simp,λj=>?_,λj=>?_⟩
   .rcases mem_append.mp hx with q|q
    .have:=h.pc x (by simp[q]);exact⟨this.1,this.2.1,this.2.2.1,by omega⟩
    .rw[mem_singleton]at q;subst q;rw[c1]at hp;exact⟨hk,hp.2.1,by show p.2.1<(e:Int);omega,by show(e:Int)<=(e:Int);omega⟩
   .have pw:=h.pw;rw[List.pairwise_append]at pw ⊢;refine⟨pw.1,List.pairwise_singleton _ _,λx hx q hq=>?_⟩;rw[mem_singleton]at hq;subst hq;exact pw.2.2 x hx p (by simp)
   .rw[dn_snoc,dn_snoc,c1];show Pl.dn P' j+(if k=j then(e:Int)-p.2.1 else 0)=_;split<;>omega
   .show Pl.last _ j 0=if k=j then(e:Int)else Pl.last _ j 0;rw[Do,Do,c1];show(if k=j then(e:Int)else _)=_;split<;>rfl
  .rw[if_neg c];exact plain
def Jr{p q:Nat->Bool}:∀{L:List Nat},(∀i∈L,p i=true->q i=true)->L.countP p<=L.countP q:=λh=>List.countP_mono_left h
theorem Jq{p q:Nat->Bool}:∀{L:List Nat},(∀i∈L,p i=true->q i=true)->(∃i∈L,q i=true/\p i=false)->L.countP p<L.countP q
 |[],_,h=>by obtain⟨_,h,_⟩:=h;cases h
 |x::r,h,⟨i,hi,h1,h2⟩=>by
  rw[List.countP_cons,List.countP_cons];rcases mem_cons.mp hi with rfl|hi
  .have:=Jr (p:=p) (q:=q) (L:=r) λj hj=>h j (by simp[hj]);rw[h1,h2];simp;omega
  .have ih:=Jq (p:=p) (q:=q) (L:=r) (λj hj=>h j (by simp[hj])) ⟨i,hi,h1,h2⟩;have hx:=h x (by simp);by_cases px:p x=true
   .rw[px,hx px];simp;omega
   .have px:p x=false:=by simpa using px
    rw[px];simp;split<;>omega
def mu(n:Nat)(cm lf:Nat->Nat)(t:Nat):Nat:=(List.range n).countP (λj=>decide (0<lf j))+(List.range n).countP (λj=>decide (0<lf j/\t<cm j))
structure St(n:Nat)(ln cm:Nat->Nat)(lf:Nat->Nat)(P:List Pc)(t:Nat)(G:Nat->Nat->Nat):Prop where
 H:Hist n ln cm G t
 gl:∀j,G t j=lf j
 ps:Pcs n cm P t
 dn:∀j,j<n->Pl.dn P j+(lf j:Int)=(ln j:Int)
 en:∀j,j<n->lf j=0->∀τ,τ<=t->(G τ j=0↔Pl.E P j<=(τ:Int))
structure Tn(n:Nat)(cm lf:Nat->Nat)(t t' k s:Nat):Prop where
 tt:t<=t'
 idle:t<t'->∀j,j<n->0<lf j->t'<=cm j
 kn:k<n
 k0:0<lf k
 kc:cm k<=t'
 km:∀j,j<n->0<lf j->cm j<=t'->lf k<=lf j
 s0:t'<s
 s1:s<=t'+lf k
 s2:∀j,j<n->0<lf j->t'<cm j->s<=cm j
 s3:s=t'+lf k∨∃j,j<n/\0<lf j/\t'<cm j/\s=cm j
theorem VP{n:Nat}{ln cm:Nat->Nat}{G:Nat->Nat->Nat}{t:Nat}(H:Hist n ln cm G t)(j:Nat):∀d τ,τ+d<=t->G (τ+d) j<=G τ j
 |0,τ,_=>le_refl _
 |d+1,τ,h=>by
  have ih:=VP H j d τ (by omega);rcases H.st (τ+d) (by omega)with⟨_,e⟩|⟨k,_,_,_,_,e⟩
  .have:=e j;rw[show τ+(d+1)=τ+d+1 by omega];omega
  .have:=e j;rw[show τ+(d+1)=τ+d+1 by omega,this];split<;>omega
def St.turn{n:Nat}{ln cm lf:Nat->Nat}{P:List Pc}{t:Nat}{G:Nat->Nat->Nat}(S:St n ln cm lf P t G){t' k s:Nat}(X:Tn n cm lf t t' k s):
 (∃G',St n ln cm (λj=>if j=k then lf j-(s-t')else lf j) (Di P k (t':Int) (s:Int)) s G')/\(Di P k (t':Int) (s:Int)).length<=P.length+1/\mu n cm (λj=>if j=k then lf j-(s-t')else lf j) s<mu n cm lf t:=by
 obtain⟨p1,p2,p3,p4⟩:=S.ps.add X.kn X.kc X.tt X.s0;have tt:=X.tt;have s0:=X.s0;have s1:=X.s1;have k0:=X.k0;refine⟨⟨λτ j=>if τ<=t then G τ j else if j=k then lf j-(τ-t')else lf j,?_⟩,p2,?_⟩
 .have gt:∀τ,t<=τ->∀j,(if τ<=t then G τ j else if j=k then lf j-(τ-t')else lf j)=if j=k then lf j-(τ-t')else lf j:=λτ h j=>by
   by_cases q:τ<=t
   .have:τ=t:=by omega
    subst this;rw[if_pos q,S.gl];split
    .omega
    .rfl
   .rw[if_neg q]
  have Hn:Hist n ln cm (λτ j=>if τ<=t then G τ j else if j=k then lf j-(τ-t')else lf j) s:=by
   refine⟨λj=>(if_pos (zero_le _)).trans (S.H.g0 j),λτ hτ=>?_⟩
   try dsimp only
   by_cases a1:τ<t
   .have e1:∀j,(if τ<=t then G τ j else if j=k then lf j-(τ-t')else lf j)=G τ j:=λj=>if_pos (by omega);have e2:∀j,(if τ+1<=t then G (τ+1) j else if j=k then lf j-(τ+1-t')else lf j)=G (τ+1) j:=λj=>if_pos (by omega);simp only[e1,e2];exact S.H.st τ a1
   .simp only[gt τ (by omega),gt (τ+1) (by omega)];by_cases a2:τ<t'
    .refine .inl ⟨λj hj hc=>?_,λj=>by split<;>omega⟩;have z:lf j=0:=by
      refine Classical.byContradiction λh0=>?_;have:=X.idle (by omega) j hj (by omega);omega
     split<;>omega
    .refine .inr ⟨k,X.kn,by have:=X.kc;omega,by rw[if_pos rfl];omega,λj hj hc h0=>?_,λj=>?_⟩
     .rw[if_pos rfl];by_cases q:j=k
      .subst q;rw[if_pos rfl];exact le_refl _
      .rw[if_neg q]at h0 ⊢;have:cm j<=t':=by
        refine Classical.byContradiction λh1=>?_;have:=X.s2 j hj h0 (by omega);omega
       have:=X.km j hj h0 this;omega
     .by_cases q:j=k
      .rw[if_pos q,if_pos q,if_pos q];omega
      .rw[if_neg q,if_neg q,if_neg q]
  refine⟨Hn,λj=>?_,p1,λj hj=>?_,λj hj h0 τ hτ=>?_⟩
  .rw[gt s (by omega)]
  .have h1:=S.dn j hj;have h2:=p3 j;by_cases q:j=k
   .subst q;rw[if_pos rfl]at h2 ⊢;omega
   .rw[if_neg (λe=>q e.symm)]at h2;rw[if_neg q];omega
  .have h2:=p4 j
   try dsimp only
   by_cases q:j=k
   .subst q;rw[if_pos rfl]at h0 h2;rw[h2];by_cases a1:τ<=t
    .rw[if_pos a1];have:=VP S.H j (t-τ) τ (by omega);rw[show τ+(t-τ)=t by omega,S.gl]at this;constructor
     .intro z;omega
     .intro z;omega
    .rw[if_neg a1,if_pos rfl];constructor
     .intro z;omega
     .intro z;omega
   .rw[if_neg q]at h0;rw[if_neg (λe=>q e.symm)]at h2;rw[h2];by_cases a1:τ<=t
    .rw[if_pos a1];exact S.en j hj h0 τ a1
    .rw[if_neg a1,if_neg q];have:=(S.en j hj h0 t (le_refl _)).mp (by rw[S.gl];exact h0);constructor
     .intro _;omega
     .intro _;exact h0
 .unfold mu;dsimp only;have le1:(List.range n).countP (λj=>decide (0<if j=k then lf j-(s-t')else lf j))<=(List.range n).countP (λj=>decide (0<lf j)):=Jr λi hi h=>by
   simp only[decide_eq_true_eq]at h ⊢;split at h<;>omega
  have le2:(List.range n).countP (λj=>decide ((0<if j=k then lf j-(s-t')else lf j)/\s<cm j))<=(List.range n).countP (λj=>decide (0<lf j/\t<cm j)):=Jr λi hi h=>by
   simp only[decide_eq_true_eq]at h ⊢;refine⟨?_,by omega⟩;have:=h.1;split at this<;>omega
  rcases X.s3 with e|⟨j,jn,j0,jc,e⟩
  .have:(List.range n).countP (λj=>decide (0<if j=k then lf j-(s-t')else lf j))<(List.range n).countP (λj=>decide (0<lf j)):=by
    refine Jq (λi hi h=>?_) ⟨k,by simpa using X.kn,by simpa using k0,?_⟩
    .simp only[decide_eq_true_eq]at h ⊢;split at h<;>omega
    .simp only[decide_eq_false_iff_not,if_true];omega
   omega
  .have:(List.range n).countP (λj=>decide ((0<if j=k then lf j-(s-t')else lf j)/\s<cm j))<(List.range n).countP (λj=>decide (0<lf j/\t<cm j)):=by
    refine Jq (λi hi h=>?_) ⟨j,by simpa using jn,by simp only[decide_eq_true_eq];omega,?_⟩
    .simp only[decide_eq_true_eq]at h ⊢;refine⟨?_,by omega⟩;have:=h.1;split at this<;>omega
    .simp only[decide_eq_false_iff_not];omega
   omega
def St.start(n:Nat)(ln cm:Nat->Nat)(h:∀j,j<n->1<=ln j):St n ln cm ln [] 0 λ_ j=>ln j:=by
 refine⟨⟨λj=>rfl,λτ h=>by omega⟩,λj=>rfl,⟨by simp,List.Pairwise.nil⟩,λj hj=>by simp[Pl.dn],λj hj h0=>by have:=h j hj;omega⟩
open Sr
def S4{ns:List Int}(hne:ns≠[]):∃m,Dv (AK ns)=some (.im (.int m))/\m∈ns/\∀x∈ns,m<=x:=by
 have e:Af (AK ns)=some ns:=by
  clear hne
  induction ns with
  |nil=>rfl
  |cons n r ih=>simp[AK]at ih ⊢
 obtain⟨m1,m2⟩:=FG hne;exact⟨Eg ns,by unfold Dv;rw[e];simp[hne],m1,m2⟩
def ws_laug{mo mi me:ME}{f:Int->Int->Int}{ls:Ls}{hd:Hd}{QS:Fl->Hd->Prop}(h:WE mo ls hd λd x=>WE mi ls x λi y=>∃n k ds j v,d=.mu n/\i=.im (.int k)/\y[n]?=some (.lst ds)/\ixN ds.length k=some j/\ds[j]?=some (.im (.int v))/\WE me ls y λr z=>∃u ds',r=.im (.int u)/\z[n]?=some (.lst ds')/\ds'.length=ds.length/\QS (.nx ls) (z.set n (.lst (ds'.set j (.im (.int (f v u))))))):WS (Cu mo mi me f) ls hd QS:=by
 obtain⟨d,x,e1,i,y,e2,n,k,ds,j,v,rfl,rfl,e3,e4,e5,r,z,e6,u,ds',rfl,e7,e8,q⟩:=h;refine⟨_,_,?_,q⟩;unfold Cu;simp only[e1,bind_some,e2,e3,e4,e5,e6,e7,e8,if_true]
def MQ{ma mb:ME}{ls:Ls}{hd:Hd}{QA:List D->Hd->Prop}(h:WE ma ls hd λd x=>WE mb ls x λe y=>∃i j xs ys,d=.mu i/\e=.mu j/\y[i]?=some (.lst xs)/\y[j]?=some (.lst ys)/\BO (xs.length+ys.length)/\QA (xs++ys) y):WA (FK ma mb) ls hd QA:=by
 obtain⟨d,x,e1,e,y,e2,i,j,xs,ys,rfl,rfl,e3,e4,c,q⟩:=h;exact⟨_,_,by simp[FK,e1,e2,e3,e4,c],q⟩
def lnN(ws:List Wk)(k:Nat):Nat:=(((ws[k]?).map Wk.len).getD 0).toNat
def cmN(ws:List Wk)(k:Nat):Nat:=(((ws[k]?).map Wk.com).getD 0).toNat
def EM{w:Int}{ws:List Wk}(W:EW w ws){k:Nat}(hk:k<ws.length):(ws[k].len)=(lnN ws k:Int)/\1<=lnN ws k/\lnN ws k<=20:=by
 have:=(W.ea _ (List.getElem_mem hk)).1;simp only[lnN,List.getElem?_eq_getElem hk,map_some,getD_some];omega
def ER{w:Int}{ws:List Wk}(W:EW w ws){k:Nat}(hk:k<ws.length):(ws[k].com)=(cmN ws k:Int)/\cmN ws k<=60:=by
 have:=(W.ea _ (List.getElem_mem hk)).2.1;simp only[cmN,List.getElem?_eq_getElem hk,map_some,getD_some];omega
abbrev BH(n:Nat)(f:Nat->Nat):List D:=(List.range n).map λk=>D.im (.int (f k:Int))
def DW{n:Nat}{f:Nat->Nat}{k:Nat}(hk:k<n):atI (BH n f) (k:Int)=some (.im (.int (f k:Int))):=FT rfl (by simp[hk])
def QH{n:Nat}{f:Nat->Nat}{k v:Nat}(hk:k<n):(BH n f).set k (.im (.int (v:Int)))=BH n λj=>if j=k then v else f j:=by
 refine ext_getElem? λi=>?_;by_cases hi:i<n
 .rw[List.getElem?_set];by_cases q:k=i
  .subst q;simp[hi]
  .rw[if_neg q];have q':¬ i=k:=λz=>q z.symm;simp[hi,q']
 .rw[List.getElem?_eq_none (by simp;omega),List.getElem?_eq_none (by simp;omega)]
def Ha(p:Nat->Prop)[DecidablePred p](g:Nat->Nat)(L:List Nat):(L.filterMap λk=>if p k then some (D.im (.int (g k:Int)))else none)=((L.filter λk=>decide (p k)).map g).map λk:Nat=>D.im (.int (k:Int)):=by
 induction L with
 |nil=>rfl
 |cons x r ih=>
  rw[filterMap_cons,filter_cons];by_cases h:p x
  .rw[if_pos h,decide_eq_true h,if_pos rfl,ih];rfl
  .rw[if_neg h,decide_eq_false h,if_neg (by simp),ih]
def Od(L:List Nat):(L.map λk:Nat=>D.im (.int (k:Int)))=AK (L.map λk:Nat=>(k:Int)):=by simp[AK]
def Kg{L:List Nat}(h:L≠[]):∃m:Nat,Dv (L.map λk:Nat=>D.im (.int (k:Int)))=some (.im (.int (m:Int)))/\m∈L/\∀x∈L,m<=x:=by
 obtain⟨m,e,h1,h2⟩:=S4 (ns:=L.map λk:Nat=>(k:Int)) (by simpa using h);rw[<- Od]at e;obtain⟨k,hk,rfl⟩:=mem_map.mp h1;exact⟨k,e,hk,λx hx=>by have:=h2 (x:Int) (mem_map.mpr ⟨x,hx,rfl⟩);omega⟩
abbrev Lr(ws:List Wk)(t:Nat)(z6 z7 z8:Option D):Ls:=[some (.im (AN ws)),some (.mu 0),some (.fv 0 []),some (.mu 1),some (.mu 2),some (.im (.int (t:Int))),z6,z7,z8]
abbrev Hr(ws:List Wk)(lf:Nat->Nat)(P:List Pc)(g:Hd):Hd:=.lst (BH ws.length (cmN ws))::.lst (BH ws.length lf)::.lst (pcD P)::g
inductive I_r(ws:List Wk)(m:Nat)(ls:Ls)(hd:Hd):Prop
 |mk (lf:Nat->Nat) (P:List Pc) (t:Nat) (G:Nat->Nat->Nat) (g:Hd) (z6 z7 z8:Option D) (em:m=mu ws.length (cmN ws) lf t) (el:ls=Lr ws t z6 z7 z8) (eh:hd=Hr ws lf P g) (S:St ws.length (lnN ws) (cmN ws) lf P t G) (pl:P.length+m<=16):I_r ws m ls hd
def WB{ws:List Wk}{lf:Nat->Nat}{P:List Pc}{g:Hd}{k:Nat}(hk:k<ws.length):(Bv (A2 (Cc (A0 1) (A2 (A0 0) (A2 (mOp gIx (A0 2) (A0 0)) A8))) (A2 (A0 0) A8))) [some (.im (.int (k:Int))),some (.fv 0 []),some (.mu 1)] (Hr ws lf P g)=some (.im (.tup [.int (lf k:Int),.int (k:Int)]),Hr ws lf P g):=by
 have w:WE (Bv (A2 (Cc (A0 1) (A2 (A0 0) (A2 (mOp gIx (A0 2) (A0 0)) A8))) (A2 (A0 0) A8))) [some (.im (.int (k:Int))),some (.fv 0 []),some (.mu 1)] (Hr ws lf P g) λd x=>d=.im (.tup [.int (lf k:Int),.int (k:Int)])/\x=Hr ws lf P g:=by
  refine CP (A3 (NT (A1 rfl ⟨rfl,A3 (A1 rfl (A3 (A9 (A1 rfl (A1 rfl (AT (ds:=BH ws.length lf) rfl (DW hk) (A7 ⟨_,_,rfl,A3 (A1 rfl (A7 ⟨FO,rfl,rfl⟩))⟩)))))))⟩)))
 obtain⟨d,x,e,rfl,rfl⟩:=w;exact e
def hnG{a b c:MO}{g:Hd}{x:MO}:(a::b::c::(g++[x]))[(a::b::c::g).length]?=some x:=by simp
def lvG{a b c:MO}{g:Hd}{ds:List D}:Aa (a::b::c::(g++[.lst ds])) (.mu (a::b::c::g).length)=some ds:=by simp[Aa]
abbrev B7(L:List Nat):List D:=L.map λk:Nat=>D.im (.int (k:Int))
def kfL(lf:Nat->Nat):D->Int×Int
 |.im (.int k)=>((lf k.toNat:Int),k)
 |_=>(0,0)
abbrev W1:MS:=(AA (AM 6 (Ah (Ab 1 [3] (Ds (A2 (mCB (f1 true BD) (A2 (A0 0) A8)) A8)) (AB 0) (AH (mOp gGt (mOp gIx (A0 1) (A0 0)) (mC (.int 0)))) (A0 0))))
 (AA (AM 5 (mCB Es (A2 (A0 5) (A2 (Bn Dv (Ab 1 [1] (Co (A0 6)) (AB 0) BI (mOp gIx (A0 1) (A0 0)))) A8))))
 (AA (AM 7 (Dd (Ah (Ab 1 [1,5] (Co (A0 6)) (AB 0) (AH (mOp gLe (mOp gIx (A0 1) (A0 0)) (A0 2))) (A0 0))) [2,3] (Bv (A2 (Cc (A0 1) (A2 (A0 0) (A2 (mOp gIx (A0 2) (A0 0)) A8))) (A2 (A0 0) A8)))))
 (AA (AM 8 (Bn Dv (FK (Ah (CY (A2 (mOp BR (A0 5) (mOp gIx (A0 3) (A0 7))) A8))) (Ah (Ab 1 [1,5] (Co (A0 6)) (AB 0) (AH (mOp gGt (mOp gIx (A0 1) (A0 0)) (A0 2))) (mOp gIx (A0 1) (A0 0)))))))
 (AA (Cb (CA CF (A2 (A0 4) (A2 (A0 7) (A2 (A0 5) (A2 (A0 8) A8))))))
 (AA (Cu (A0 3) (A0 7) (mOp Cd (A0 8) (A0 5)) (λi j=>i-j))
 (AM 5 (A0 8))))))))
set_option maxHeartbeats 2000000 in
def Sk{w:Int}{ws:List Wk}(W:EW w ws){lf:Nat->Nat}{P:List Pc}{t:Nat}{G:Nat->Nat->Nat}{g:Hd}{z6 z7 z8:Option D}(S:St ws.length (lnN ws) (cmN ws) lf P t G)(pl:P.length<=16)(some1:∃j,j<ws.length/\0<lf j){Q:Fl->Hd->Prop}
 (hQ:∀t' k s g z6 z7 z8,Tn ws.length (cmN ws) lf t t' k s->Q (.nx (Lr ws s z6 z7 z8)) (Hr ws (λj=>if j=k then lf j-(s-t')else lf j) (Di P k (t':Int) (s:Int)) g)):WS W1 (Lr ws t z6 z7 z8) (Hr ws lf P g) Q:=by
 have n8:=W.n8;obtain⟨j0,j0n,j00⟩:=some1
 -- undone
 refine AD (AX (BL (Al (Kx (A3 (Bp (A3 (A1 rfl (A7 (Bz (ds:=(ws.map Ac).map D.im) (z:=.im (.int (ws.length:Int))) rfl (by simp[BD]) (A7 ⟨_,rfl,FV (by omega) (by omega),?_⟩)))))))))));rw[toNat_natCast,Gb];refine⟨AS (by simp;omega),?_⟩;refine B2 (xs:=List.range ws.length) (λk:Nat=>D.im (.int (k:Int))) (λk=>if 0<lf k then some (.im (.int ((id k:Nat):Int)))else none) (λ_ ls=>∃x,ls=[some x,some (.mu 1)]) _ (AJ _) ?_ ?_
 .rintro k hk ls hls;have hk:k<ws.length:=by simpa using hk
  refine⟨[some (.im (.int (k:Int))),some (.mu 1)],by rcases hls with rfl|⟨_,x,rfl⟩<;>rfl,⟨_,rfl⟩,?_⟩;refine AR (A9 (A9 (A1 rfl (A1 rfl (AT (ds:=BH ws.length lf) rfl (DW hk) (AI (IY ⟨_,rfl,rfl,?_⟩)))))));by_cases h:0<lf k
  .rw[if_pos (by simpa using h),if_pos h];exact⟨_,rfl,A1 rfl ⟨rfl,rfl⟩⟩
  .rw[if_neg (by simpa using h),if_neg h]
 rw[Ha (λk=>0<lf k) id,List.map_id];refine A5 ?_;have hU:∀k,k∈(List.range ws.length).filter (λk=>decide (0<lf k))↔k<ws.length/\0<lf k:=λk=>by simp
 have lU:((List.range ws.length).filter λk=>decide (0<lf k)).length<=8:=by
  have:((List.range ws.length).filter λk=>decide (0<lf k)).length<=(List.range ws.length).length:=List.length_filter_le _ _;simp at this;omega
 generalize (List.range ws.length).filter (λk=>decide (0<lf k))=U at hU lU;have jU:j0∈U:=(hU j0).mpr ⟨j0n,j00⟩;have neU:U≠[]:=λh=>by rw[h]at jU;cases jU
 change WS _ (Lr ws t (some (.mu (Hr ws lf P g).length)) z7 z8) (Hr ws lf P (g++[.lst (B7 U)])) _
 -- t
 obtain⟨m,em,m1,m2⟩:=Kg (L:=U.map (cmN ws)) (by simpa using neU);refine AD (AX (Bp (A3 (A1 rfl (A3 (DQ (Al (Iu (A1 rfl ⟨_,B7 U,rfl,hnG,AS (by simp;omega),?_⟩)))))))));refine B2 (xs:=U) (λk:Nat=>D.im (.int (k:Int))) (λk=>some (.im (.int (cmN ws k:Int)))) (λ_ ls=>∃x,ls=[some x,some (.mu 0)]) _ (by intro p hp;rw[mem_singleton]at hp;subst hp;exact hnG) ?_ ?_
 .rintro k hk ls hls;refine⟨[some (.im (.int (k:Int))),some (.mu 0)],by rcases hls with rfl|⟨_,x,rfl⟩<;>rfl,⟨_,rfl⟩,BS ⟨rfl,?_⟩⟩;rw[if_pos rfl];exact⟨_,rfl,A9 (A1 rfl (A1 rfl (AT (ds:=BH ws.length (cmN ws)) rfl (DW ((hU k).mp hk).1) ⟨rfl,rfl⟩)))⟩
 have e1:(U.filterMap λk=>some (D.im (.int (cmN ws k:Int))))=(U.map (cmN ws)).map λk:Nat=>D.im (.int (k:Int)):=by simp
 rw[e1];refine⟨_,em,A7 (Pr (A5 ?_))⟩;obtain⟨t',ht'⟩:∃t',t'=max t m:=⟨_,rfl⟩
 rw[show max (t:Int) (m:Int)=(t':Int) by omega];have mU:∃j,j<ws.length/\0<lf j/\cmN ws j=m:=by
  obtain⟨j,hj,e⟩:=mem_map.mp m1;exact⟨j,((hU j).mp hj).1,((hU j).mp hj).2,e⟩
 have mle:∀j,j<ws.length->0<lf j->m<=cmN ws j:=λj h1 h2=>m2 _ (mem_map.mpr ⟨j,(hU j).mpr ⟨h1,h2⟩,rfl⟩);generalize ea6:(Hr ws lf P g).length=a6;have ea6:a6=3+g.length:=by rw[<- ea6];simp;omega
 change WS _ (Lr ws t' (some (.mu a6)) z7 z8) _ _;have h6:∀(lf':Nat->Nat) (P':List Pc) (g':Hd),(Hr ws lf' P' (g++.lst (B7 U)::g'))[a6]?=some (.lst (B7 U)):=λlf' P' g'=>by rw[ea6,show 3+g.length=g.length+3 by omega];simp
 -- the work
 refine AD (AX (NU (BL (Al (Iu (A1 rfl ⟨_,B7 U,rfl,h6 lf P [],AS (by simp;omega),?_⟩))))));refine B2 (xs:=U) (λk:Nat=>D.im (.int (k:Int))) (λk=>if cmN ws k<=t' then some (.im (.int ((id k:Nat):Int)))else none) (λ_ ls=>∃x,ls=[some x,some (.mu 0),some (.im (.int (t':Int)))]) _ (by intro p hp;rw[mem_singleton]at hp;subst hp;exact h6 lf P []) ?_ ?_
 .rintro k hk ls hls;refine⟨[some (.im (.int (k:Int))),some (.mu 0),some (.im (.int (t':Int)))],by rcases hls with rfl|⟨_,x,rfl⟩<;>rfl,⟨_,rfl⟩,?_⟩;refine AR (A9 (A9 (A1 rfl (A1 rfl (AT (ds:=BH ws.length (cmN ws)) rfl (DW ((hU k).mp hk).1) (A1 rfl (GR ⟨_,rfl,rfl,?_⟩)))))));by_cases h:cmN ws k<=t'
  .rw[if_pos (by simpa using h),if_pos h];exact⟨_,rfl,A1 rfl ⟨rfl,rfl⟩⟩
  .rw[if_neg (by simpa using h),if_neg h]
 rw[Ha (λk=>cmN ws k<=t') id,List.map_id];have hV:∀k,k∈U.filter (λk=>decide (cmN ws k<=t'))↔(k<ws.length/\0<lf k)/\cmN ws k<=t':=λk=>by rw[mem_filter,hU];simp
 have neV:U.filter (λk=>decide (cmN ws k<=t'))≠[]:=λh=>by
  obtain⟨j,h1,h2,h3⟩:=mU;have:=(hV j).mpr ⟨⟨h1,h2⟩,by omega⟩;rw[h]at this;cases this
 generalize U.filter (λk=>decide (cmN ws k<=t'))=V at hV neV;cases V with
 |nil=>exact absurd rfl neV
 |cons v0 vs=>
 obtain⟨g2,eg2⟩:∃g2,g2=g++[.lst (B7 U)]:=⟨_,rfl⟩
 rw[<- eg2];have h6':∀(lf':Nat->Nat) (P':List Pc) (g':Hd),(Hr ws lf' P' (g2++g'))[a6]?=some (.lst (B7 U)):=λlf' P' g'=>by rw[eg2,append_assoc];exact h6 lf' P' g'
 refine⟨D.im (.int (v0:Int)),B7 vs,kfL lf,lvG,λy hy=>?_,?_⟩
 .have hy:y∈B7 (v0::vs):=hy;obtain⟨k,hk,rfl⟩:=mem_map.mp hy;have:=WB (ws:=ws) (lf:=lf) (P:=P) (g:=g2++[.lst (B7 (v0::vs))]) ((hV k).mp hk).1.1;simp only[kfL,toNat_natCast];exact this
 have bm:=FS (kfL lf) (B7 vs) (D.im (.int (v0:Int)));generalize By (B7 vs) ((B7 vs).map (kfL lf)) (D.im (.int (v0:Int))) (kfL lf (D.im (.int (v0:Int))))=db at bm ⊢;obtain⟨b1,b2⟩:=bm;obtain⟨k,hk,rfl⟩:=mem_map.mp (show db∈B7 (v0::vs)from b1);have km:∀j∈v0::vs,lf k<=lf j:=λj hj=>by
  have:=b2 (D.im (.int (j:Int))) (show _∈B7 (v0::vs)from mem_map.mpr ⟨j,hj,rfl⟩);unfold leP ltZ at this;have:=of_decide_eq_false this;simp only[kfL,toNat_natCast]at this;omega
 obtain⟨⟨kn,k0⟩,kc⟩:=(hV k).mp hk;refine A5 ?_;change WS _ (Lr ws t' (some (.mu a6)) (some (.im (.int (k:Int)))) z8) (Hr ws lf P (g2++[.lst (B7 (v0::vs))])) _;generalize B7 (v0::vs)=vD;obtain⟨g3,eg3⟩:∃g3,g3=g2++[.lst vD]:=⟨_,rfl⟩
 rw[<- eg3];have h6a:∀(lf':Nat->Nat) (P':List Pc) (g':Hd),(Hr ws lf' P' (g3++g'))[a6]?=some (.lst (B7 U)):=λlf' P' g'=>by rw[eg3,append_assoc];exact h6' lf' P' _
 -- the stop
 refine AD (AX (DQ (MQ (BL (D6 (A3 (A9 (A1 rfl (A9 (A1 rfl (A1 rfl (AT (ds:=BH ws.length lf) rfl (DW kn) (E9 (A7 ⟨Gp,?_⟩))))))))))))));refine BL (Al (Iu (A1 rfl ⟨_,B7 U,rfl,h6a lf P _,AS (by simp;omega),?_⟩)));refine B2 (xs:=U) (λk:Nat=>D.im (.int (k:Int))) (λk=>if t'<cmN ws k then some (.im (.int (cmN ws k:Int)))else none) (λ_ ls=>∃x,ls=[some x,some (.mu 0),some (.im (.int (t':Int)))]) _ (by intro p hp;rw[mem_singleton]at hp;subst hp;exact h6a lf P _) ?_ ?_
 .rintro j hj ls hls;refine⟨[some (.im (.int (j:Int))),some (.mu 0),some (.im (.int (t':Int)))],by rcases hls with rfl|⟨_,x,rfl⟩<;>rfl,⟨_,rfl⟩,?_⟩;refine AR (A9 (A9 (A1 rfl (A1 rfl (AT (ds:=BH ws.length (cmN ws)) rfl (DW ((hU j).mp hj).1) (A1 rfl (IY ⟨_,rfl,rfl,?_⟩)))))));by_cases h:t'<cmN ws j
  .rw[if_pos (by simpa using h),if_pos h];exact⟨_,rfl,A9 (A1 rfl (A1 rfl (AT (ds:=BH ws.length (cmN ws)) rfl (DW ((hU j).mp hj).1) ⟨rfl,rfl⟩)))⟩
  .rw[if_neg (by simpa using h),if_neg h]
 rw[Ha (λk=>t'<cmN ws k) (cmN ws)];have hB:∀x,x∈(U.filter λk=>decide (t'<cmN ws k)).map (cmN ws)↔∃j,j<ws.length/\0<lf j/\t'<cmN ws j/\cmN ws j=x:=λx=>by
  rw[mem_map];constructor
  .rintro⟨j,hj,e⟩;obtain⟨h1,h2⟩:=mem_filter.mp hj;exact⟨j,((hU j).mp h1).1,((hU j).mp h1).2,by simpa using h2,e⟩
  .rintro⟨j,h1,h2,h3,e⟩;exact⟨j,mem_filter.mpr ⟨(hU j).mpr ⟨h1,h2⟩,by simpa using h3⟩,e⟩
 have lB:((U.filter λk=>decide (t'<cmN ws k)).map (cmN ws)).length<=8:=by
  rw[length_map];exact le_trans (List.length_filter_le _ _) lU
 generalize (U.filter λk=>decide (t'<cmN ws k)).map (cmN ws)=B at hB lB;obtain⟨s,es,s1,s2⟩:=Kg (L:=(t'+lf k)::B) (by simp);refine⟨_,_,[.im (.int ((t':Int)+(lf k:Int)))],B7 B,rfl,rfl,(by rw[List.getElem?_append_left (by simp)];simp),(by simp),AS (by simp;omega),?_⟩;have ecat:[D.im (.int ((t':Int)+(lf k:Int)))]++B7 B=((t'+lf k)::B).map λk:Nat=>D.im (.int (k:Int)):=by simp
 rw[ecat];refine⟨_,es,A5 ?_⟩;have X:Tn ws.length (cmN ws) lf t t' k s:=by
  refine⟨by omega,λh j h1 h2=>by have:=mle j h1 h2;omega,kn,k0,kc,λj h1 h2 h3=>km j ((hV j).mpr ⟨⟨h1,h2⟩,h3⟩),?_,s2 _ (by simp),λj h1 h2 h3=>s2 _ (mem_cons_of_mem _ ((hB _).mpr ⟨j,h1,h2,h3,rfl⟩)),?_⟩
  .rcases mem_cons.mp s1 with e|e
   .omega
   .obtain⟨j,_,_,h3,e⟩:=(hB s).mp e;omega
  .rcases mem_cons.mp s1 with e|e
   .exact .inl e
   .obtain⟨j,h1,h2,h3,e⟩:=(hB s).mp e;exact .inr ⟨j,h1,h2,h3,e.symm⟩
 obtain⟨g4,eg4⟩:∃g4,g4=g3++[MO.lst [.im (.int ((t':Int)+(lf k:Int)))],.lst (B7 B)]:=⟨_,rfl⟩
 have eh:(Hr ws lf P g3++[MO.lst [.im (.int ((t':Int)+(lf k:Int)))]])++[MO.lst (B7 B)]=Hr ws lf P g4:=by rw[eg4];simp
 rw[eh];clear eh eg4;change WS _ (Lr ws t' (some (.mu a6)) (some (.im (.int (k:Int)))) (some (.im (.int (s:Int))))) (Hr ws lf P g4) _;refine AD (E8 (Fz (A3 (A1 rfl (A3 (A1 rfl (A3 (A1 rfl (A3 (A1 rfl (A7 ((KN (P:=P) (i:=2) rfl (by omega) k (t':Int) (s:Int)).mono ?_))))))))))));rintro d x ⟨rfl,rfl⟩;refine A5 ?_;change WS _ _ (Hr ws lf (Di P k (t':Int) (s:Int)) g4) _;have ss:=X.s0;have s9:=X.s1;refine AD (ws_laug (A1 rfl (A1 rfl ⟨1,(k:Int),BH ws.length lf,k,(lf k:Int),rfl,rfl,rfl,?_,?_,A9 (A1 rfl (A1 rfl (DP ⟨_,BH ws.length lf,rfl,rfl,rfl,A5 (AX (A1 rfl ?_))⟩)))⟩)))
 .unfold ixN;rw[if_pos (by omega),if_pos (by simp;omega)];simp
 .simp[kn]
 .have e9:(lf k:Int)-((s:Int)-(t':Int))=((lf k-(s-t'):Nat):Int):=by omega
  rw[e9,QH kn];have e8:BH ws.length (λj=>if j=k then lf k-(s-t')else lf j)=BH ws.length (λj=>if j=k then lf j-(s-t')else lf j):=by
   refine List.map_congr_left λj _=>?_;dsimp only;by_cases q:j=k
   .subst q;rfl
   .rw[if_neg q,if_neg q]
  rw[e8];exact hQ t' k s g4 _ _ _ X
structure Lp(ws:List Wk)(P:List Pc):Prop where
 ex:∃lf t G,St ws.length (lnN ws) (cmN ws) lf P t G/\∀j,j<ws.length->lf j=0
 le:P.length<=16
def Vz(n:Nat)(cm lf:Nat->Nat)(t:Nat):mu n cm lf t<=2*n:=by
 unfold mu;have h1:=List.countP_le_length (p:=λj=>decide (0<lf j)) (l:=List.range n);have h2:=List.countP_le_length (p:=λj=>decide (0<lf j/\t<cm j)) (l:=List.range n);simp only[List.length_range]at h1 h2;omega
def SZ(n:Nat)(lf:Nat->Nat):Gk (BH n lf)=some (.im (.bl (decide (∃j,j<n/\0<lf j)))):=by
 have e:BH n lf=((List.range n).map λk=>(lf k:Int)).map λi=>D.im (.int i):=by simp
 unfold Gk;rw[e,Hz,map_some]
 congr 3
 rw[Bool.eq_iff_iff];simp only[List.any_map,List.any_eq_true,List.mem_range,decide_eq_true_eq,Function.comp,bne_iff_ne];constructor
 .rintro⟨j,h1,h2⟩;exact⟨j,h1,by omega⟩
 .rintro⟨j,h1,h2⟩;exact⟨j,h1,by omega⟩
def O4{w:Int}{ws:List Wk}(W:EW w ws):WF CJ [.im (AN ws),.mu 0,.fv 0 []] [.lst (BH ws.length (cmN ws))] λd _=>∃P,d=.im (.tup (P.map AC))/\Lp ws P:=by
 have n8:=W.n8;unfold CJ;refine As rfl ?_;refine AD (AX (BL (Al (Bs (A1 rfl ⟨_,rfl,?_⟩)))));rw[EA];refine⟨AS (by simp;omega),?_⟩;refine B2 wkD (λz=>some (.im (.int z.len))) (λ_ ls=>∃x,ls=[some x]) _ (AJ _) ?_ ?_
 .rintro z hz ls hls;refine⟨[some (wkD z)],by rcases hls with rfl|⟨_,x,rfl⟩<;>rfl,⟨_,rfl⟩,BS ⟨rfl,?_⟩⟩;rw[if_pos rfl];exact⟨_,rfl,A9 (A1 rfl (AI (AT rfl (FU _ _) ⟨rfl,rfl⟩)))⟩
 have e0:(ws.filterMap λz=>some (D.im (.int z.len)))=BH ws.length (lnN ws):=by
  refine ext_getElem? λi=>?_;by_cases hi:i<ws.length
  .have:=(EM W hi).1;simp[hi,this]
  .rw[List.getElem?_eq_none (by simp;omega),List.getElem?_eq_none (by simp;omega)]
 rw[e0];refine A5 (AD (AX (BL (D6 (A7 ⟨Jk,A5 ?_⟩)))));refine AD (AX (AI (A5 ?_)));change WS _ (Lr ws 0 none none none) (Hr ws (lnN ws) [] []) _;have m0:=Vz ws.length (cmN ws) (lnN ws) 0;refine AD (NQ (I_r ws) (n:=mu ws.length (cmN ws) (lnN ws) 0) ⟨_,_,_,_,_,_,_,_,rfl,rfl,rfl,St.start _ _ _ λj hj=>(EM W hj).2.1,by simp;omega⟩ ?_);rintro m ls hd ⟨lf,P,t,G,g,z6,z7,z8,em,rfl,rfl,S,pl⟩;refine B0 (Bp (A3 (A1 rfl (A7 (Bz (ds:=BH ws.length lf) rfl (SZ ws.length lf) ⟨_,rfl,?_⟩)))));by_cases h:∃j,j<ws.length/\0<lf j
 .rw[if_pos (by simpa using h)];refine Sk W S (by omega) h λt' k s g z6 z7 z8 X=>?_;obtain⟨⟨G',S'⟩,l',m'⟩:=S.turn X;exact⟨_,by rw[em];exact m',_,_,_,G',g,_,_,_,rfl,rfl,rfl,S',by omega⟩
 .rw[if_neg (by simpa using h)];refine A5 (Ad (Bp (A3 (A1 rfl (A7 (Bz (ds:=pcD P) (z:=.im (.tup (P.map AC))) rfl ?_ ?_))))))
  .show some (AV (pcD P))=_;rw[show pcD P=(P.map AC).map D.im by simp,DZ]
  .exact⟨P,rfl,⟨lf,t,G,S,λj hj=>by
    refine Classical.byContradiction λq=>h ⟨j,hj,by omega⟩⟩,by omega⟩
def Uu{w:Int}{ws:List Wk}(W:EW w ws):WF D2 [.im (AN ws)] [] λd _=>∃P,d=.im (.tup (P.map AC))/\Lp ws P:=by
 have n8:=W.n8;unfold D2;refine As rfl ?_;refine AD (E8 (AW (A3 (A1 rfl (A7 ⟨by simp,(Jm W).mono ?_⟩)))));rintro d x rfl;refine⟨_,rfl,A5 ?_⟩;refine Ad (Fz (A3 (A1 rfl (A3 (BL (Al (Bs (A1 rfl ⟨_,rfl,?_⟩))))))));rw[EA];refine⟨AS (by simp;omega),?_⟩;refine B2 wkD (λz=>some (.im (.int z.com))) (λ_ ls=>∃x,ls=[some x]) _ (AJ _) ?_ ?_
 .rintro z hz ls hls;refine⟨[some (wkD z)],by rcases hls with rfl|⟨_,x,rfl⟩<;>rfl,⟨_,rfl⟩,BS ⟨rfl,?_⟩⟩;rw[if_pos rfl];exact⟨_,rfl,A9 (A1 rfl (AI (AT rfl (E6 _ _ _) ⟨rfl,rfl⟩)))⟩
 have e0:(ws.filterMap λz=>some (D.im (.int z.com)))=BH ws.length (cmN ws):=by
  refine ext_getElem? λi=>?_;by_cases hi:i<ws.length
  .have:=(ER W hi).1;simp[hi,this]
  .rw[List.getElem?_eq_none (by simp;omega),List.getElem?_eq_none (by simp;omega)]
 rw[e0];exact A3 (Pw (A7 ((O4 W).mono λd x h=>h)))
namespace Ip
open PySem L2 Bd
def V7:F_ends_of=Bd.F_ends_of:=rfl
def Se{ma mb:MI}{ls:Ls}{hd:Hd}{QI:List D×Gd->Hd->Prop}(h:WI ma ls hd λp x=>WI mb ls x λq y=>GOk y p.2/\QI (List.zipWith (λx y=>AV [x,y]) p.1 q.1,p.2++q.2) y):WI (HN ma mb) ls hd QI:=by
 obtain⟨p,x,e1,q,y,e2,c,h⟩:=h;exact⟨_,_,by simp[HN,e1,e2,c],h⟩
abbrev wI(ps:List (Int×Int)):I:=.tup (ps.map Mt)
structure Wsh(n:Nat)(ps:List (Int×Int)):Prop where
 len:ps.length<=16
 al:∃seq:List Nat,seq.Perm (List.range n)/\WV seq ps
def Wsh.nats{n:Nat}{ps:List (Int×Int)}(h:Wsh n ps):∀p∈ps,∃a b:Nat,p=((a:Int),(b:Int))/\a<n/\b<n:=λp hp=>by
 obtain⟨seq,pm,al⟩:=h.al;obtain⟨i,j,a,b,_,e1,e2,e⟩:=al p hp;exact⟨a,b,e,by simpa using pm.mem_iff.mp (mem_of_getElem? e1),by simpa using pm.mem_iff.mp (mem_of_getElem? e2)⟩
def py_ints{hd:Hd}{k:Nat}{ns:List Int}(e:hd[k]?=some (.lst (AK ns))):pyD hd (.mu k)=some (.list (ns.map PyData.int)):=by
 show(match hd[k]? with|some (.lst ds)=>(Aj ds).map λis=>PyData.list (I.pys is)|_=>none)=_;rw[e];show(Aj (ns.map λi=>D.im (.int i))).map _=_;rw[Bh,map_some,BX]
def lnW(ws:List Wk)(k:Nat):Int:=((ws[k]?).map Wk.len).getD 0
def lnW_at{ws:List Wk}{k:Nat}(hk:k<ws.length):(ws[k]).len=lnW ws k:=by simp[lnW,hk]
def cm(ws:List Wk)(k:Nat):Int:=((ws[k]?).map Wk.com).getD 0
def cm_at{ws:List Wk}{k:Nat}(hk:k<ws.length):(ws[k]).com=cm ws k:=by simp[cm,hk]
abbrev pcD(P:List Pl.Pc):List D:=P.map λp=>.im (AC p)
def work_at{ws:List Wk}{k:Nat}(hk:k<ws.length):atI ((ws.map Ac).map D.im) (k:Int)=some (.im (Ac ws[k])):=FT rfl (by simp[hk])
theorem dn_snoc(q:Pl.Pc)(j:Nat):∀P:List Pl.Pc,Pl.dn (P++[q]) j=Pl.dn P j+(if q.1=j then q.2.2-q.2.1 else 0)
 |[]=>by simp[Pl.dn]
 |p::r=>by rw[cons_append,Pl.dn,Pl.dn,dn_snoc q j r];omega
theorem depth_ints:∀ns:List Int,PyData.depthAll (ns.map PyData.int)=0
 |[]=>by simp[PyData.depthAll]
 |n::r=>by simp[PyData.depthAll,PyData.depth,depth_ints r]
def lay_list(ns:List Int):(PyData.list (ns.map PyData.int)).canLay0=true:=by
 rw[PyData.canLay0]
 induction ns with
 |nil=>rfl
 |cons x r ih=>simp[PyData.canLayAll0,PyData.canLay0]at ih ⊢;try exact ih
def put_left(left:List Int)(k:Nat)(v:Int):(AK left).set k (.im (.int v))=AK (left.set k v):=by simp[AK,List.map_set]
def pc_im(P:List Pl.Pc):(P.map AC).map D.im=pcD P:=by simp[pcD]
def ends_w{ws:List Wk}{P:List Pl.Pc}(n8:ws.length<=8)(hP:∀p∈P,p.1<ws.length):WF F_ends_of [.im (AN ws),.im (.tup (P.map AC))] [] λd x=>d=.im (Be ((List.range ws.length).map (Pl.E P))):=by
 obtain⟨g,e⟩:=M2 ws P hP (by omega);rw[Pl.ends_map]at e;exact WP.eq (V7 ▸ e) rfl
def HW(i:Int):WF Bl [.im (.int i)] [] λd x=>d=.im (.bl true):=by
 unfold Bl;refine As rfl ?_;refine Ad (EB (AR (D5 (A1 rfl ⟨_,rfl,_,rfl,?_⟩))));rw[if_pos (by decide)];exact Pu (AR (D5 (A1 rfl ⟨_,rfl,_,rfl,rfl⟩)))
def Os{l i:Int}(h:l<=i):WF Bi [.im (.int l),.im (.int i)] [] λd x=>d=.im (.bl true):=by
 unfold Bi;refine As rfl ?_;refine Ad (EB (AR (AW (A3 (A1 rfl (A7 ⟨by simp,(HW i).mono ?_⟩))))));rintro d x rfl;refine⟨_,rfl,_,rfl,?_⟩;rw[if_pos rfl];refine A9 (A1 rfl (A1 rfl (Kw ?_)));simp[h]
def Op{m i:Int}(h:0<=i)(h2:i<m):WF BG [.im (.int m),.im (.int i)] [] λd x=>d=.im (.bl true):=by
 unfold BG;refine As rfl ?_;refine Ad (EB (AR (AW (A3 (AI (A3 (A1 rfl (A7 ⟨by simp,(Os h).mono ?_⟩))))))));rintro d x rfl;refine⟨_,rfl,_,rfl,?_⟩;rw[if_pos rfl];refine A9 (A1 rfl (A1 rfl (GQ ?_)));simp[h2]
def SH(a b c:I):WF CK [.im (.int 3),.im (.tup [a,b,c])] [] λd x=>d=.im (.bl true):=by
 unfold CK;refine As rfl ?_;refine Ad (EB (AR (D5 (A1 rfl ⟨_,rfl,_,rfl,?_⟩))));rw[if_pos (by decide)];exact A9 (Bp (A3 (A1 rfl (A7 (Bz rfl rfl (A1 rfl (F3 rfl)))))))
section
variable{ws:List Wk}
abbrev FF(ws:List Wk)(p:Pl.Pc):Prop:=cm ws p.1<=p.2.1/\p.2.1<p.2.2
def Rf{p:Pl.Pc}(h1:p.1<ws.length):WF DK [.im (AN ws),.im (AC p)] [] λd x=>d=.im (.bl (decide (FF ws p))):=by
 obtain⟨k,b,e⟩:=p;dsimp only at h1;unfold DK;refine As rfl ?_;refine AD (B1 (Br (B0 (AW (A3 (AI (A3 (A1 rfl (A7 ⟨by simp[AC],(SH (.int k) (.int b) (.int e)).mono ?_⟩)))))))));rintro d x rfl;refine⟨_,rfl,_,rfl,(λh=>by cases h),λ_=>Ak (A5 ?_)⟩;refine AD (Ir (A1 rfl ⟨[some (.im (AN ws)),some (.im (AC (k,b,e))),some (.im (.int (k:Int))),some (.im (.int b)),some (.im (.int e))],rfl,A5 ?_⟩));refine AD (B1 (Cs (Br (B0 (AW (A3 (Bp (A3 (A1 rfl (A7 (Bz (z:=.im (.int (ws.length:Int))) rfl (by simp[BD]) (A3 (A1 rfl (A7 ⟨by simp,(Op (m:=(ws.length:Int)) (i:=(k:Int)) (by omega) (by omega)).mono ?_⟩))))))))))))));rintro d x rfl;refine⟨_,rfl,_,rfl,?_⟩;rw[if_neg (by simp)];refine Cs (Br (B0 (AW (A3 (A1 rfl (A7 ⟨by simp,(HW b).mono ?_⟩))))));rintro d x rfl;refine⟨_,rfl,_,rfl,?_⟩;rw[if_neg (by simp)];refine Br (B0 (AW (A3 (A1 rfl (A7 ⟨by simp,(HW e).mono ?_⟩)))));rintro d x rfl;refine⟨_,rfl,_,rfl,(λh=>by cases h),λ_=>Ak (A5 ?_)⟩;refine Ad (EB (AR (A9 (A9 (A9 (A1 rfl (A1 rfl (AT (by rw[Sn]) (work_at h1) (AI (AT rfl (E6 _ _ _) ?_))))))))));rw[cm_at h1];refine A1 rfl (GR ⟨_,rfl,?_⟩);by_cases h2:cm ws k<=b
 .rw[if_pos (by simpa using h2)];refine A9 (A1 rfl (A1 rfl (GQ ?_)));simp[FF,h2]
 .rw[if_neg (by simpa using h2)];simp[FF,h2]
abbrev GP(P:List Pl.Pc):Prop:=∀x∈P.zip P.tail,x.1.2.2<=x.2.2.1
def blsD_map(bs:List Bool):BJ (blD bs)=some bs:=by
 induction bs with
 |nil=>rfl
 |cons b r ih=>simp[blD]at ih ⊢
def Ki(bs:List Bool):Em (blD bs)=some (.im (.bl (bs.all id))):=by rw[Em,blsD_map];rfl
def Vw{P:List Pl.Pc}(hl:P.length<=62):WF Bq [.im (.tup (P.map AC))] [] λd x=>d=.im (.bl (decide (GP P))):=by
 unfold Bq;refine As rfl ?_;have ct:Cf ((P.map AC).map D.im) (some 1) none=(P.tail.map AC).map D.im:=by
  cases P with
  |nil=>rfl
  |cons p r=>
   simp[Cf,HT.sIx];exact List.take_of_length_le (by simp)
 refine Ad (DQ (Al (Se (Bs (A1 rfl ⟨_,rfl,Bs (Sf (A1 rfl (Ps (AI ⟨_,rfl,VW ⟨_,rfl,?_⟩⟩))))⟩)))));rw[ct,DZ];refine⟨_,rfl,AJ _,?_⟩;have ez:List.zipWith (λx y=>AV [x,y]) ((P.map AC).map D.im) ((P.tail.map AC).map D.im)=(P.zip P.tail).map λq:Pl.Pc×Pl.Pc=>D.im (.tup [AC q.1,AC q.2]):=by
  rw[List.zipWith_map,List.zipWith_map,List.zip,List.map_zipWith];rfl
 dsimp only;rw[ez];refine⟨AS (by simp;omega),?_⟩;refine B2 (λq:Pl.Pc×Pl.Pc=>D.im (.tup [AC q.1,AC q.2])) (λq=>some (.im (.bl (decide (q.1.2.2<=q.2.2.1))))) (λ_ ls=>∃x y,ls=[some x,some y]) _ (AJ _) ?_ ?_
 .rintro q hq ls hls;refine⟨[some (.im (AC q.1)),some (.im (AC q.2))],by rcases hls with rfl|⟨_,x,y,rfl⟩<;>rfl,⟨_,_,rfl⟩,BS ⟨rfl,?_⟩⟩;rw[if_pos rfl];exact⟨_,rfl,A9 (A9 (A1 rfl (AI (AT rfl (K0 _ _ _ _) (A9 (A1 rfl (AI (AT rfl (E6 _ _ _) (GR ⟨rfl,rfl⟩)))))))))⟩
 have e:((P.zip P.tail).filterMap λq:Pl.Pc×Pl.Pc=>some (D.im (.bl (decide (q.1.2.2<=q.2.2.1)))))=blD ((P.zip P.tail).map λq=>decide (q.1.2.2<=q.2.2.1)):=by simp[blD]
 rw[e];refine⟨_,Ki _,?_⟩
 congr 3
 rw[Bool.eq_iff_iff,decide_eq_true_iff,all_map,all_eq_true];simp[GP]
abbrev dnL(n:Nat)(P:List Pl.Pc):List Int:=(List.range n).map (Pl.dn P)
def SX{n:Nat}{P:List Pl.Pc}{q:Pl.Pc}:(dnL n P).set q.1 (Pl.dn P q.1+(q.2.2-q.2.1))=dnL n (P++[q]):=by
 refine ext_getElem? λi=>?_;rw[List.getElem?_set];by_cases h:q.1=i
 .subst h;by_cases hk:q.1<n
  .simp[dnL,hk,dn_snoc]
  .simp[dnL,hk]
 .by_cases hk:i<n
  .simp[dnL,hk,dn_snoc,h]
  .simp[dnL,hk,h]
def ws_laug{mo mi me:ME}{f:Int->Int->Int}{ls:Ls}{hd:Hd}{QS:Fl->Hd->Prop}(h:WE mo ls hd λd x=>WE mi ls x λi y=>∃n k ds j v,d=.mu n/\i=.im (.int k)/\y[n]?=some (.lst ds)/\ixN ds.length k=some j/\ds[j]?=some (.im (.int v))/\WE me ls y λr z=>∃u ds',r=.im (.int u)/\z[n]?=some (.lst ds')/\ds'.length=ds.length/\QS (.nx ls) (z.set n (.lst (ds'.set j (.im (.int (f v u))))))):WS (Cu mo mi me f) ls hd QS:=by
 obtain⟨d,x,e1,i,y,e2,n,k,ds,j,v,rfl,rfl,e3,e4,e5,r,z,e6,u,ds',rfl,e7,e8,q⟩:=h;refine⟨_,_,?_,q⟩;unfold Cu;simp only[e1,bind_some,e2,e3,e4,e5,e6,e7,e8,if_true]
inductive I_dn(ws:List Wk)(P:List Pl.Pc)(r:List D)(ls:Ls)(hd:Hd):Prop
 |mk (d0 rest:List Pl.Pc) (z3 z4 z5:Option D) (h0:P=d0++rest) (h1:r=pcD rest) (h2:ls=[some (.im (AN ws)),some (.im (.tup (P.map AC))),some (.mu 0),z3,z4,z5]) (h3:hd=[.lst (AK (dnL ws.length d0))]):I_dn ws P r ls hd
def done_w(n8:ws.length<=8){P:List Pl.Pc}(hP:∀p∈P,p.1<ws.length):WF C3 [.im (AN ws),.im (.tup (P.map AC))] [] λd x=>d=.mu 0/\x=[.lst (AK (dnL ws.length P))]:=by
 unfold C3;refine As rfl ?_;refine AD (AX (BL (Al (Bs (A1 rfl ⟨_,rfl,AS (by simp;omega),?_⟩)))));rw[show(ws.map Ac).map D.im=ws.map λw=>D.im (Ac w) by simp];refine B2 (λw=>D.im (Ac w)) (λw:Wk=>some (.im (.int 0))) (λ_ ls=>∃x,ls=[some x]) _ (AJ _) ?_ ?_
 .rintro w hw ls hls;refine⟨[some (.im (Ac w))],by rcases hls with rfl|⟨_,x,rfl⟩<;>rfl,⟨_,rfl⟩,BS ⟨rfl,?_⟩⟩;rw[if_pos rfl];exact⟨_,rfl,AI ⟨rfl,rfl⟩⟩
 have e0:(ws.filterMap λ_=>some (D.im (.int 0)))=AK (dnL ws.length []):=by
  refine ext_getElem? λi=>?_;by_cases hi:i<ws.length
  .simp[AK,dnL,hi,Pl.dn]
  .simp[AK,dnL,hi]
 rw[e0];refine A5 (AD (D4 (Bs (A1 rfl ⟨_,rfl,?_⟩))));rw[pc_im];refine C8 (I_dn ws P) ⟨[],P,none,none,none,rfl,rfl,rfl,rfl⟩ ?_ ?_
 .rintro d r ls hd ⟨d0,rest,z3,z4,z5,e1,er,rfl,rfl⟩;cases rest with
  |nil=>cases er
  |cons p rest=>
   obtain⟨rfl,rfl⟩:=List.cons.inj er;have hp:=hP p (by rw[e1];simp);obtain⟨k,b,e⟩:=p;dsimp only at hp;refine⟨[some (.im (AN ws)),some (.im (.tup (P.map AC))),some (.mu 0),some (.im (.int (k:Int))),some (.im (.int b)),some (.im (.int e))],rfl,?_⟩;refine ws_laug (A1 rfl (A1 rfl ⟨0,(k:Int),AK (dnL ws.length d0),k,Pl.dn d0 k,rfl,rfl,rfl,?_,?_,?_⟩))
   .have:=SG (n:=(AK (dnL ws.length d0)).length) (i:=(k:Int)) (by omega) (by simp[AK,dnL];omega);simpa using this
   .simp[AK,dnL,hp]
   refine A9 (A1 rfl (A1 rfl (DP ⟨_,_,rfl,rfl,rfl,AJ _,d0++[(k,b,e)],rest,_,_,_,by rw[e1];simp,rfl,rfl,?_⟩)));rw[List.set_cons_zero,put_left];have:=SX (n:=ws.length) (P:=d0) (q:=(k,b,e));dsimp only at this;rw[this]
 .rintro ls hd ⟨d0,rest,z3,z4,z5,e1,er,rfl,rfl⟩;have:rest=[]:=by cases rest with
   |nil=>rfl
   |cons t r=>cases er
  subst this;rw[append_nil]at e1;subst e1;exact A5 (Ad (A1 rfl ⟨rfl,rfl⟩))
end
def VR(W:List (Int×Int))(P:List Pl.Pc):Prop:=∀q∈W,∀p∈P,(p.1:Int)=q.2->Pl.E P q.1.toNat<=p.2.1
inductive I_k1(W:List (Int×Int))(P:List Pl.Pc)(es:List Int)(r:List D)(ls:Ls)(hd:Hd):Prop
 |mk (d0 rest:List (Int×Int)) (z0 z1 z2 z3 z4:Option D) (bs:List Bool) (h0:W=d0++rest) (h1:r=rest.map AU) (h2:ls=[z0,z1,z2,z3,z4,some (.im (.tup (P.map AC))),some (.im (Be es))]) (h3:hd=[.lst (blD bs)]) (h4:bs.length<=62*d0.length) (h5:bs.all id=true↔∀q∈d0,∀p∈P,(p.1:Int)=q.2->Pl.E P q.1.toNat<=p.2.1):I_k1 W P es r ls hd
inductive I_k2(P:List Pl.Pc)(es:List Int)(a b:Nat)(bs:List Bool)(r:List D)(ls:Ls)(hd:Hd):Prop
 |mk (d0 rest:List Pl.Pc) (z2 z3 z4:Option D) (cs:List Bool) (h0:P=d0++rest) (h1:r=pcD rest) (h2:ls=[some (.im (.int (a:Int))),some (.im (.int (b:Int))),z2,z3,z4,some (.im (.tup (P.map AC))),some (.im (Be es))]) (h3:hd=[.lst (blD cs)]) (h4:cs.length<=bs.length+d0.length) (h5:cs.all id=true↔bs.all id=true/\∀p∈d0,(p.1:Int)=(b:Int)->Pl.E P a<=p.2.1):I_k2 P es a b bs r ls hd
section
variable{ws:List Wk}
def SE{W:List (Int×Int)}{P:List Pl.Pc}{n:Nat}(hW:Wsh n W)(hl:P.length<=62):
 WF C4 [.im (wI W),.im (.tup (P.map AC)),.im (Be ((List.range n).map (Pl.E P)))] [] λd x=>∃b:Bool,d=.im (.bl b)/\(b=true↔VR W P):=by
 have h16:=hW.len;obtain⟨es,hes⟩:∃es,es=(List.range n).map (Pl.E P):=⟨_,rfl⟩
 rw[<- hes];unfold C4;refine As rfl ?_;refine Ad (Bp (A3 (NS (Bs (A1 rfl ⟨_,rfl,?_⟩)))));rw[Rw.pairs_im];refine Gz (I_k1 W P es) ⟨[],W,none,none,none,none,none,[],rfl,rfl,rfl,rfl,by simp,by simp⟩ ?_ ?_
 .rintro d r ls hd ⟨d0,rest,z0,z1,z2,z3,z4,bs,e1,er,rfl,rfl,lb,hb⟩;cases rest with
  |nil=>cases er
  |cons u rest=>
   obtain⟨rfl,rfl⟩:=List.cons.inj er;obtain⟨a,b,rfl,ha,hbn⟩:=hW.nats u (by rw[e1];simp);have l1:=congrArg List.length e1;simp only[length_append,length_cons]at l1;refine⟨[some (.im (.int (a:Int))),some (.im (.int (b:Int))),z2,z3,z4,some (.im (.tup (P.map AC))),some (.im (Be es))],rfl,BS ?_⟩;rw[if_pos rfl];refine Bs (A1 rfl ⟨_,rfl,?_⟩);rw[pc_im];refine HA (I_k2 P es a b bs) ⟨[],P,_,_,_,bs,rfl,rfl,rfl,rfl,by simp,by simp⟩ ?_ ?_
   .rintro d r ls hd ⟨d1,r2,y2,y3,y4,cs,e2,er,rfl,rfl,lc,hc⟩;cases r2 with
    |nil=>cases er
    |cons p r2=>
     obtain⟨rfl,rfl⟩:=List.cons.inj er;have l2:=congrArg List.length e2;simp only[length_append,length_cons]at l2;obtain⟨k,x,y⟩:=p;refine⟨[some (.im (.int (a:Int))),some (.im (.int (b:Int))),some (.im (.int (k:Int))),some (.im (.int x)),some (.im (.int y)),some (.im (.tup (P.map AC))),some (.im (Be es))],rfl,AR (A9 (A1 rfl (A1 rfl (F3 ⟨_,rfl,?_⟩))))⟩;by_cases hk:(k:Int)=(b:Int)
     .rw[if_pos (by simpa using hk)];refine A9 (A9 (A1 rfl (A1 rfl (AT (e:=.im (.int (Pl.E P a))) rfl (FT rfl (by simp[hes,ha])) (A1 rfl (GR (Is rfl (Ep (by rw[length_map];omega)) ?_)))))));refine⟨AJ _,d1++[(k,x,y)],r2,_,_,_,cs++[decide (Pl.E P a<=x)],by rw[e2];simp,rfl,rfl,by simp[blD],by simp;omega,?_⟩;rw[List.all_append,Bool.and_eq_true,hc];constructor
      .rintro⟨⟨h1,h2⟩,h3⟩;refine⟨h1,λp hp ep=>?_⟩;rcases mem_append.mp hp with q|q
       .exact h2 p q ep
       .rw[mem_singleton]at q;subst q;simpa using h3
      .rintro⟨h1,h2⟩;refine⟨⟨h1,λp hp ep=>h2 p (mem_append_left _ hp) ep⟩,?_⟩;have:=h2 (k,x,y) (by simp) hk;simpa using this
     .rw[if_neg (by simpa using hk)];refine⟨AJ _,d1++[(k,x,y)],r2,_,_,_,cs,by rw[e2];simp,rfl,rfl,rfl,by simp;omega,hc.trans ?_⟩;refine and_congr_right λ_=>⟨λh p hp ep=>?_,λh p hp ep=>h p (mem_append_left _ hp) ep⟩
      rcases mem_append.mp hp with q|q
      .exact h p q ep
      .rw[mem_singleton]at q;subst q;exact absurd ep hk
   .rintro ls hd ⟨d1,r2,y2,y3,y4,cs,e2,er,rfl,rfl,lc,hc⟩;have:r2=[]:=by cases r2 with
     |nil=>rfl
     |cons _ _=>cases er
    subst this;rw[append_nil]at e2;subst e2;refine⟨AJ _,d0++[((a:Int),(b:Int))],rest,_,_,_,_,_,cs,by rw[e1];simp,rfl,rfl,rfl,by simp;omega,hc.trans ?_⟩;rw[hb];constructor
    .rintro⟨h1,h2⟩ q hq p hp ep;rcases mem_append.mp hq with z|z
     .exact h1 q z p hp ep
     .rw[mem_singleton]at z;subst z;simpa using h2 p hp ep
    .intro h;refine⟨λq hq=>h q (mem_append_left _ hq),λp hp ep=>?_⟩;have:=h ((a:Int),(b:Int)) (by simp) p hp ep;simpa using this
 .rintro ls hd ⟨d0,rest,z0,z1,z2,z3,z4,bs,e1,er,rfl,rfl,lb,hb⟩;have:rest=[]:=by cases rest with
   |nil=>rfl
   |cons _ _=>cases er
  subst this;rw[append_nil]at e1;subst e1;refine A7 (Bz rfl (by rw[Em,show BJ (blD _)=some _ from blsD_map _];rfl) ⟨_,rfl,hb⟩)
theorem eqv_ints:∀as bs:List Int,PyData.eqvAll (as.map PyData.int) (bs.map PyData.int)=decide (as=bs)
 |[],[]=>by simp[PyData.eqvAll]
 |[],b::r=>by simp[PyData.eqvAll]
 |a::r,[]=>by simp[PyData.eqvAll]
 |a::r,b::s=>by
  have ih:=eqv_ints r s;simp only[map_cons,PyData.eqvAll,PyData.eqv,ih];by_cases h:a=b
  .subst h;simp
  .simp[h]
def Pv{ma:ME}{ml:MA}{ls:Ls}{hd:Hd}{QE:D->Hd->Prop}(h:WE ma ls hd λd x=>WA ml ls x λds y=>∃as bs:List Int,pyD y d=some (.list (as.map PyData.int))/\ds=AK bs/\QE (.im (.bl (!decide (as=bs)))) y):WE (BP true ma ml) ls hd QE:=by
 obtain⟨d,x,e1,ds,y,e2,as,bs,e3,rfl,q⟩:=h;refine⟨_,y,?_,q⟩;unfold BP;rw[e1];simp only[bind_some,e2,e3];simp only[AK,Bh,bind_some,BX];unfold GJ;rw[if_pos ⟨lay_list as,lay_list bs,by simp[PyData.depth,depth_ints]⟩];simp[PyData.eqv,eqv_ints]
def MM{F:List D->Hd->Option (D×Hd)}{m:MA}{ls:Ls}{hd:Hd}{QE:D->Hd->Prop}(h:WA m ls hd λds rest=>Ar 0 ds=true/\WF F ds [] λd x=>∃k es,d=.mu k/\x[k]?=some (.lst es)/\Ar 0 es=true/\QE (.mu rest.length) (rest++[.lst es])):WE (AF 0 F m) ls hd QE:=by
 obtain⟨ds,rest,e,hc,d,x,e2,k,es,rfl,e3,c3,q⟩:=h;refine⟨_,_,?_,q⟩;have t3:¬ k<0:=by omega
 simp only[AF,e,bind_some,List.take_zero,hc,e2,fin,if_neg t3,e3,c3,if_true];simp
structure IsPl(ws:List Wk)(W:List (Int×Int))(P:List Pl.Pc):Prop where
 pc:∀p∈P,FF ws p
 zp:GP P
 dn:∀k,k<ws.length->Pl.dn P k=lnW ws k
 kp:VR W P
def is_plan_g(n8:ws.length<=8){P:List Pl.Pc}(hP:∀p∈P,p.1<ws.length)(hl:P.length<=62){W:List (Int×Int)}(hW:Wsh ws.length W):
 WF Dq [.im (AN ws),.im (wI W),.im (.tup (P.map AC))] [] λd x=>∃b:Bool,d=.im (.bl b)/\(b=true↔IsPl ws W P):=by
 unfold Dq;refine As rfl ?_;refine AD (B1 (Cs (Br (B0 (D5 (A1 rfl ⟨_,rfl,_,rfl,?_⟩))))));rw[if_neg (by decide)];refine Br (B0 (DQ (Al (Bs (A1 rfl ⟨_,rfl,AS (by simp;omega),?_⟩)))));rw[pc_im];refine B2 (λp=>D.im (AC p)) (λp=>some (.im (.bl (decide (FF ws p))))) (λ_ ls=>∃x,ls=[some x,some (.im (AN ws))]) _ (AJ _) ?_ ?_
 .rintro p hp ls hls;refine⟨[some (.im (AC p)),some (.im (AN ws))],by rcases hls with rfl|⟨_,x,rfl⟩<;>rfl,⟨_,rfl⟩,BS ⟨rfl,?_⟩⟩;rw[if_pos rfl];refine⟨_,rfl,AW (A3 (A1 rfl (A3 (A1 rfl (A7 ⟨by simp,(Rf (hP p hp)).mono ?_⟩)))))⟩;rintro d x rfl;exact⟨_,rfl,rfl,rfl⟩
 have e:(P.filterMap λp=>some (D.im (.bl (decide (FF ws p)))))=blD (P.map λp=>decide (FF ws p)):=by simp[blD]
 rw[e];refine⟨_,Ki _,_,rfl,λh=>?_,λh=>Ak (A5 ?_)⟩
 .refine Ad (AI ⟨_,rfl,(λz=>by cases z),λI=>?_⟩);rw[Bool.not_eq_true',all_map,List.all_eq_false]at h;obtain⟨p,hp,q⟩:=h;exact absurd (decide_eq_true (I.pc p hp)) q
 have hpc:∀p∈P,FF ws p:=λp hp=>by
  rw[Bool.not_eq_false',all_map,all_eq_true]at h;exact of_decide_eq_true (h p hp)
 refine AD (B1 (Br (B0 (AW (A3 (A1 rfl (A7 ⟨by simp,(Vw hl).mono ?_⟩)))))));rintro d x rfl;refine⟨_,rfl,_,rfl,λh=>?_,λh=>Ak (A5 ?_)⟩
 .refine Ad (AI ⟨_,rfl,(λz=>by cases z),λI=>?_⟩);rw[decide_eq_true I.zp]at h;cases h
 have hz:GP P:=by
  by_cases q:GP P
  .exact q
  .rw[decide_eq_false q]at h;cases h
 refine AD (B1 (AR (Pv (MM (A3 (A1 rfl (A3 (A1 rfl (A7 ⟨by simp,(done_w n8 hP).mono ?_⟩)))))))));rintro d x ⟨rfl,rfl⟩;refine⟨0,_,rfl,rfl,IE _ _,?_⟩;refine Al (Bs (A1 rfl ⟨_,rfl,AS (by simp;omega),?_⟩));rw[show(ws.map Ac).map D.im=ws.map λw=>D.im (Ac w) by simp];refine B2 (λw=>D.im (Ac w)) (λw:Wk=>some (.im (.int w.len))) (λ_ ls=>∃x,ls=[some x]) _ (AJ _) ?_ ?_
 .rintro w hw ls hls;refine⟨[some (.im (Ac w))],by rcases hls with rfl|⟨_,x,rfl⟩<;>rfl,⟨_,rfl⟩,BS ⟨rfl,?_⟩⟩;rw[if_pos rfl];exact⟨_,rfl,A9 (A1 rfl (AI (AT rfl (FU _ _) ⟨rfl,rfl⟩)))⟩
 have el:ws.map Wk.len=(List.range ws.length).map (lnW ws):=by
  refine ext_getElem? λi=>?_;by_cases hi:i<ws.length
  .simp[hi,lnW]
  .simp[hi]
 have e0:(ws.filterMap λw=>some (D.im (.int w.len)))=AK ((List.range ws.length).map (lnW ws)):=by rw[<- el];simp[AK]
 rw[e0];have eqd:dnL ws.length P=(List.range ws.length).map (lnW ws)↔∀k,k<ws.length->Pl.dn P k=lnW ws k:=by
  unfold dnL;rw[List.map_inj_left];simp
 refine⟨_,_,py_ints rfl,rfl,_,rfl,λh=>?_,λh=>Ak (A5 ?_)⟩
 .refine Ad (AI ⟨_,rfl,(λz=>by cases z),λI=>?_⟩);rw[decide_eq_true (eqd.mpr I.dn)]at h;cases h
 have hd:∀k,k<ws.length->Pl.dn P k=lnW ws k:=by
  refine eqd.mp ?_;by_cases q:dnL ws.length P=(List.range ws.length).map (lnW ws)
  .exact q
  .rw[decide_eq_false q]at h;cases h
 refine Ad (AW (A3 (A1 rfl (A3 (A1 rfl (A3 (AW (A3 (A1 rfl (A3 (A1 rfl (A7 ⟨by simp,(ends_w n8 hP).mono ?_⟩))))))))))));rintro d x rfl;refine⟨_,rfl,A7 ⟨by simp,(SE hW hl).mono ?_⟩⟩;rintro d x ⟨b,rfl,hb⟩;exact⟨_,rfl,_,rfl,hb.trans ⟨λk=>⟨hpc,hz,hd,k⟩,λI=>I.kp⟩⟩
end
end Ip
open Sr
def Ky{mi:MI}{ls:Ls}{hd:Hd}{QA:List D->Hd->Prop}(h:WI mi ls hd λp x=>∃ps:List (Int×Int),p.1=ps.map AU/\(ps.length<64/\∀q∈ps,pok q)/\QA ((CS ps).map AU) x):WA (Cm mi) ls hd QA:=by
 obtain⟨p,x,e,ps,e1,c,q⟩:=h;refine⟨_,_,?_,q⟩;simp only[M1,e,bind_some,e1,Lf];rw[if_pos c]
def S5{ns:List Int}(hne:ns≠[]):∃m,HV (AK ns)=some (.im (.int m))/\m∈ns:=by
 have e:Af (AK ns)=some ns:=by
  clear hne
  induction ns with
  |nil=>rfl
  |cons n r ih=>simp[AK]at ih ⊢
 obtain⟨m1,m2⟩:=FH hne;exact⟨Eh ns,by unfold HV;rw[e];simp[hne],m1⟩
def MF(ws:List Wk)(S:List Nat)(t:Int):Prop:=∀j∈S,(sl (lnN ws) (S.filter λi=>decide (cmN ws j<=cmN ws i)):Int)+(cmN ws j:Int)<=t
abbrev cps(ws:List Wk):List (Int×Int):=(List.range ws.length).map λk=>(-(cmN ws k:Int),(k:Int))
def VJ(ws:List Wk):(cps ws).Nodup:=by
 refine List.Pairwise.map _ (λa b h=>?_) List.nodup_range;intro e;have:=congrArg Prod.snd e;simp at this;exact h (by omega)
structure Fs(ws:List Wk)(T:Int)(dn:List (Int×Int))(f:Int×Int):Prop where
 ex:∃S:List Nat,S.Nodup/\(∀i∈S,(-(cmN ws i:Int),(i:Int))∈dn)/\f=((sl (lnN ws) S:Int),(S.length:Int))/\MF ws S T
def V6(f:Nat->Nat)(p:Nat->Bool)(S:List Nat):sl f (S.filter p)<=sl f S:=by
 induction S with
 |nil=>exact le_refl _
 |cons x r ih=>
  rw[filter_cons];split
  .simp only[sl,map_cons,sum_cons]at ih ⊢;omega
  .simp only[sl,map_cons,sum_cons]at ih ⊢;omega
def Fs.add{ws:List Wk}{T:Int}{dn:List (Int×Int)}{f:Int×Int}(h:Fs ws T dn f){k:Nat}(nk:(-(cmN ws k:Int),(k:Int))∉dn)(le:∀i:Nat,(-(cmN ws i:Int),(i:Int))∈dn->cmN ws k<=cmN ws i)(c:f.1+(lnN ws k:Int)<=T-(cmN ws k:Int)):Fs ws T (dn++[(-(cmN ws k:Int),(k:Int))]) (f.1+(lnN ws k:Int),f.2+1):=by
 obtain⟨S,n1,n2,rfl,n4⟩:=h;have kS:k∉S:=λz=>nk (n2 k z);have tot:sl (lnN ws) (S++[k])=sl (lnN ws) S+lnN ws k:=by rw[JF];simp[sl]
 refine⟨S++[k],?_,λi hi=>?_,by rw[tot];simp,λj hj=>?_⟩
 .rw[nodup_append];exact⟨n1,by simp,λa ha b hb e=>by rw[mem_singleton]at hb;subst hb;subst e;exact kS ha⟩
 .rcases mem_append.mp hi with q|q
  .simp[n2 i q]
  .rw[mem_singleton]at q;subst q;simp
 .by_cases e:cmN ws j=cmN ws k
  .have:=V6 (lnN ws) (λi=>decide (cmN ws j<=cmN ws i)) (S++[k]);rw[tot]at this;simp only at c;omega
  .have jS:j∈S:=by
    rcases mem_append.mp hj with q|q
    .exact q
    .rw[mem_singleton]at q;subst q;exact absurd rfl e
   have h1:=le j (n2 j jS);have h2:=n4 j jS;rw[List.filter_append,JF];have:[k].filter (λi=>decide (cmN ws j<=cmN ws i))=[]:=by
    rw[filter_cons,decide_eq_false (by omega)];rfl
   rw[this];simpa [sl]using h2
abbrev Ld(ws:List Wk)(T:Int)(p:Nat)(z3 z4 z5 z6:Option D):Ls:=[some (.im (AN ws)),some (.im (.int T)),some (.mu p),z3,z4,z5,z6]
inductive I_dn(ws:List Wk)(T:Int)(r:List D)(ls:Ls)(hd:Hd):Prop
 |mk (dn rest fs:List (Int×Int)) (p:Nat) (z3 z4 z5 z6:Option D) (e:CS (cps ws)=dn++rest) (er:r=rest.map AU) (el:ls=Ld ws T p z3 z4 z5 z6) (eh:hd[p]?=some (.lst (fs.map AU))) (lf:fs.length<=2^dn.length) (ne:fs≠[]) (ok:∀f∈fs,Fs ws T dn f):I_dn ws T r ls hd
def Oy(p:Int×Int->Prop)[DecidablePred p](g:Int×Int->Int×Int)(L:List (Int×Int)):(L.filterMap λf=>if p f then some (AU (g f))else none)=((L.filter λf=>decide (p f)).map g).map AU:=by
 induction L with
 |nil=>rfl
 |cons x r ih=>
  rw[filterMap_cons,filter_cons];by_cases h:p x
  .rw[if_pos h,decide_eq_true h,if_pos rfl,ih];rfl
  .rw[if_neg h,decide_eq_false h,if_neg (by simp),ih]
set_option maxHeartbeats 1000000 in
def done_w{w:Int}{ws:List Wk}(W:EW w ws)(T:Int):WF Gx [.im (AN ws),.im (.int T)] [] λd _=>∃S:List Nat,S.Nodup/\(∀i∈S,i<ws.length)/\MF ws S T/\d=.im (.int (S.length:Int)):=by
 have n8:=W.n8;unfold Gx;refine As rfl ?_;refine AD (AX (BL (D6 (A3 (CP (A3 (AI (A3 (AI (A7 ⟨FO,A7 ⟨Gp,A5 ?_⟩⟩))))))))));refine AD (D4 (NR (Ky (NR (Al (Kx (A3 (Bp (A3 (A1 rfl (A7 (Bz (ds:=(ws.map Ac).map D.im) (z:=.im (.int (ws.length:Int))) rfl (by simp[BD]) (A7 ⟨_,rfl,FV (by omega) (by omega),?_⟩)))))))))))));rw[toNat_natCast,Gb];refine⟨AS (by simp;omega),?_⟩;have wat:∀(k:Nat) (hk:k<ws.length),atI ((ws.map Ac).map D.im) (k:Int)=some (wkD ws[k]):=λk hk=>FT rfl (by simp[hk]);refine B2 (xs:=List.range ws.length) (λk:Nat=>D.im (.int (k:Int))) (λk=>some (AU (-(cmN ws k:Int),(k:Int)))) (λ_ ls=>∃x,ls=[some x,some (.im (AN ws))]) _ (AJ _) ?_ ?_
 .rintro k hk ls hls;have hk:k<ws.length:=by simpa using hk
  refine⟨[some (.im (.int (k:Int))),some (.im (AN ws))],by rcases hls with rfl|⟨_,x,rfl⟩<;>rfl,⟨_,rfl⟩,BS ⟨rfl,?_⟩⟩;rw[if_pos rfl];refine⟨_,rfl,CP (A3 (A9 (AI (A9 (A9 (A1 rfl (A1 rfl (AT (ds:=(ws.map Ac).map D.im) rfl (wat k hk) (AI (AT (ds:=[.im (.int (ws[k]).len),.im (.int (ws[k]).com),.im (Il (ws[k]).cost)]) rfl (E6 _ _ _) (DP (A3 (A1 rfl (A7 ⟨FO,rfl,?_⟩))))))))))))))⟩;rw[(ER W hk).1];simp[AV,Aj,AU]
 have e0:((List.range ws.length).filterMap λk=>some (AU (-(cmN ws k:Int),(k:Int))))=(cps ws).map AU:=by simp
 rw[e0];have sp:(CS (cps ws)).Perm (cps ws):=EX _;have snd:(CS (cps ws)).Nodup:=sp.nodup_iff.mpr (VJ ws);have sso:=F7 (cps ws);have slen:(CS (cps ws)).length<=8:=by rw[sp.length_eq];simp;omega
 have smem:∀q∈CS (cps ws),∃k:Nat,k<ws.length/\q=(-(cmN ws k:Int),(k:Int)):=λq hq=>by
  obtain⟨k,hk,rfl⟩:=mem_map.mp (sp.mem_iff.mp hq);exact⟨k,by simpa using hk,rfl⟩
 refine⟨cps ws,rfl,⟨by simp;omega,λq hq=>?_⟩,?_⟩
 .obtain⟨k,hk,rfl⟩:=mem_map.mp hq;have hk:k<ws.length:=by simpa using hk
  have:=(ER W hk).2;exact⟨by show(-1000000000:Int) <= -(cmN ws k:Int);omega,by show -(cmN ws k:Int)<=1000000000;omega,by show(-1000000000:Int)<=(k:Int);omega,by show(k:Int)<=1000000000;omega⟩
 refine C8 (I_dn ws T) (.mk [] _ [(0,0)] 0 none none none none rfl rfl rfl rfl (by simp) (by simp) (λf hf=>by rw[mem_singleton]at hf;subst hf;exact⟨[],by simp,by simp,rfl,λj hj=>by cases hj⟩)) ?_ ?_
 .intro d r ls hd hI;obtain⟨dn,rest,fs,p,z3,z4,z5,z6,e,er,rfl,eh,lf,ne,ok⟩:=hI;cases rest with
  |nil=>cases er
  |cons q rest=>
   obtain⟨rfl,rfl⟩:=List.cons.inj er;obtain⟨k,hk,rfl⟩:=smem q (by rw[e];simp);have ldn:dn.length<=7:=by
    have:=congrArg List.length e;simp at this;omega
   have p2:2^dn.length<=128:=by
    have:=Nat.pow_le_pow_right (n:=2) (by decide) ldn;simpa using this
   refine⟨Ld ws T p (some (AU (-(cmN ws k:Int),(k:Int)))) z4 z5 z6,rfl,?_⟩;refine AD (Ir (A9 (A1 rfl (A9 (A1 rfl (AI (AT (ds:=[.im (.int (-(cmN ws k:Int))),.im (.int (k:Int))]) rfl (E6 _ _ _) (AT (ds:=(ws.map Ac).map D.im) rfl (wat k hk) ?_))))))));refine⟨Ld ws T p (some (AU (-(cmN ws k:Int),(k:Int)))) (some (.im (.int (ws[k]).len))) (some (.im (.int (ws[k]).com))) (some (.im (Il (ws[k]).cost))),rfl,A5 ?_⟩;rw[(ER W hk).1,(EM W hk).1];refine AX (BL (MQ (A1 rfl (BL (Al (Iu (A1 rfl ⟨p,fs.map AU,rfl,eh,AS (by simp;omega),?_⟩)))))));refine B2 AU (λf=>if f.1+(lnN ws k:Int)<=T-(cmN ws k:Int)then some (AU ((λf:Int×Int=>(f.1+(lnN ws k:Int),f.2+1)) f))else none) (λ_ ls=>∃x,ls=[some x,some (.im (.int (lnN ws k:Int))),some (.im (.int T)),some (.im (.int (cmN ws k:Int)))]) _ (by intro p hp;rw[mem_singleton]at hp;subst hp;exact eh) ?_ ?_
   .rintro f hf ls hls;refine⟨[some (AU f),some (.im (.int (lnN ws k:Int))),some (.im (.int T)),some (.im (.int (cmN ws k:Int)))],by rcases hls with rfl|⟨_,x,rfl⟩<;>rfl,⟨_,rfl⟩,?_⟩;refine AR (A9 (A9 (A9 (A1 rfl (AI (AT (ds:=[.im (.int f.1),.im (.int f.2)]) rfl (FU _ _) (A1 rfl (E9 (A9 (A1 rfl (A1 rfl (DP (GR ⟨_,rfl,rfl,?_⟩)))))))))))));by_cases h:f.1+(lnN ws k:Int)<=T-(cmN ws k:Int)
    .rw[if_pos (by simpa using h),if_pos h];exact⟨_,rfl,CP (A3 (A9 (A9 (A1 rfl (AI (AT (ds:=[.im (.int f.1),.im (.int f.2)]) rfl (FU _ _) (A1 rfl (E9 (A3 (A9 (A9 (A1 rfl (AI (AT (ds:=[.im (.int f.1),.im (.int f.2)]) rfl (E6 _ _ _) (AI (E9 (A7 ⟨FO,rfl,rfl⟩)))))))))))))))))⟩
    .rw[if_neg (by simpa using h),if_neg h]
   rw[Oy (λf=>f.1+(lnN ws k:Int)<=T-(cmN ws k:Int))];have nk:(-(cmN ws k:Int),(k:Int))∉dn:=λz=>by
    rw[e]at snd;exact(nodup_append.mp snd).2.2 _ z _ (by simp) rfl
   have le:∀i:Nat,(-(cmN ws i:Int),(i:Int))∈dn->cmN ws k<=cmN ws i:=λi hi=>by
    rw[e,List.pairwise_append]at sso;have h1:=sso.2.2 _ hi (-(cmN ws k:Int),(k:Int)) (by simp);obtain⟨i',hi',ei⟩:=smem _ (by rw[e];exact mem_append_left _ hi);have ei:=congrArg Prod.snd ei;simp only at ei;have:i<ws.length:=by omega
    unfold BU at h1;simp only at h1;omega
   have new:∀f∈(fs.filter λf=>decide (f.1+(lnN ws k:Int)<=T-(cmN ws k:Int))).map (λf:Int×Int=>(f.1+(lnN ws k:Int),f.2+1)),Fs ws T (dn++[(-(cmN ws k:Int),(k:Int))]) f:=λf hf=>by
    obtain⟨f0,h1,rfl⟩:=mem_map.mp hf;obtain⟨h1,h2⟩:=mem_filter.mp h1;exact(ok f0 h1).add nk le (by simpa using h2)
   have ln2:((fs.filter λf=>decide (f.1+(lnN ws k:Int)<=T-(cmN ws k:Int))).map (λf:Int×Int=>(f.1+(lnN ws k:Int),f.2+1))).length<=fs.length:=by rw[length_map];exact List.length_filter_le _ _
   generalize (fs.filter λf=>decide (f.1+(lnN ws k:Int)<=T-(cmN ws k:Int))).map (λf:Int×Int=>(f.1+(lnN ws k:Int),f.2+1))=ys at new ln2;refine⟨p,hd.length,fs.map AU,ys.map AU,rfl,rfl,by rw[List.getElem?_append_left (List.getElem?_eq_some_iff.mp eh).1];exact eh,by simp,AS (by simp;omega),?_⟩;refine⟨AJ _,.mk (dn++[(-(cmN ws k:Int),(k:Int))]) rest (fs++ys) _ _ _ _ _ (by rw[e];simp) rfl rfl ?_ ?_ (by simp[ne]) λf hf=>?_⟩
   .rw[map_append];simp
   .rw[length_append,length_append,List.length_singleton,Nat.pow_succ];omega
   .rcases mem_append.mp hf with z|z
    .obtain⟨S,n1,n2,n3,n4⟩:=ok f z;exact⟨S,n1,λi hi=>mem_append_left _ (n2 i hi),n3,n4⟩
    .exact new f z
 .intro ls hd hI;obtain⟨dn,rest,fs,p,z3,z4,z5,z6,e,er,rfl,eh,lf,ne,ok⟩:=hI;have:rest=[]:=by cases rest with
   |nil=>rfl
   |cons _ _=>cases er
  subst this;rw[append_nil]at e;have l8:fs.length<=256:=by
   have:=Nat.pow_le_pow_right (n:=2) (by decide) (show dn.length<=8 by rw[<- e];exact slen);have h2:(2:Nat)^8=256:=rfl;omega
  refine A5 (Ad (DQ (Al (Iu (A1 rfl ⟨p,fs.map AU,rfl,eh,AS (by simp;omega),?_⟩)))));refine B2 AU (λf=>some (.im (.int f.2))) (λ_ ls=>∃x,ls=[some x]) _ (by intro p hp;rw[mem_singleton]at hp;subst hp;exact eh) ?_ ?_
  .rintro f hf ls hls;refine⟨[some (AU f)],by rcases hls with rfl|⟨_,x,rfl⟩<;>rfl,⟨_,rfl⟩,BS ⟨rfl,?_⟩⟩;rw[if_pos rfl];exact⟨_,rfl,A9 (A1 rfl (AI (AT (ds:=[.im (.int f.1),.im (.int f.2)]) rfl (E6 _ _ _) ⟨rfl,rfl⟩)))⟩
  have e1:(fs.filterMap λf=>some (D.im (.int f.2)))=AK (fs.map (·.2)):=by simp[AK]
  rw[e1];obtain⟨m,em,hm⟩:=S5 (ns:=fs.map (·.2)) (by simpa using ne);obtain⟨f,hf,rfl⟩:=mem_map.mp hm;obtain⟨S,n1,n2,n3,n4⟩:=ok f hf;refine⟨_,em,S,n1,λi hi=>?_,n4,by rw[n3]⟩;obtain⟨k,hk,ek⟩:=smem _ (by rw[e];exact n2 i hi);have:=congrArg Prod.snd ek;simp only at this;omega
def MP{ml:MA}{mb:ME}{ls:Ls}{hd:Hd}{QA:List D->Hd->Prop}(h:WA ml ls hd λds x=>WE mb ls x λe y=>∃k,e=.im (.int k)/\(0<=k/\k<=1000)/\BO (ds.length*k.toNat)/\QA (List.replicate k.toNat ds).flatten y):WA (GE ml mb) ls hd QA:=by
 obtain⟨ds,x,e1,d,y,e2,k,rfl,h1,h2,q⟩:=h;exact⟨_,_,by simp only[GE,e1,bind_some,e2,h1,h2,and_self,if_true],q⟩
theorem Hj{R:Pl.Pc->Pl.Pc->Prop}:∀{P:List Pl.Pc},P.Pairwise R->∀x∈P.zip P.tail,R x.1 x.2
 |[],_,x,hx=>by simp at hx
 |[p],_,x,hx=>by simp at hx
 |p::q::r,h,x,hx=>by
  rw[List.pairwise_cons]at h;simp only[List.tail_cons,List.zip_cons_cons,mem_cons]at hx;rcases hx with rfl|hx
  .exact h.1 q (by simp)
  .exact Hj h.2 x (by simpa using hx)
def Px{ma:ME}{ml:MA}{ls:Ls}{hd:Hd}{QE:D->Hd->Prop}(h:WE ma ls hd λd x=>WA ml ls x λds y=>∃as bs:List Int,pyD y d=some (.list (as.map PyData.int))/\ds=AK bs/\QE (.im (.bl (decide (as=bs)))) y):WE (BP false ma ml) ls hd QE:=by
 obtain⟨d,x,e1,ds,y,e2,as,bs,e3,rfl,q⟩:=h;refine⟨_,y,?_,q⟩;unfold BP;rw[e1];simp only[bind_some,e2,e3];simp only[AK,Bh,bind_some,BX];unfold GJ;rw[if_pos ⟨Ip.lay_list as,Ip.lay_list bs,by simp[PyData.depth,Ip.depth_ints]⟩];simp[PyData.eqv,Ip.eqv_ints]
def S3(L:List Int):AV (AK L)=.im (Be L):=by
 have:AK L=(L.map I.int).map D.im:=by simp[AK]
 rw[this,DZ]
def TL(n:Nat):(List.replicate (Int.toNat (n:Int)) [D.im (.int 0)]).flatten=AK (List.replicate n 0):=by
 rw[toNat_natCast];simp[AK,List.map_replicate]
def pc_im(P:List Pl.Pc):(P.map AC).map D.im=pcD P:=by simp
theorem Gq(q:Pl.Pc):∀(P:List Pl.Pc) (es:List Int),BM es (P++[q])=(BM es P).set q.1 q.2.2
 |[],es=>rfl
 |p::r,es=>by rw[cons_append,BM,BM,Gq q r]
theorem IC:∀(P:List Pl.Pc) (es:List Int),(BM es P).length=es.length
 |[],es=>rfl
 |p::r,es=>by rw[BM,IC r,List.length_set]
inductive I_pe(ws:List Wk)(P:List Pl.Pc)(r:List D)(ls:Ls)(hd:Hd):Prop
 |mk (d0 rest:List Pl.Pc) (z3 z4 z5:Option D) (h0:P=d0++rest) (h1:r=pcD rest) (h2:ls=[some (.im (AN ws)),some (.im (.tup (P.map AC))),some (.mu 0),z3,z4,z5]) (h3:hd=[.lst (AK (BM (List.replicate ws.length 0) d0))]):I_pe ws P r ls hd
def K9{ws:List Wk}(n8:ws.length<=8){P:List Pl.Pc}(hP:∀p∈P,p.1<ws.length):WF D1 [.im (AN ws),.im (.tup (P.map AC))] [] λd _=>d=.im (Be ((List.range ws.length).map (Pl.E P))):=by
 unfold D1;refine As rfl ?_;refine AD (AX (BL (MP (D6 (A3 (AI (A7 ⟨Gp,Bp (A3 (A1 rfl (A7 (Bz (ds:=(ws.map Ac).map D.im) (z:=.im (.int (ws.length:Int))) rfl (by simp[BD]) ⟨_,rfl,by omega,AS (by simp;omega),A5 ?_⟩))))⟩)))))));rw[TL];refine AD (D4 (Bs (A1 rfl ⟨_,rfl,?_⟩)));rw[pc_im];refine C8 (I_pe ws P) (.mk [] P none none none rfl rfl rfl rfl) ?_ ?_
 .intro d r ls hd hI;obtain⟨d0,rest,z3,z4,z5,e1,er,rfl,rfl⟩:=hI;cases rest with
  |nil=>cases er
  |cons p rest=>
   obtain⟨rfl,rfl⟩:=List.cons.inj er;have hp:=hP p (by rw[e1];simp);obtain⟨k,b,e⟩:=p;dsimp only at hp;refine⟨[some (.im (AN ws)),some (.im (.tup (P.map AC))),some (.mu 0),some (.im (.int (k:Int))),some (.im (.int b)),some (.im (.int e))],rfl,?_⟩;have hix:ixN (AK (BM (List.replicate ws.length 0) d0)).length (k:Int)=some k:=by
    unfold ixN;simp[AK,IC,hp]
   refine Gy (A1 rfl (A1 rfl (A1 rfl ⟨0,(k:Int),k,_,rfl,rfl,rfl,hix,?_⟩)));refine⟨AJ _,.mk (d0++[(k,b,e)]) rest _ _ _ (by rw[e1];simp) rfl rfl ?_⟩;rw[Gq];simp[AK,List.map_set]
 .intro ls hd hI;obtain⟨d0,rest,z3,z4,z5,e1,er,rfl,rfl⟩:=hI;have:rest=[]:=by cases rest with
   |nil=>rfl
   |cons _ _=>cases er
  subst this;rw[append_nil]at e1;subst e1;refine A5 (Ad (Bp (A3 (A1 rfl (A7 (Bz rfl rfl ?_))))));rw[Pl.ends_map];exact S3 _
abbrev BQ(ws:List Wk)(d0:List Pl.Pc):List Int:=(List.range ws.length).map λk=>(lnN ws k:Int)-Pl.dn d0 k
def Ol{ws:List Wk}{d0:List Pl.Pc}{k:Nat}{b e:Int}(hk:k<ws.length):(BQ ws d0).set k ((lnN ws k:Int)-Pl.dn d0 k-(e-b))=BQ ws (d0++[(k,b,e)]):=by
 refine ext_getElem? λi=>?_;rw[List.getElem?_set];by_cases h:k=i
 .subst h;simp[BQ,hk,dn_snoc];omega
 .by_cases hi:i<ws.length
  .simp[BQ,hi,dn_snoc,h]
  .simp[BQ,hi,h]
abbrev Ll(ws:List Wk)(P:List Pl.Pc)(now:Int)(z4 z5 z6 z7 z8:Option D):Ls:=[some (.im (AN ws)),some (.im (.tup (P.map AC))),some (.mu 0),some (.im (.int now)),z4,z5,z6,z7,z8]
inductive I_lp(ws:List Wk)(P:List Pl.Pc)(r:List D)(ls:Ls)(hd:Hd):Prop
 |mk (d0 rest:List Pl.Pc) (now:Int) (z4 z5 z6 z7 z8:Option D) (h0:P=d0++rest) (h1:r=pcD rest) (h2:ls=Ll ws P now z4 z5 z6 z7 z8) (h3:hd=[.lst (AK (BQ ws d0))]) (h4:∀p∈rest,now<=p.2.1):I_lp ws P r ls hd
inductive I_pt(ws:List Wk)(P:List Pl.Pc)(now:Int)(z4:Option D)(h0:Hd)(r:List D)(ls:Ls)(hd:Hd):Prop
 |mk (z5 z6 z7 z8:Option D) (h1:∀d∈r,∃i:Int,d=.im (.int i)) (h2:ls=Ll ws P now z4 z5 z6 z7 z8) (h3:hd=h0):I_pt ws P now z4 h0 r ls hd
set_option maxHeartbeats 1000000 in
def Lm{w:Int}{ws:List Wk}(W:EW w ws){P:List Pl.Pc}{t:Nat}(S:Pcs ws.length (cmN ws) P t)(dn:∀k,k<ws.length->Pl.dn P k=(lnN ws k:Int)):WF DJ [.im (AN ws),.im (.tup (P.map AC))] [] λd _=>d=.im (.bl true):=by
 have n8:=W.n8;unfold DJ;refine As rfl ?_;refine AD (B1 (Br (B0 (D5 (A1 rfl ⟨_,rfl,_,rfl,(λh=>by cases h),λ_=>Ak (A5 ?_)⟩)))));refine AD (AX (BL (Al (Bs (A1 rfl ⟨_,rfl,AS (by simp;omega),?_⟩)))));rw[EA];refine B2 wkD (λz=>some (.im (.int z.len))) (λ_ ls=>∃x,ls=[some x]) _ (AJ _) ?_ ?_
 .rintro z hz ls hls;refine⟨[some (wkD z)],by rcases hls with rfl|⟨_,x,rfl⟩<;>rfl,⟨_,rfl⟩,BS ⟨rfl,?_⟩⟩;rw[if_pos rfl];exact⟨_,rfl,A9 (A1 rfl (AI (AT rfl (FU _ _) ⟨rfl,rfl⟩)))⟩
 have e0:(ws.filterMap λz=>some (D.im (.int z.len)))=AK (BQ ws []):=by
  refine ext_getElem? λi=>?_;by_cases hi:i<ws.length
  .have:=(EM W hi).1;simp[AK,BQ,hi,Pl.dn,this]
  .rw[List.getElem?_eq_none (by simp;omega),List.getElem?_eq_none (by simp[AK];omega)]
 rw[e0];refine A5 (AD (AX (AI (A5 ?_))));refine AD (D4 (Bs (A1 rfl ⟨_,rfl,?_⟩)));rw[pc_im];refine C8 (I_lp ws P) (.mk [] P 0 none none none none none rfl rfl rfl rfl λp hp=>by have:=(S.pc p hp).2.1;omega) ?_ ?_
 .intro d r ls hd hI;obtain⟨d0,rest,now,z4,z5,z6,z7,z8,e1,er,rfl,rfl,hn⟩:=hI;cases rest with
  |nil=>cases er
  |cons p rest=>
   obtain⟨rfl,rfl⟩:=List.cons.inj er;obtain⟨p1,p2,p3,p4⟩:=S.pc p (by rw[e1];simp);have p5:=hn p (by simp);have pw:=S.pw;rw[e1,List.pairwise_append]at pw;have nx:∀q∈rest,p.2.2<=q.2.1:=(List.pairwise_cons.mp pw.2.1).1;obtain⟨k,b,e⟩:=p;dsimp only at p1 p2 p3 p4 p5 nx;refine⟨Ll ws P now (some (.im (AC (k,b,e)))) z5 z6 z7 z8,rfl,?_⟩;refine AD (B1 (Cs (Br (B0 (D5 (A1 rfl ⟨_,rfl,_,rfl,?_⟩))))));rw[if_neg (by decide)];refine AR (A9 (Bp (A3 (A1 rfl (A7 (Bz (ds:=[.im (.int (k:Int)),.im (.int b),.im (.int e)]) (z:=.im (.int 3)) rfl rfl (AI (MK ⟨_,rfl,(λh=>by cases h),λ_=>Ak (A5 ?_)⟩))))))));refine AD (D4 (Bs (A1 rfl ⟨[.im (.int (k:Int)),.im (.int b),.im (.int e)],rfl,?_⟩)));refine C8 (I_pt ws P now (some (.im (AC (k,b,e)))) [.lst (AK (BQ ws d0))]) (.mk z5 z6 z7 z8 (by simp) rfl rfl) ?_ ?_
   .intro d r ls hd hI;obtain⟨z5,z6,z7,z8,hr,rfl,rfl⟩:=hI;obtain⟨i,rfl⟩:=hr d (by simp);refine⟨Ll ws P now (some (.im (AC (k,b,e)))) (some (.im (.int i))) z6 z7 z8,rfl,?_⟩;refine B1 (Cs (Br (B0 (D5 (A1 rfl ⟨_,rfl,_,rfl,?_⟩)))));rw[if_neg (by decide)];refine B0 (D5 (A1 rfl ⟨_,rfl,_,rfl,(λh=>by cases h),λ_=>Ak ?_⟩));exact⟨AJ _,.mk _ _ _ _ (λd hd=>hr d (by simp[hd])) rfl rfl⟩
   .intro ls hd hI;obtain⟨z5,z6,z7,z8,hr,rfl,rfl⟩:=hI;refine A5 (AD (Ir (A1 rfl ⟨Ll ws P now (some (.im (AC (k,b,e)))) z5 (some (.im (.int (k:Int)))) (some (.im (.int b))) (some (.im (.int e))),rfl,A5 ?_⟩)));refine AD (B1 (Cs (AR (A9 (A1 rfl (AI (GQ ⟨_,rfl,?_⟩)))))));rw[if_neg (by simp)];refine Cs (AR (A9 (A1 rfl (Bp (A3 (A1 rfl (A7 (Bz (ds:=(ws.map Ac).map D.im) (z:=.im (.int (ws.length:Int))) rfl (by simp[BD]) (Kw ⟨_,rfl,?_⟩)))))))));rw[if_neg (by simp;omega)];refine Cs (AR (A9 (A1 rfl (A1 rfl (GQ ⟨_,rfl,?_⟩)))));rw[if_neg (by simp;omega)];refine Cs (AR (A9 (A1 rfl (A9 (A9 (A1 rfl (A1 rfl (AT (ds:=(ws.map Ac).map D.im) rfl (Ip.work_at p1) (AI (AT (ds:=[.im (.int (ws[k]).len),.im (.int (ws[k]).com),.im (Il (ws[k]).cost)]) rfl (E6 _ _ _) (GQ ⟨_,rfl,?_⟩)))))))))));rw[(ER W p1).1,if_neg (by simp;omega)];refine AR (A9 (A1 rfl (A1 rfl (Kw ⟨_,rfl,(λh=>absurd h (by simp;omega)),λ_=>Ak (A5 ?_)⟩))));have hix:ixN (AK (BQ ws d0)).length (k:Int)=some k:=by
     unfold ixN;simp[AK,BQ,p1]
    have hat:atI (AK (BQ ws d0)) (k:Int)=some (.im (.int ((lnN ws k:Int)-Pl.dn d0 k))):=FT rfl (by simp[AK,BQ,p1]);refine AD (Gy (A9 (A9 (A1 rfl (A1 rfl (AT (ds:=AK (BQ ws d0)) rfl hat (A9 (A1 rfl (A1 rfl (DP (DP (A1 rfl (A1 rfl ⟨0,(k:Int),k,_,rfl,rfl,rfl,hix,A5 ?_⟩)))))))))))));refine AX (A1 rfl ?_);refine⟨AJ _,.mk (d0++[(k,b,e)]) rest e _ _ _ _ _ (by rw[e1];simp) rfl rfl ?_ nx⟩;rw[List.set_cons_zero,Ip.put_left,Ol p1]
 .intro ls hd hI;obtain⟨d0,rest,now,z4,z5,z6,z7,z8,e1,er,rfl,rfl,hn⟩:=hI;have:rest=[]:=by cases rest with
   |nil=>rfl
   |cons _ _=>cases er
  subst this;rw[append_nil]at e1;subst e1;refine A5 (Ad (Px (A1 rfl (MP (D6 (A3 (AI (A7 ⟨Gp,Bp (A3 (A1 rfl (A7 (Bz (ds:=(ws.map Ac).map D.im) (z:=.im (.int (ws.length:Int))) rfl (by simp[BD]) ⟨_,rfl,by omega,AS (by simp;omega),?_⟩))))⟩))))))));rw[TL];refine⟨BQ ws P,List.replicate ws.length 0,Ip.py_ints rfl,rfl,?_⟩;have:BQ ws P=List.replicate ws.length 0:=by
   rw[List.eq_replicate_iff];refine⟨by simp,λx hx=>?_⟩;obtain⟨k,hk,rfl⟩:=mem_map.mp hx;rw[dn k (by simpa using hk)];omega
  rw[decide_eq_true this]
def MN{mi:MI}{ls:Ls}{hd:Hd}{QA:List D->Hd->Prop}(h:WI mi ls hd λp x=>∃ns:List Int,p.1=AK ns/\ns.length<64/\QA (AK (CT ns)) x):WA (Cn mi) ls hd QA:=by
 obtain⟨p,x,e,ns,e1,hl,q⟩:=h;refine⟨_,_,?_,q⟩;simp only[Cn,e,bind_some,e1,show Af (AK ns)=some ns from Hz ns,hl,if_true]
def JV{hd:Hd}(m:Nat)(es:List Int):pyN m hd (.im (Be es))=some (.tuple (es.map PyData.int)):=by
 have:pyN m hd (.im (Be es))=some (Be es).py:=by cases m<;>rfl
 rw[this];show some (PyData.tuple (I.pys (es.map I.int)))=_;rw[BX]
def LL{L:List Int}(hs:L.Pairwise (·<=·)){i:Nat}{e τ:Int}(h:L[i]?=some e)(lt:τ<e):L.countP (λx=>decide (x<=τ))<=i:=by
 obtain⟨hi,rfl⟩:=List.getElem?_eq_some_iff.mp h;have e1:L.countP (λx=>decide (x<=τ))=(L.take i).countP (λx=>decide (x<=τ))+(L.drop i).countP (λx=>decide (x<=τ)):=by rw[<- List.countP_append,List.take_append_drop]
 have e2:(L.drop i).countP (λx=>decide (x<=τ))=0:=by
  rw[List.countP_eq_zero];intro x hx;rw[drop_eq_getElem_cons hi]at hx;have pw:(L.drop i).Pairwise (·<=·):=hs.sublist (List.drop_sublist _ _);rw[drop_eq_getElem_cons hi]at pw;rcases mem_cons.mp hx with rfl|hx
  .simp;omega
  .have:=(List.pairwise_cons.mp pw).1 x hx;simp;omega
 have e3:=List.countP_le_length (p:=λx=>decide (x<=τ)) (l:=L.take i);rw[length_take]at e3;omega
def few{n:Nat}{E:Nat->Int}{i:Nat}{e:Int}{τ:Nat}{p:Nat->Bool}(h:(CT ((List.range n).map E))[i]?=some e)(lt:(τ:Int)<e)(hp:∀j,j<n->p j=true->E j<=(τ:Int)):((List.range n).filter p).length<=i:=by
 have h1:=LL (F8 _) h lt;rw[(EY _).countP_eq,List.countP_map]at h1;refine le_trans ?_ h1;rw[<- List.countP_eq_length_filter];exact List.countP_mono_left λj hj q=>by simpa using hp j (by simpa using hj) q
def P0{w:Int}{ws:List Wk}(W:EW w ws){lf:Nat->Nat}{P:List Pc}{t:Nat}{G:Nat->Nat->Nat}(S0:St ws.length (lnN ws) (cmN ws) lf P t G)(z:∀j,j<ws.length->lf j=0){i:Nat}{e:Int}(h:(CT ((List.range ws.length).map (Pl.E P)))[i]?=some e){S:List Nat}(nd:S.Nodup)(hS:∀i∈S,i<ws.length)(F:MF ws S (e-1)):S.length<=i:=by
 by_cases q:S=[]
 .subst q;simp
 .obtain⟨j,hj⟩:=List.exists_mem_of_ne_nil _ q;have e1:=F j hj;have hm:e∈(List.range ws.length).map (Pl.E P):=(EY _).mem_iff.mp (mem_of_getElem? h);obtain⟨k,hk,rfl⟩:=mem_map.mp hm;have hk:k<ws.length:=by simpa using hk
  have et:Pl.E P k<=(t:Int):=(S0.en k hk (z k hk) t (le_refl _)).mp (by rw[S0.gl,z k hk]);obtain⟨τ,eτ⟩:∃τ:Nat,Pl.E P k-1=(τ:Int):=⟨(Pl.E P k-1).toNat,by omega⟩
  have ht:τ<=t:=by omega
  refine le_trans (SN S0.H ht nd hS (λi hi=>(EM W (hS i hi)).2.1) λj hj=>?_) (few (τ:=τ) h (by omega) λj hj hp=>?_)
  .have:=F j hj;rw[eτ]at this;omega
  .have hp:cmN ws j<=τ/\G τ j=0:=by simpa using hp
   exact(S0.en j hj (z j hj) τ ht).mp hp.2
abbrev Lw(ns:List Int)(z2 z3 z4 z5 z6 z7:Option D):Ls:=[some (.ro ns),some (.mu 1),z2,z3,z4,z5,z6,z7]
inductive I_law(ns:List Int)(r:List D)(ls:Ls)(hd:Hd):Prop
 |mk (j:Nat) (a b:MO) (z2 z3 z4 z5 z6 z7:Option D) (h0:j<=2) (h1:r=Ae (j:Int) (2-j)) (h2:ls=Lw ns z2 z3 z4 z5 z6 z7) (h3:hd=[a,b]) (h4:T (200*(2-j)) a b):I_law ns r ls hd
inductive I_en(ns:List Int)(L:List Int)(z2 z3 z4 z5:Option D)(h0:Hd)(r:List D)(ls:Ls)(hd:Hd):Prop
 |mk (z6 z7:Option D) (h1:∀d∈r,∃(i:Nat) (e:Int),L[i]?=some e/\d=AV [.im (.int (i:Int)),.im (.int e)]) (h2:ls=Lw ns z2 z3 z4 z5 z6 z7) (h3:hd=h0):I_en ns L z2 z3 z4 z5 h0 r ls hd
set_option maxHeartbeats 1000000 in
def W9(ns:List Int):WF Yc [.ro ns] [] λd x=>d=.im (.bl true):=by
 unfold Yc;refine As rfl ?_;refine AD (AX (Fz (A3 (A1 rfl (A7 ((No ns).mono ?_))))));rintro d x ⟨rfl,a,b,hT,rfl⟩;refine A5 (AD (D4 (Kx (A3 (AI (A7 ⟨_,rfl,FV (by decide) (by decide),?_⟩))))));change WP (B4 _ _ _ (Ae 0 2) (Lw ns none none none none none none) [a,b]) _;refine C8 (I_law ns) (.mk 0 a b none none none none none none (by omega) rfl rfl rfl (tap.le hT (by omega))) ?_ ?_
 .intro d r ls hd hI;obtain⟨j,a,b,z2,z3,z4,z5,z6,z7,hj,er,rfl,rfl,hT⟩:=hI;obtain⟨m,hm⟩:∃m,2-j=m+1:=by
   cases q:2-j with
   |zero=>rw[q]at er;cases er
   |succ m=>exact⟨m,rfl⟩
  rw[hm,Ae]at er;obtain⟨rfl,rfl⟩:=List.cons.inj er;have ej:((j:Int)+1)=((j+1:Nat):Int):=by omega
  have emj:m=2-(j+1):=by omega
  have hT:T (200*(2-(j+1))+100) a b:=tap.le hT (by omega);refine⟨Lw ns (some (.im (.int (j:Int)))) z3 z4 z5 z6 z7,rfl,?_⟩;refine AD (AX ?_);refine tap.call hT (as:=[.im (.int 8)]) (rest:=[]) rfl rfl (KJ _) ?_;rintro i a b hT ⟨ws,w,rfl,W⟩;have n8:=W.n8;refine A5 (AD (AX (AW (A3 (A1 rfl (A7 ⟨by simp,(Uu W).mono ?_⟩))))));rintro d x ⟨P,rfl,lp⟩;obtain⟨⟨lf,t,G,S,z⟩,pl⟩:=lp;have hP:∀p∈P,p.1<ws.length:=λp hp=>(S.ps.pc p hp).1;have dn:∀k,k<ws.length->Pl.dn P k=(lnN ws k:Int):=λk hk=>by
   have:=S.dn k hk;rw[z k hk]at this;omega
  refine⟨_,rfl,A5 ?_⟩;refine AD (B1 (Cs (Br (B0 (AW (A3 (A1 rfl (A3 (A1 rfl (A7 ⟨by simp,(Lm W S.ps dn).mono ?_⟩))))))))));rintro d x rfl;refine⟨_,rfl,_,rfl,?_⟩;rw[if_neg (by simp)];refine AR (Sg (AW (A3 (A1 rfl (A3 (CP (A7 ⟨Jk,A3 (A1 rfl (A7 ⟨by simp[Hv],?_⟩))⟩)))))));rw[Hv];refine(Ip.is_plan_g n8 hP (by omega) (W:=[]) ⟨by simp,List.range ws.length,List.Perm.refl _,by intro p hp;cases hp⟩).mono ?_;rintro d x ⟨bb,rfl,hb⟩;have bt:bb=true:=hb.mpr ⟨λp hp=>?pc,?zp,λk hk=>?dn,λq hq=>by cases hq⟩
  case pc=>
   obtain⟨p1,p2,p3,_⟩:=S.ps.pc p hp;refine⟨?_,p3⟩;rw[<- Ip.cm_at p1,(ER W p1).1];exact p2
  case zp=>exact Hj S.ps.pw
  case dn=>rw[dn k hk,<- Ip.lnW_at hk,(EM W hk).1]
  subst bt;refine⟨_,rfl,_,rfl,_,rfl,(λh=>by cases h),λ_=>Ak (A5 ?_)⟩;refine AD (AX (AW (A3 (A1 rfl (A3 (A1 rfl (A7 ⟨by simp,(K9 n8 hP).mono ?_⟩)))))));rintro d x rfl;refine⟨_,rfl,A5 ?_⟩;refine AD (B1 (AR (A9 (AW (A3 (A1 rfl (A3 (A1 rfl (A7 ⟨by simp,(Ip.ends_w n8 hP).mono ?_⟩)))))))));rintro d x rfl;refine⟨_,rfl,A1 rfl ?_⟩;have el:((List.range ws.length).map (Pl.E P)).length=ws.length:=by simp
  have hL:∀i e,(CT ((List.range ws.length).map (Pl.E P)))[i]?=some e->∀{S':List Nat},S'.Nodup->(∀i∈S',i<ws.length)->MF ws S' (e-1)->S'.length<=i:=λi e h S' n1 n2 n3=>P0 W S z h n1 n2 n3;generalize (List.range ws.length).map (Pl.E P)=es at el hL;refine Sd (x:=.tuple (es.map PyData.int)) (y:=.tuple (es.map PyData.int)) ?_ ?_ ⟨?_,?_,?_⟩ ⟨_,rfl,(λh=>?_),λ_=>Ak (A5 ?_)⟩
  .exact JV _ _
  .exact JV _ _
  .simpa [PyData.canLay0]using Ip.lay_list es
  .simpa [PyData.canLay0]using Ip.lay_list es
  .simp[PyData.depth,Ip.depth_ints]
  .simp[PyData.eqv,Ip.eqv_ints]at h
  refine D4 (Pt (NR (MN (Bs (A1 rfl ⟨_,rfl,es,by simp[AK],by omega,?_⟩)))));refine C8 (I_en ns (CT es) (some (.im (.int (j:Int)))) (some (.im (AN ws))) (some (.im (.tup (P.map AC)))) (some (.im (Be es))) [a,b]) (.mk z6 z7 (λd hd=>?_) rfl rfl) ?_ ?_
  .obtain⟨⟨x,i⟩,hq,rfl⟩:=mem_map.mp hd;have:=List.mem_zipIdx_iff_getElem?.mp hq;simp only[AK,List.getElem?_map,map_eq_some_iff]at this;obtain⟨e,h1,rfl⟩:=this;exact⟨i,e,h1,rfl⟩
  .intro d r ls hd hI;obtain⟨z6,z7,hr,rfl,rfl⟩:=hI;obtain⟨i,e,hi,rfl⟩:=hr d (by simp);refine⟨Lw ns (some (.im (.int (j:Int)))) (some (.im (AN ws))) (some (.im (.tup (P.map AC)))) (some (.im (Be es))) (some (.im (.int (i:Int)))) (some (.im (.int e))),rfl,?_⟩;refine B1 (AR (A9 (AW (A3 (A1 rfl (A3 (A9 (A1 rfl (AI (DP (A7 ⟨by simp,(done_w W (e-1)).mono ?_⟩)))))))))));rintro d x ⟨S',n1,n2,n3,rfl⟩;have:=hL i e hi n1 n2 n3;refine⟨_,rfl,A1 rfl (IY ⟨_,rfl,(λh=>absurd h (by simp;omega)),λ_=>Ak ?_⟩)⟩;exact⟨AJ _,.mk _ _ (λd hd=>hr d (by simp[hd])) rfl rfl⟩
  .intro ls hd hI;obtain⟨z6,z7,hr,rfl,rfl⟩:=hI;exact⟨AJ _,.mk (j+1) a b _ _ _ _ _ _ (by omega) (by rw[ej,emj]) rfl rfl hT⟩
 .intro ls hd hI;obtain⟨j,a,b,z2,z3,z4,z5,z6,z7,hj,er,rfl,rfl,hT⟩:=hI;exact A5 (Ad (AI rfl))
def law_eq(ns:List Int):∃hd,Yc [.ro ns] []=some (.im (.bl true),hd):=by
 obtain⟨d,x,e,rfl⟩:=W9 ns;exact⟨x,e⟩
open PySem L2 PySem.W PyProof.Rows
abbrev xS:Xs:=[("ranked_plan",((("ranked_plan":Str)++".<locals>.")++"<lambda>"),41,62),("left_plan",((("left_plan":Str)++".<locals>.")++"<lambda>"),83,59)]
def all_mk{l:PySem.W.OpenLaw}{w:World}{K:PySem.W.Frag}{h:Heap}{mg:Str->Option Value}{fa:Addr}{c P:Str->Addr}(X:K.In h)(G:h.Ns mainGlobals mg)(hfa:mg "law"=some (.ref fa))(hx:HX xS mg h c P)(F:MH K):HG l w K xS mg c P fa M3:=by
 obtain⟨Z,h0,h1,h2,h3,h4,h5,h6,h7,h8,h9,h10,h11,h13,h14,h15,h16,h18,h19,h20,h21,h22,h23,p12,p17,h12,h17,tn⟩:=F;have B:=(zsE Z).blt X G;have nd:((Bu (Av K (tbs xS P))).map (·.1)).Nodup:=Vy (ps:=[p12,p17]) (by show [P "ranked_plan",P "left_plan"]=_;rw[((flE (e:=CI) h12).code X G hx (.head _)).1,((flE (e:=Cy) h17).code X G hx (.tail _ (.head _))).1]) tn;refine Ou X G hfa hx (feE h0) bd1 rfl λbase hd bl=>?_;obtain⟨o_is_number,o_is_number_from,o_is_number_of_work,o_is_tuple_of,o_refuse_other_costs,o_weight_of,o_one_weight,o_add_piece,o_ranked_plan,o_is_piece,o_one_at_a_time,o_lengths_done,o_keeps_wishes,o_ends_of,o_is_plan,o_end_weight,o_left_plan,o_source,o_pick,o_end_works,o_done,o_lis_plan,o_plan_ends,o_law⟩:=oks (E:=enM l w K xS P mg base) B;have g1:=o_is_number ((feE h1).dn X G hx bd1 l w base);have g2:=o_is_number_from ((feE h2).dn X G hx bd2 l w base) g1;have g3:=o_is_number_of_work ((feE h3).dn X G hx bd2 l w base) g2;have g4:=o_is_tuple_of ((feE h4).dn X G hx bd2 l w base);have g5:=o_is_piece ((feE h5).dn X G hx bd2 l w base) g1 g3 g4;have g6:=o_one_at_a_time ((feE h6).dn X G hx bd1 l w base);have g7:=o_lengths_done ((feE h7).dn X G hx bd2 l w base);have g8:=o_keeps_wishes ((feE h8).dn X G hx bd3 l w base);have g9:=o_ends_of ((feE h9).dn X G hx bd2 l w base);have g10:=o_is_plan ((feE h10).dn X G hx bd3 l w base) g5 g6 g7 g8 g9;have g11:=o_add_piece ((feE h11).dn X G hx bd4 l w base);have g12:=o_ranked_plan ((flE h12).dl X G hx bd3 (.head _) l w hd bl nd rfl) g11;have g13:=o_refuse_other_costs ((feE h13).dn X G hx bd2 l w base);have g14:=o_weight_of ((feE h14).dn X G hx bd1 l w base);have g15:=o_one_weight ((feE h15).dn X G hx bd1 l w base) g14;have g16:=o_end_weight ((feE h16).dn X G hx bd1 l w base) g13 g15;have g17:=o_left_plan ((flE h17).dl X G hx bd1 (.tail _ (.head _)) l w hd bl nd rfl) g12 g16;have g18:=o_source ((feE h18).dn X G hx bd1 l w base);have g19:=o_pick ((feE h19).dn X G hx bd2 l w base);have g20:=o_end_works ((feE h20).dn X G hx bd2 l w base) g19;have g21:=o_done ((feE h21).dn X G hx bd2 l w base);have g22:=o_lis_plan ((feE h22).dn X G hx bd2 l w base);have g23:=o_plan_ends ((feE h23).dn X G hx bd2 l w base);exact o_law ((feE h0).dn X G hx bd1 l w base) g10 g9 g17 g18 g20 g21 g22 g23
end T45
theorem PySem.Challenge.cw_benchdays_k45_left_plans_told_holds : PySem.Challenge.rw_benchdays_k45_left_plans_told.Holds := by
 refine T45.early λK F d hd hdf=>L2.walkL T45.xS (l:=PySem.Challenge.rw_benchdays_k45_left_plans_told) (n:=63) (k:=6) (F:=T45.Yc) rfl (by decide) hdf ⟨rfl,by decide,by decide,rfl⟩ (by intro x hx;simp only[T45.xS,mem_cons,not_mem_nil,or_false]at hx;rcases hx with rfl|rfl<;>exact⟨_,rfl⟩) T45.law_eq (λw h Y=>Y) λw mg fa h c P X G hmg hx=>?_;rw[hd]at hmg;exact T45.all_mk X G hmg hx (F w)
