import PyProof.Rows.All
import Wide.All
import OpenK.AllK
import Wide.FinOn
import Lean
import PyProof.EqAt
import PyProof.EqKinds
import PyProof.TupleCall
import KE.KSortKey
import PyProof.ListMulRoad
import PyProof.Draws
import PyProof.EnumMake
import PyProof.ListNew
import KE.KRevIter
import KE.KMinKey
import PySem.Challenge.RW_benchdays_k11_plans_by_kind
set_option Elab.async false
set_option linter.all false
set_option maxRecDepth 100000
noncomputable section
set_option hygiene false in
local macro_rules | `(tactic| and_intros) => `(tactic| intro ρ σ H hd ls Q d hd' hR hL hm hQ)
open List(mem_cons mem_filter filterMap_cons mem_cons_self mem_cons_of_mem mem_append mem_append_left mem_filterMap mem_append_right size_toArray append_nil nodup_cons length_take mem_of_getElem? length_append length_map length_drop all_cons any_cons length_singleton map_nil map_cons find?_cons length_cons length_nil lookup_cons append_assoc lookup_append mem_map all_eq_true cons_append map_map drop_eq_getElem_cons drop_length mem_of_mem_take not_mem_nil ext_getElem? take_of_length_le nil_append set_cons_succ set_cons_zero reverse_cons length_reverse filter_cons sum_cons mem_of_mem_drop mem_singleton filter_eq_nil_iff length_range all_map tail_cons)
open Option(bind_some isSome_iff_exists none_or getD_some map_some)
open Nat(lt_of_lt_of_le lt_irrefl ne_of_lt le_trans le_of_lt ne_of_gt le_refl lt_of_le_of_lt lt_trans zero_le lt_succ_of_lt log2_lt)
open Int(toNat_natCast)
def dF{α β:Type _}{o:Option α}{f:α->Option β}{b:β}(h:o.bind f=some b):∃a,o=some a/\f a=some b:=Option.bind_eq_some_iff.mp h
def dG{α β:Type _}{o:Option α}{f:α->β}{b:β}(h:o.map f=some b):∃a,o=some a/\f a=b:=Option.map_eq_some_iff.mp h
set_option compiler.extract_closed false
local macro_rules | `(tactic| omega) => `(tactic| first | lia | omega (config := {}))
namespace Ea
open PySem PySem.W
def dA(s:Stmt):Arguments:=match s with
 |.FunctionDef _ a _ _ _ _ _ _ _ _=>a
 |_=>{ posonlyargs:=[],args:=[],vararg:=none,kwonlyargs:=[],kw_defaults:=[],kwarg:=none,defaults:=[] }
def dB(s:Stmt):List Stmt:=match s with
 |.FunctionDef _ _ b _ _ _ _ _ _ _=>b
 |_=>[]
def dS(s:Stmt):Scope:=match s with
 |.FunctionDef _ _ _ _ _ _ sc _ _ _=>sc
 |_=>{ kind:=.function,names:=[],isGenerator:=false,isCoroutine:=false }
def tO(o:Obj):Option Addr:=match o.data with
 | .fields vs=>(match (vs[11]?:Option Value)with
  |some (Value.ref P)=>some P
  | _=>none)
 |_=>none
def At(K:Frag)(n:Str)(s:Stmt)(f:Addr)(cd:Value):Prop:=∃oc kV dc pm ct od an sl,nsIn K mainGlobals n=some (some (.ref f))/\K.lookup f=some ⟨oc,od,.func (fnOf n n (dA s) (dB s) (dS s) .none kV dc pm an cd ct),sl⟩/\codeIn K cd n=true/\keepIn K (.ref f)=true
def Fe(K:Frag)(n:Str)(s:Stmt):Prop:=∃f cd,At K n s f cd
def Fl(K:Frag)(n:Str)(s:Stmt)(p:Addr):Prop:=∃f ca ob,At K n s f (.ref ca)/\K.lookup ca=some ob/\tO ob=some p
section
variable{K:Frag}{n:Str}{s:Stmt}{f ca p:Addr}{oc kV dc pm cd ct:Value}{od an:Option Addr}{sl:Array (Option Value)}{ob:Obj}
def feI(a:nsIn K mainGlobals n=some (some (.ref f)))(l:K.lookup f=some ⟨oc,od,.func (fnOf n n (dA s) (dB s) (dS s) .none kV dc pm an cd ct),sl⟩)(c:codeIn K cd n=true)(k:keepIn K (.ref f)=true):Fe K n s:=⟨f,cd,_,_,_,_,_,_,_,_,a,l,c,k⟩
end
abbrev Zj:List Str:=["list","tuple","len","range","repr","sum","min","max","abs","all","any","sorted","zip","isinstance","int","bool","str","set","enumerate","reversed","dict"]
def Zs(K:Frag):Prop:=∀n∈Zj,nsIn K mainGlobals n=some none
def Zg(K:Frag)(l:List Str):Prop:=∀n∈l,nsIn K mainGlobals n=some none
def zs0{K:Frag}:Zg K []:=λ_ h=>nomatch h
def zs1{K:Frag}{n:Str}{l:List Str}(h:nsIn K mainGlobals n=some none)(r:Zg K l):Zg K (n::l):=λm hm=>by
 rcases mem_cons.mp hm with rfl|hm
 .exact h
 .exact r m hm
end Ea
namespace Hl
open PySem PySem.W PyProof.Rows
def NT(p:Program)(w:World)(m:Nat)(ann:Option Value):Nat->SharedT->Thread->Option SharedT
 |0,_,_=>none
 |n+1,s,t=>match through t with
  |true=>some s
  |false=>match stepOk m ann t with
   |false=>none
   |true=>match stepT (denote treeTable) p w s t with
    |some (s',t')=>NT p w m ann n s' t'
    |none=>none
def Mf{p:Program}{w:World}{m:Nat}{ann:Option Value}:∀{n:Nat} {s s':SharedT} {t:Thread},NT p w m ann n s t=some s'->topRun treeTable p w m ann n s.abs t=some s'.abs
 |0,_,_,_,h=>by cases h
 |n+1,s,s',t,h=>by
  rw[NT]at h;rw[topRun];cases h1:through t with
  |true=>rw[h1]at h;cases h;rfl
  |false=>
   rw[h1]at h;cases h2:stepOk m ann t with
   |false=>rw[h2]at h;cases h
   |true=>
    rw[h2]at h;cases h3:stepT (denote treeTable) p w s t with
    |none=>rw[h3]at h;cases h
    |some r=>obtain⟨s2,t2⟩:=r;rw[h3]at h;rw[stepT_spec h3];exact Mf h
def Su:Nat->List Obj->BT->BT
 |_,[],t=>t
 |n,o::r,t=>Su (n+1) r (t.ins n o)
def bT(P:Params):BT:=Su 0 (boot_heap P).objs.toList .nil
def Zi(P:Params):absHeap (bT P) 11 (boot_heap P).life=boot_heap P:=by kernel_rfl
def bc(P:Params):((boot_heap P).isNs mainGlobals,(boot_heap P).nsMap mainGlobals "__annotations__")=(true,some (.ref 6)):=by kernel_rfl
variable{p q:Program}{loose:List Str}{Xt:Shared->Bool}{α:Type}{Yf:Shared->α}{Ya:World->α}{N M:Nat}
def Z2(p q:Program)(loose:List Str)(Xt:Shared->Bool)(Yf:Shared->α)(M:Nat)(w:World)(os:OsState):=
 match NT p w 11 (some (.ref 6)) M ⟨bT w.params,11,(boot_heap w.params).life,Array.mk [],boot_drawn,boot_toks,os⟩ (topStub p)with
 | some s=>(match staticsOk (importedModules p.main.body) (boot_heap w.params) s.abs.heap&&namesBound p s.abs.heap&&gensDone s.abs&&laidKept (boot_heap w.params) s.abs.heap with
  |true=>some (openSeen q loose (importedModules p.main.body) Xt true s.abs,Yf s.abs)
  | false=>none)
 |none=>none
def left(e:opening p=plainProg p.main.scope.names)(f:∀s,fenceModules? p s=some s)(hN:Nat.ble 600 N=true)(hM:Nat.ble M N=true)(h:∀w os,Z2 p q loose Xt Yf M w os=some (openGood q loose,Ya w)):LeftO p q loose Xt Yf Ya N:=λw=>by
 obtain⟨⟨hp,gs,d,k,os⟩,e1,e2⟩:=dG (boot_open e hN f w);simp only[Prod.mk.injEq]at e2;obtain⟨rfl,rfl,rfl,rfl⟩:=e2;have hl:=h w os;unfold Z2 at hl;split at hl
 .next s hs=>
  have r:=topRun_mono (N-M) _ _ _ _ (Mf hs);rw[show M+(N-M)=N by have:=Nat.le_of_ble_eq_true hM;omega]at r;have ea:(SharedT.mk (bT w.params) 11 (boot_heap w.params).life (Array.mk []) boot_drawn boot_toks os).abs=⟨boot_heap w.params,Array.mk [],boot_drawn,boot_toks,os⟩:=by
   show Shared.mk (absHeap (bT w.params) 11 (boot_heap w.params).life) _ _ _ _=_;rw[Zi]
  rw[ea]at r;obtain⟨z1,z2⟩:=Prod.mk.inj (bc w.params);have z3:(boot_heap w.params).objs.size=11:=rfl;split at hl
  .next c=>
   show((fencedOpening treeTable p w N).bind (topFrom treeTable p w N)).map _=_;rw[e1,bind_some];have t:topFrom treeTable p w N ⟨boot_heap w.params,Array.mk [],boot_drawn,boot_toks,os⟩=some s.abs:=by
    unfold topFrom;dsimp only;rw[z1,z2,z3,r];show(match staticsOk (importedModules p.main.body) (boot_heap w.params) s.abs.heap&&namesBound p s.abs.heap&&gensDone s.abs&&laidKept (boot_heap w.params) s.abs.heap with|true=>some s.abs|false=>none)=_;rw[c]
   rw[t];exact hl
  .cases hl
 .cases hl
end Hl
namespace T11
open PySem PySem.W PyProof.Rows Ea
def top(i:Nat):Stmt:=PySem.Challenge.pw_benchdays_k11_plans_by_kind.main.body.getD i (.Pass ⟨0,0,0,0⟩)
def vw:PySem.Program:={ PySem.Challenge.pw_benchdays_k11_plans_by_kind with main:={ PySem.Challenge.pw_benchdays_k11_plans_by_kind.main with body:=[1,2,3,4,6,7,8,9,10,11,13,14,15,16,17,18,19,20,21,22,23,24,25,26,27].map top } }
def Og(K:Frag):Prop:=Zs K/\Fe K "law" (top 27)/\Fe K "is_number" (top 1)/\Fe K "is_number_from" (top 2)/\Fe K "is_number_of_work" (top 3)/\Fe K "is_tuple_of" (top 4)/\Fe K "is_piece" (top 6)/\Fe K "one_at_a_time" (top 7)/\Fe K "lengths_done" (top 8)/\Fe K "keeps_wishes" (top 9)/\Fe K "ends_of" (top 11)/\Fe K "is_plan" (top 10)/\Fe K "_law_tape" (top 13)/\Fe K "_law_pick" (top 14)/\Fe K "_law_strange" (top 15)/\Fe K "_law_bent" (top 16)/\Fe K "_law_cost" (top 18)/\Fe K "_law_works" (top 19)/\Fe K "_law_wishes" (top 20)/\Fe K "_law_may" (top 21)/\Fe K "_law_plan" (top 22)/\Fe K "_law_is_number" (top 17)/\Fe K "_law_is_piece" (top 23)/\Fe K "_law_is_plan" (top 24)/\Fe K "_law_by_days" (top 25)/\Fe K "_law_near" (top 26)
def bQ{K:Frag}(z:Zs K)(h0:Fe K "law" (top 27))(h1:Fe K "is_number" (top 1))(h2:Fe K "is_number_from" (top 2))(h3:Fe K "is_number_of_work" (top 3))(h4:Fe K "is_tuple_of" (top 4))(h5:Fe K "is_piece" (top 6))(h6:Fe K "one_at_a_time" (top 7))(h7:Fe K "lengths_done" (top 8))(h8:Fe K "keeps_wishes" (top 9))(h9:Fe K "ends_of" (top 11))(h10:Fe K "is_plan" (top 10))(h11:Fe K "_law_tape" (top 13))(h12:Fe K "_law_pick" (top 14))(h13:Fe K "_law_strange" (top 15))(h14:Fe K "_law_bent" (top 16))(h15:Fe K "_law_cost" (top 18))(h16:Fe K "_law_works" (top 19))(h17:Fe K "_law_wishes" (top 20))(h18:Fe K "_law_may" (top 21))(h19:Fe K "_law_plan" (top 22))(h20:Fe K "_law_is_number" (top 17))(h21:Fe K "_law_is_piece" (top 23))(h22:Fe K "_law_is_plan" (top 24))(h23:Fe K "_law_by_days" (top 25))(h24:Fe K "_law_near" (top 26)):Og K:=⟨z,h0,h1,h2,h3,h4,h5,h6,h7,h8,h9,h10,h11,h12,h13,h14,h15,h16,h17,h18,h19,h20,h21,h22,h23,h24⟩
local macro_rules | `(tactic| o_head $H) => `(tactic| (refine holds_open (r := PySem.Challenge.rw_benchdays_k11_plans_by_kind.row) (q := T11.vw) (loose := []) (Xt := λ s => xlAt T11.vw [] s && recOk (RowW.records (OpenRow.toRowW PySem.Challenge.rw_benchdays_k11_plans_by_kind.row)) s) (XP := XL T11.vw []) (Yf := Hook.obs $H) (Ya := Hook.val $H) (YP := Hook.says $H) (N := 100000) ?hl (Hook.of $H) (Hook.keeps $H) (λ s e => xl_of s (Bool.and_eq_true_iff.mp e).1) XL.keeps (by rfl) (by rfl) (by rfl) (λ s e => recFacts_of (Bool.and_eq_true_iff.mp e).2) (by rfl) (by first | assumption | decide +kernel) (by decide +kernel) ⟨rfl, rfl, rfl, rfl, rfl, by decide +kernel⟩ ?hw ?hc; (case hl => exact Hl.left (M := 10000) (by rfl) (λ s => by rfl) (by decide) (by decide) λ w os => by kernel_rfl)))
set_option maxRecDepth 100000 in
set_option maxHeartbeats 0 in
def early(hG:∀(K:Params->Frag),(∀w:World,Og (K w.params))->∀d:DefRec,d.name="law"->d.params.defaults=[]->WalkO T11.vw [] (XL T11.vw []) (λw h=>(K w.params).In h) PySem.Challenge.rw_benchdays_k11_plans_by_kind.row.toRowW d [] (λf vs=>PySem.call f vs)):PySem.Challenge.rw_benchdays_k11_plans_by_kind.Holds:=by
 w_on;o_law;k_head;(case hw=>w_witness2)
 k_fill
 refine λw s₀ s₁ mg mb G Y=>hG _ ?F _ rfl rfl w s₀ s₁ mg mb G (kIn_of Y)
 case F=>
  intro w;refine' bQ ?z ?h0 ?h1 ?h2 ?h3 ?h4 ?h5 ?h6 ?h7 ?h8 ?h9 ?h10 ?h11 ?h12 ?h13 ?h14 ?h15 ?h16 ?h17 ?h18 ?h19 ?h20 ?h21 ?h22 ?h23 ?h24
  case z=>(refine' zs1 _ (zs1 _ (zs1 _ (zs1 _ (zs1 _ (zs1 _ (zs1 _ (zs1 _ (zs1 _ (zs1 _ (zs1 _ (zs1 _ (zs1 _ (zs1 _ (zs1 _ (zs1 _ (zs1 _ (zs1 _ (zs1 _ (zs1 _ (zs1 _ (zs0)))))))))))))))))))))<;>k_is)
  case h0|h1|h2|h3|h4|h5|h6|h7|h8|h9|h10|h11|h12|h13|h14|h15|h16|h17|h18|h19|h20|h21|h22|h23|h24=>(refine' feI ?a ?l ?c ?k;case a|l|c|k=>k_is)
end T11
namespace L2
open PySem PySem.Spec PyProof.Rows
abbrev Key:=Sum Int Str
def HK:Key->Value->Bool
 |.inl k,v=>Value.isInt k v
 |.inr x,v=>Value.isStrOf x v
def bM(w:World):Key->Int
 |.inl k=>hashInt k
 |.inr x=>hashStr w x
def BX:∀{k:Key} {v:Value},HK k v=true->(∃i t,k=Sum.inl i/\v=Value.int i t)∨(∃x t,k=Sum.inr x/\v=Value.str x t)
 |.inl i,v,h=>by
  obtain⟨t,e⟩:=Value.isInt_shape (k:=i) (v:=v) h;exact .inl ⟨i,t,rfl,e⟩
 |.inr x,v,h=>by
  obtain⟨t,e⟩:=Value.isStrOf_shape (x:=x) (v:=v) h;exact .inr ⟨x,t,rfl,e⟩
def Pz(i:Int)(t:Tok):HK (.inl i) (.int i t)=true:=by simp[HK,Value.isInt]
def Py(x:Str)(t:Tok):HK (.inr x) (.str x t)=true:=by simp[HK,Value.isStrOf]
def Z8(a b:Int):decide ((Sum.inl a:Key)=Sum.inl b)=(a==b):=by
 by_cases e:a=b
 .subst e;simp
 .have h:¬ (Sum.inl a:Key)=Sum.inl b:=λq=>e (Sum.inl.inj q);rw[decide_eq_false h];exact(beq_eq_false_iff_ne.mpr e).symm
def Z5(a b:Str):decide ((Sum.inr a:Key)=Sum.inr b)=decide (a=b):=by
 by_cases e:a=b
 .subst e;simp
 .have h:¬ (Sum.inr a:Key)=Sum.inr b:=λq=>e (Sum.inr.inj q);rw[decide_eq_false h,decide_eq_false e]
def Z7(a:Int)(b:Str):decide ((Sum.inl a:Key)=Sum.inr b)=false:=decide_eq_false (λq=>nomatch q)
def Z6(a:Str)(b:Int):decide ((Sum.inr a:Key)=Sum.inl b)=false:=decide_eq_false (λq=>nomatch q)
def BF(prog:Program)(w:World):PySem.KeyKind prog w Key where
 is:=HK
 hash:=bM w
 inj:=λv a b ha hb=>by
  rcases BX ha with⟨i,t,rfl,rfl⟩|⟨x,t,rfl,rfl⟩
  .rcases BX hb with⟨j,u,rfl,e⟩|⟨y,u,rfl,e⟩
   .injection e with e1 _;rw[e1]
   .exact nomatch e
  .rcases BX hb with⟨j,u,rfl,e⟩|⟨y,u,rfl,e⟩
   .exact nomatch e
   .injection e with e1 _;rw[e1]
 byValue:=λk v h=>by
  rcases BX h with⟨i,t,rfl,rfl⟩|⟨x,t,rfl,rfl⟩<;>rfl
 pyHash:=λhv h=>by
  rcases BX hv with⟨i,t,rfl,rfl⟩|⟨x,t,rfl,rfl⟩
  .exact wpAny_pyHash_int h
  .exact wpAny_pyHash_str h
 eqBool:=λhu hv h=>by
  rcases BX hu with⟨i,t,rfl,rfl⟩|⟨x,t,rfl,rfl⟩
  .rcases BX hv with⟨j,u,rfl,rfl⟩|⟨y,u,rfl,rfl⟩
   .rw[Z8]at h;exact wpAny_eqBool_int h
   .rw[Z7]at h;exact SeqAt.EqAt.int_str i t y u _ _ _ _ h
  .rcases BX hv with⟨j,u,rfl,rfl⟩|⟨y,u,rfl,rfl⟩
   .rw[Z6]at h;exact SeqAt.EqAt.str_int x t j u _ _ _ _ h
   .rw[Z5]at h;exact wpAny_eqBool_str h
 «strs»:=λk x t v h=>by
  rcases BX h with⟨i,u,rfl,e⟩|⟨y,u,rfl,e⟩
  .exact nomatch e
  .injection e with e1 _
   subst e1;cases v<;>rfl
def MN(prog:Program)(w:World)(i:Int)(t:Tok):(BF prog w).is (.inl i) (.int i t)=true:=Pz i t
def MM(prog:Program)(w:World)(x:Str)(t:Tok):(BF prog w).is (.inr x) (.str x t)=true:=Py x t
inductive V where
 |non|bl (b:Bool)|int (i:Int)|str (x:Str)|byt (b:Array UInt8)|flt (b:UInt64)|ref (a:Addr)|ty (n:String)
 deriving DecidableEq
def RelV:V->Value->Prop
 |.non,u=>u=Value.none
 |.bl b,u=>u=Value.bool b
 |.int i,u=>∃t,u=Value.int i t
 |.str x,u=>∃t,u=Value.str x t
 |.byt b,u=>∃t,u=Value.bytes b t
 |.flt b,u=>∃t,u=Value.float b t
 |.ref a,u=>u=Value.ref a
 |.ty n,u=>u=Value.type n
abbrev Vals:List V->List Value->Prop:=Paired RelV
def Vals.length{xs:List V}{us:List Value}(r:Vals xs us):xs.length=us.length:=Paired.length r
def Vals.get:∀{xs:List V} {us:List Value} {i:Nat} {x:V},Vals xs us->xs[i]?=some x->∃u,us[i]?=some u/\RelV x u
 |_,_,_,_,.nil,e=>by simp at e
 |_,_,0,_,.cons r _,e=>by simp at e;subst e;exact⟨_,rfl,r⟩
 |_,_,i+1,x,.cons _ t,e=>by
  obtain⟨u,h1,h2⟩:=Vals.get (i:=i) (x:=x) t (by simpa using e);exact⟨u,by simpa using h1,h2⟩
def Vals.set{x:V}{u:Value}(r:RelV x u):∀{xs:List V} {us:List Value} (i:Nat),Vals xs us->Vals (xs.set i x) (us.set i u)
 |_,_,_,.nil=>.nil
 |_,_,0,.cons _ t=>.cons r t
 |_,_,i+1,.cons q t=>.cons q (Vals.set r i t)
def Vals.append:∀{xs ys:List V} {us ws:List Value},Vals xs us->Vals ys ws->Vals (xs++ys) (us++ws)
 |_,_,_,_,.nil,s=>s
 |_,_,_,_,.cons r t,s=>.cons r (Vals.append t s)
def Vals.take:∀{xs:List V} {us:List Value} (n:Nat),Vals xs us->Vals (xs.take n) (us.take n)
 |_,_,0,_=>.nil
 |_,_,_+1,.nil=>.nil
 |_,_,n+1,.cons r t=>.cons r (Vals.take n t)
def Vals.drop:∀{xs:List V} {us:List Value} (n:Nat),Vals xs us->Vals (xs.drop n) (us.drop n)
 |_,_,0,r=>r
 |_,_,_+1,.nil=>.nil
 |_,_,n+1,.cons _ t=>Vals.drop n t
def RelO:Option V->Option Value->Prop
 |some v,some u=>RelV v u
 |none,none=>True
 |_,_=>False
def KV{κ:Type}:List (κ×V)->List (κ×Value)->Prop:=Paired λ(p:κ×V) (q:κ×Value)=>p.1=q.1/\RelV p.2 q.2
def kV:Key->V
 |.inl i=>.int i
 |.inr x=>.str x
inductive HO where
 /-- a list -/
 |lst (xs:List V)
 /-- a tuple (never changes) -/
 |tup (xs:List V)
 /-- a dict whose keys are ints and texts;one whose keys are tuples of ints and texts (the empty one is both) -/
 |dK (kvs:List (Key×V))|dT (kvs:List (List Key×V))
 /-- a set of ints: its members,its size -/
 |set (S:Int->Bool) (n:Nat)
 /-- an instance of the class at C,its dict at dx,its attributes -/
 |ins (C dx:Addr) (fs:List (Str×V))
 /-- the dict of the instance at x -/
 |own (x:Addr)
 /-- the dict of an exception -/
 |xd (fs:List (Str×V))
 /-- a bound method,f of x -/
 |met (f x:Addr)
 /-- a range object lo,lo+1,.. below hi -/
 |rng (lo hi:Int)
 /-- a thing that is known to the object (the script;a dict while a loop walks it): read,never written while it is so -/
 |frz (o:Obj) (u:HO)
 /-- a code object's table -/
 |tbl (ps:Array Value)
 /-- any other thing,by what is true of its one object (a def of one's own: SetO a S n:=HO.ext λh=>..) -/
 |ext (φ:Heap->Prop)
abbrev Hp:=Addr->Option HO
def upd(H:Hp)(a:Addr)(o:HO):Hp:=λb=>if b=a then some o else H b
def Ad{H:Hp}{a:Addr}{o:HO}:upd H a o a=some o:=by unfold upd;rw[if_pos rfl]
def AW{H:Hp}{a b:Addr}{o:HO}(h:b≠a):upd H a o b=H b:=by unfold upd;rw[if_neg h]
def aS{H:Hp}{a b:Addr}{o u:HO}(h:H a=some o)(h':H b=some u)(d:o≠u):a≠b:=by
 intro e;subst e;rw[h]at h';exact d (Option.some.inj h')
def Am{H:Hp}{a b:Addr}{o:HO}(h:H a=some o)(h':H b=none):a≠b:=by
 intro e;subst e;rw[h]at h';cases h'
def IsTupD(h:Heap)(a:Addr)(items:Array Value):Prop:=∃o,h.get? a=some o/\o.cls=.type "tuple"/\(∃n,o.data=.seq items n)/\o.dict=none
def IsTupD.t{h:Heap}{a:Addr}{items:Array Value}(x:IsTupD h a items):IsTup h a items:=let ⟨o,e,c,d,_⟩:=x;⟨o,e,c,d⟩
def IsTupD.new(h:Heap)(items:Array Value):IsTupD (h.push { cls:=.type "tuple",data:=.seq items }) h.objs.size items:=⟨_,Heap.get?_push_size _ rfl,rfl,⟨_,rfl⟩,rfl⟩
section
variable(P:Program)(w:World)
def ObjOk(H:Hp)(h:Heap)(a:Addr):HO->Prop
 |.lst xs=>xs.length<=sizeLine/\∃(its:List Value) (n:Nat),Vals xs its/\h.get? a=some { cls:=.type "list",data:=.seq its.toArray n }
 |.tup xs=>xs.length<=sizeLine/\∃its:List Value,Vals xs its/\IsTupD h a its.toArray
 |.dK kvs=>kvs.length<=sizeLine/\(a==sysModules)=false/\∃vs,KV kvs vs/\h.DictOf (BF P w) a vs
 |.dT kvs=>kvs.length<=sizeLine/\(a==sysModules)=false/\∃xs:List (List Key×Addr×Value),
  Paired (λ(p:List Key×V) (q:List Key×Addr×Value)=>p.1=q.1/\H q.2.1=some (.tup (p.1.map kV))/\RelV p.2 q.2.2) kvs xs /\
  ∃o es ep,h.get? a=some o/\o.ExactDict/\o.data=.dict es ep/\es.toList=xs.map (entryOfKey (tupleKind (BF P w)))/\(xs.map (·.1)).Nodup
 |.set S n=>h.SetOf (intKind P w) a S n
 |.ins C dx fs=>H dx=some (.own a)/\fs.length<=1000/\dx≠a/\h.get? a=some (PySem.W.instObj C dx)/\
  ∃mA,h.Ns1 dx mA/\(∀f,RelO (fs.lookup f) (mA f))/\PySem.Within mA (fs.map (·.1))
 |.own _=>∃o,h.get? a=some o
 |.xd fs=>∃mA,h.Ns1 a mA/\∀f,RelO (fs.lookup f) (mA f)
 |.rng lo hi=>∃t u v,h.get? a=some { cls:=.type "range",data:=.fields #[.int lo t,.int hi u,.int 1 v] }
 |.frz o u=>h.get? a=some o/\ObjOk H h a u
 |.tbl ps=>h.get? a=some { cls:=.none,data:=.fields ps }
 |.met f x=>h.get? a=some (PySem.W.methodObj (.ref f) (.ref x))
 |.ext φ=>φ h/\(∃o,h.get? a=some o)/\∀h1 h2:Heap,φ h1->(∀o,h1.get? a=some o->h2.get? a=some o)->φ h2
def HOk(H:Hp)(h:Heap):Prop:=∀a o,H a=some o->ObjOk P w H h a o
end
section
variable{P:Program}{w:World}{H H':Hp}{h h':Heap}{a:Addr}{o:HO}
def ObjOk.lt(x:ObjOk P w H h a o):a<h.objs.size:=by
 cases o with
 |lst xs=>obtain⟨_,_,_,_,e⟩:=x;exact Heap.lt_size e
 |tup xs=>obtain⟨_,_,_,o,e,_⟩:=x;exact Heap.lt_size e
 |dK kvs=>obtain⟨_,_,_,_,o,_,_,e,_⟩:=x;exact Heap.lt_size e
 |dT kvs=>obtain⟨_,_,_,_,o,_,_,e,_⟩:=x;exact Heap.lt_size e
 |set S n=>obtain⟨o,_,_,_,e,_⟩:=x;exact Heap.lt_size e
 |ins C dx fs=>obtain⟨_,_,_,e,_⟩:=x;exact Heap.lt_size e
 |own y=>obtain⟨_,e⟩:=x;exact Heap.lt_size e
 |xd fs=>obtain⟨_,⟨_,_,_,e,_⟩,_⟩:=x;exact Heap.lt_size e
 |rng lo hi=>obtain⟨_,_,_,e⟩:=x;exact Heap.lt_size e
 |frz ob u=>obtain⟨e,_⟩:=x;exact Heap.lt_size e
 |tbl ps=>exact Heap.lt_size (show h.get? a=some _ from x)
 |met f y=>exact Heap.lt_size (show h.get? a=some _ from x)
 |ext φ=>obtain⟨_,⟨_,e⟩,_⟩:=x;exact Heap.lt_size e
def Paired.mapP{α β:Type}{F G:α->β->Prop}:∀{l₁:List α} {l₂:List β},Paired F l₁ l₂->(∀a b,F a b->G a b)->Paired G l₁ l₂
 |_,_,.nil,_=>.nil
 |_,_,.cons r t,f=>.cons (f _ _ r) (Paired.mapP t f)
def ObjOk.stay(x:ObjOk P w H h a o)(k:∀b u,(b=a∨H b=some (.own a))->h.get? b=some u->h'.get? b=some u)
 (ho:∀b,H b=some (.own a)->H' b=some (.own a)) (ht:∀b xs,H b=some (.tup xs)->H' b=some (.tup xs)):ObjOk P w H' h' a o:=by
 induction o with
 |lst xs=>obtain⟨z,its,n,r,e⟩:=x;exact⟨z,its,n,r,k _ _ (.inl rfl) e⟩
 |tup xs=>obtain⟨z,its,r,ob,e,c⟩:=x;exact⟨z,its,r,ob,k _ _ (.inl rfl) e,c⟩
 |dK kvs=>obtain⟨z,y,vs,r,ob,es,ep,e,c⟩:=x;exact⟨z,y,vs,r,ob,es,ep,k _ _ (.inl rfl) e,c⟩
 |dT kvs=>
  obtain⟨z,y,xs,r,ob,es,ep,e,c⟩:=x;exact⟨z,y,xs,Paired.mapP r λp q z=>⟨z.1,ht _ _ z.2.1,z.2.2⟩,ob,es,ep,k _ _ (.inl rfl) e,c⟩
 |set S n=>obtain⟨ob,es,ep,t,e,c⟩:=x;exact⟨ob,es,ep,t,k _ _ (.inl rfl) e,c⟩
 |ins C dx fs=>
  obtain⟨d,z,ne,e,mA,⟨od,es,ep,e2,c⟩,r⟩:=x;exact⟨ho _ d,z,ne,k _ _ (.inl rfl) e,mA,⟨od,es,ep,k _ _ (.inr d) e2,c⟩,r⟩
 |own y=>obtain⟨ob,e⟩:=x;exact⟨ob,k _ _ (.inl rfl) e⟩
 |xd fs=>obtain⟨mA,⟨od,es,ep,e,c⟩,r⟩:=x;exact⟨mA,⟨od,es,ep,k _ _ (.inl rfl) e,c⟩,r⟩
 |rng lo hi=>obtain⟨t,u,v,e⟩:=x;exact⟨t,u,v,k _ _ (.inl rfl) e⟩
 |frz ob u ih=>obtain⟨e,q⟩:=x;exact⟨k _ _ (.inl rfl) e,ih q⟩
 |tbl ps=>
  have e:h.get? a=some { cls:=.none,data:=.fields ps }:=x;show h'.get? a=some { cls:=.none,data:=.fields ps };exact k a _ (.inl rfl) e
 |met f y=>
  have e:h.get? a=some (PySem.W.methodObj (.ref f) (.ref y)):=x;show h'.get? a=some (PySem.W.methodObj (.ref f) (.ref y));exact k a _ (.inl rfl) e
 |ext φ=>obtain⟨p,⟨o,e⟩,st⟩:=x;exact⟨st _ _ p λo q=>k _ _ (.inl rfl) q,⟨o,k _ _ (.inl rfl) e⟩,st⟩
def HOk.lt(x:HOk P w H h)(e:H a=some o):a<h.objs.size:=(x a o e).lt
def HOk.fresh(x:HOk P w H h)(e:h.objs.size<=a):H a=none:=by
 cases q:H a with
 |none=>rfl
 |some u=>exact absurd (lt_of_lt_of_le (x.lt q) e) (lt_irrefl _)
def HOk.kept(x:HOk P w H h)(k:∀b u,h.get? b=some u->h'.get? b=some u):HOk P w H h':=λa o e=>
 (x a o e).stay (λb u _ q=>k b u q) (λ_ q=>q) λ_ _ q=>q
def HOk.laid(x:HOk P w H h)(k:∀b u,h.get? b=some u->h'.get? b=some u)(hp:h.objs.size<=a)(new:ObjOk P w (upd H a o) h' a o):HOk P w (upd H a o) h':=λb u e=>by
 have hn:=x.fresh hp;by_cases hb:b=a
 .subst hb;rw[Ad]at e;cases e;exact new
 .rw[AW hb]at e;exact(x b u e).stay (λc v _ q=>k c v q) (λc q=>by rw[AW (Am q hn)];exact q) λc xs q=>by rw[AW (Am q hn)];exact q
end
def Rd(H:Hp)(a:Addr)(u:HO):Prop:=H a=some u∨∃o,H a=some (.frz o u)
def Rd.ok{P:Program}{w:World}{H:Hp}{h:Heap}{a:Addr}{u:HO}(r:Rd H a u)(x:HOk P w H h):ObjOk P w H h a u:=by
 rcases r with r|⟨o,r⟩
 .exact x a u r
 .obtain⟨_,q⟩:=x a _ r;exact q
def Mut:Option HO->Prop
 |some (.lst _)=>True
 |some (.dK _)=>True
 |some (.dT _)=>True
 |some (.set _ _)=>True
 |some (.ins _ _ _)=>True
 |some (.ext _)=>True
 |_=>False
section
variable{P:Program}{w:World}{H:Hp}{h h':Heap}{x e:Addr}{o':HO}
def HOk.write(ok:HOk P w H h)(mu:Mut (H x))(he:e=x∨H e=some (.own x))(k:∀b u,b≠e->h.get? b=some u->h'.get? b=some u)(heo:∃u,h'.get? e=some u)
 (new:ObjOk P w (upd H x o') h' x o'):HOk P w (upd H x o') h':=λb u q=>by
 have nown:∀c y,H c=some (.own y)->c≠x:=λc y r z=>by subst z;rw[r]at mu;exact mu
 have ntup:∀c xs,H c=some (.tup xs)->c≠x:=λc xs r z=>by subst z;rw[r]at mu;exact mu
 by_cases hb:b=x
 .subst hb;rw[Ad]at q;cases q;exact new
 .rw[AW hb]at q;by_cases hbe:b=e
  .have q':H b=some (.own x):=by
    rcases he with z|z
    .exact absurd (hbe.trans z) hb
    .rw[hbe];exact z
   rw[q]at q';cases q';obtain⟨v,hv⟩:=heo;exact⟨v,by rw[hbe];exact hv⟩
  .refine(ok b u q).stay (λc v hc r=>k c v ?_ r) (λc r=>by rw[AW (nown c b r)];exact r) λc xs r=>by rw[AW (ntup c xs r)];exact r
   rcases hc with rfl|hc
   .exact hbe
   .rintro rfl;rcases he with z|z
    .exact nown c b hc z
    .rw[hc]at z;cases z;exact hb rfl
end
structure Un(fs ex:List Addr)(H H':Hp)(h h':Heap):Prop where
 keep:∀b o,h.get? b=some o->H b=none->b∉fs->b∉ex->h'.get? b=some o
 slot:∀b o,h.get? b=some o->H b=none->b∈fs->b∉ex->∃sl,h'.get? b=some { o with slots:=sl }
 free:∀b o,h.get? b=some o->H b=none->b∉ex->H' b=none
 there:∀b o,h.get? b=some o->b∉ex->∃o',h'.get? b=some o'
 tups:∀b xs,H b=some (.tup xs)->H' b=some (.tup xs)
 frzs:∀b o u,H b=some (.frz o u)->H' b=some (.frz o u)
 tbls:∀b ps,H b=some (.tbl ps)->∃more,H' b=some (.tbl (ps++more))
section
variable{fs fs' ex ex':List Addr}{H H1 H2:Hp}{h h1 h2 h':Heap}{a x e:Addr}{o:HO}
def Un.any(u:Un fs ex H H1 h h1){b:Addr}{ob:Obj}(q:h.get? b=some ob)(n:H b=none)(hx:b∉ex):∃sl,h1.get? b=some { ob with slots:=sl }:=by
 by_cases hb:b∈fs
 .exact u.slot b ob q n hb hx
 .exact⟨ob.slots,u.keep b ob q n hb hx⟩
def Un.kept(k:∀b u,h.get? b=some u->h'.get? b=some u):Un fs ex H H h h':=
 ⟨λb ob q _ _ _=>k b ob q,λb ob q _ _ _=>⟨ob.slots,k b ob q⟩,λ_ _ _ n _=>n,λb ob q _=>⟨ob,k b ob q⟩,λ_ _ q=>q,λ_ _ _ q=>q,λ_ ps q=>⟨#[],by rw[q];simp⟩⟩
def Un.refl:Un fs ex H H h h:=Un.kept λ_ _ q=>q
def Un.laid(k:∀b u,h.get? b=some u->h'.get? b=some u)(hp:h.objs.size<=a)(hn:H a=none):Un fs ex H (upd H a o) h h' where
 keep:=λb u q _ _ _=>k b u q
 slot:=λb u q _ _ _=>⟨u.slots,k b u q⟩
 free:=λb u q n _=>by rw[AW (ne_of_lt (lt_of_lt_of_le (Heap.lt_size q) hp))];exact n
 there:=λb u q _=>⟨u,k b u q⟩
 tups:=λb xs q=>by rw[AW (Am q hn)];exact q
 frzs:=λb u xs q=>by rw[AW (Am q hn)];exact q
 tbls:=λb ps q=>⟨#[],by rw[AW (Am q hn),q];simp⟩
def Un.write(mu:Mut (H x))(he:e=x∨H e=some (.own x))(k:∀b u,b≠e->h.get? b=some u->h'.get? b=some u)(heo:∃u,h'.get? e=some u):Un fs ex H (upd H x o) h h':=by
 have hx:∀b,H b=none->b≠x:=λb n z=>by subst z;rw[n]at mu;exact mu
 have hb:∀b,H b=none->b≠e:=λb n z=>by
  subst z;rcases he with r|r
  .exact hx b n r
  .rw[n]at r;cases r
 have hm:∀b u,H b=some u->¬ Mut (some u)->b≠x:=λb u q nm z=>by subst z;rw[q]at mu;exact nm mu
 refine⟨λb u q n _ _=>k b u (hb b n) q,λb u q n _ _=>⟨u.slots,k b u (hb b n) q⟩,λb u q n _=>by rw[AW (hx b n)];exact n,λb u q _=>?_,
  λb xs q=>by rw[AW (hm b _ q λz=>z)];exact q,λb u xs q=>by rw[AW (hm b _ q λz=>z)];exact q,λb ps q=>⟨#[],by rw[AW (hm b _ q λz=>z),q];simp⟩⟩
 by_cases hbe:b=e
 .subst hbe;exact heo
 .exact⟨u,k b u hbe q⟩
end
def trk(h:Heap)(H:Hp):List Addr:=(List.range h.objs.size).filter λa=>(H a).isSome
def G9(h:Heap)(H:Hp):Heap:=PySem.W.hideAll h (trk h H)
def Q3(h:Heap)(H:Hp):(G9 h H).objs.size=h.objs.size:=PySem.W.hideAll_size _ _
def SW{h:Heap}{H:Hp}{b:Addr}{o:Obj}(e:h.get? b=some o)(n:H b=none):(G9 h H).get? b=some o:=
 PySem.W.hideAll_get _ e λhm=>by
  have q:(H b).isSome=true:=(mem_filter.mp hm).2;rw[n]at q;simp at q
def Vl{h:Heap}{H:Hp}{b:Addr}{o:Obj}(e:(G9 h H).get? b=some o):h.get? b=some o/\H b=none:=by
 have e':h.get? b=some o:=PySem.W.of_hideAll (trk h H) e;refine⟨e',?_⟩;cases q:H b with
 |none=>rfl
 |some x=>
  have hm:b∈trk h H:=mem_filter.mpr ⟨List.mem_range.mpr (Heap.lt_size e'),by simp[q]⟩;have z:(G9 h H).get? b=none:=PySem.W.hideAll_none (trk h H) hm;rw[z]at e;cases e
def WV(g h:Heap)(L:Addr):List (Addr×Obj):=(List.range h.objs.size).filterMap λa=>if a=L∨(g.get? a).isSome=true then none else(h.get? a).map λo=>(a,o)
def rest(g h:Heap)(L d:Addr):List (Addr×Obj):=(WV g h L).filter λp=>decide (p.1≠d)
structure Mod(K:PySem.W.Frag)(mg:Str->Option Value)(base:Heap):Prop where
 kin:K.In base
 glob:base.Ns mainGlobals mg
 blt:∃mb,base.Ns builtinsNs mb/\∀x:Str,x≠"__name__"->mb x=bootBuiltins x
 nolimit:base.NoLimit
structure Cx where
 prog:Program
 w:World
 K:PySem.W.Frag
 mg:Str->Option Value
 base:Heap
 A:Around
 N:List Str
 s₀:Shared
 H₀:Hp
 env:Env
 outer:List Env
 stack:List Env
 ex:List Addr
 fn:Str->Bool
 calm:Bool
 pn:List (Addr×Obj)
 xe:Value->Shared->Prop
def frs(l:List Env):List Addr:=l.filterMap (·.frame)
abbrev Cx.fs(X:Cx):List Addr:=frs X.outer
def Vis(sc:Scope)(x:Str):Prop:=sc.names.lookup x=some .local∨sc.names.lookup x=some .cell∨sc.names.lookup x=some .free
def Loc(sc:Scope)(x:Str):Prop:=sc.names.lookup x=some .local∨sc.names.lookup x=some .cell
def bh(env:Env)(h:Heap)(m:Str->Option Value)(x:Str)(u:Value):Prop:=
 (env.kindOf x=some .local/\m x=some u)∨((env.kindOf x=some .cell∨env.kindOf x=some .free)/\∃c,env.cells.lookup x=some c/\h.IsCell c (some u))
structure Cx.Ok(X:Cx):Prop where
 mod:Mod X.K X.mg X.base
 kind:X.env.scope.kind=.function
 glob:X.env.globals=mainGlobals
 blt:X.env.builtins=builtinsNs
 above:X.s₀.heap.objs.size<=X.env.locals
 inj:∀x y c,X.env.cells.lookup x=some c->X.env.cells.lookup y=some c->x=y
 has:∀x,(X.env.kindOf x=some .cell∨X.env.kindOf x=some .free)->∃c,X.env.cells.lookup x=some c
 cab:∀x c,X.fn x=true->X.env.cells.lookup x=some c->X.s₀.heap.objs.size<=c
 hd:X.calm=true->X.A.handled=none
 frames:X.A.frames=some X.stack
 stk:X.stack=X.outer∨(X.stack=X.env::X.outer/\X.env.frame=some X.env.locals)
 exf:∀b∈X.ex,b≠X.env.locals/\∀x c,X.env.cells.lookup x=some c->c≠b
 bs:∀b o,X.base.get? b=some o->X.s₀.heap.get? b=some o/\X.H₀ b=none
 bsz:X.base.objs.size<=X.s₀.heap.objs.size
 noex:∀b o,X.base.get? b=some o->b∉X.ex
 exfs:∀b∈X.ex,b∉X.fs
 funs:X.s₀.heap.FunFrames X.base X.outer
 frf:∀b∈X.fs,X.H₀ b=none
structure Inv(X:Cx)(pins:List (Addr×Obj))(σ:List (Option V))(H:Hp)(s:Shared):Prop where
 ok:X.Ok
 os:s.os=X.s₀.os
 bare:AllBare s.gens
 base:Un X.fs X.ex X.H₀ H X.s₀.heap s.heap
 loc:∃m,s.heap.Ns X.env.locals m/\∀(i:Nat) (x:Str) (v:V),X.N[i]?=some x->σ[i]?=some (some v)->Vis X.env.scope x->∃u,RelV v u/\bh X.env s.heap m x u
 cell:∀x c,X.env.cells.lookup x=some c->∃v,s.heap.IsCell c v
 free:H X.env.locals=none
 freeC:∀x c,X.env.cells.lookup x=some c->H c=none
 pin:∀p∈X.pn++pins,s.heap.get? p.1=some p.2/\H p.1=none/\p.1≠X.env.locals/\p.1∉X.fs/\∀v,p.2.data≠.cell v
 hok:HOk X.prog X.w H s.heap
 len:σ.length=X.N.length
section
variable{X:Cx}{pins:List (Addr×Obj)}{σ:List (Option V)}{H H':Hp}{s:Shared}{h':Heap}
def Cx.Ok.nofr(ok:X.Ok){b:Addr}{o:Obj}(e:X.base.get? b=some o):b∉X.fs:=λhb=>by
 have:=(ok.funs.mem hb).1;rw[e]at this;cases this
def Inv.bs(I:Inv X pins σ H s):∀b o,X.base.get? b=some o->s.heap.get? b=some o/\H b=none:=λb o e=>
 ⟨I.base.keep b o (I.ok.bs b o e).1 (I.ok.bs b o e).2 (I.ok.nofr e) (I.ok.noex b o e),I.base.free b o (I.ok.bs b o e).1 (I.ok.bs b o e).2 (I.ok.noex b o e)⟩
def Inv.bk(I:Inv X pins σ H s):∀b o,X.base.get? b=some o->s.heap.get? b=some o:=λb o e=>(I.bs b o e).1
def Inv.mod(I:Inv X pins σ H s):Mod X.K X.mg X.base:=I.ok.mod
def Inv.kIn(I:Inv X pins σ H s):X.K.In s.heap:=I.ok.mod.kin.keeps I.bk
def Inv.lt(I:Inv X pins σ H s):X.env.locals<s.heap.objs.size:=let ⟨_,hn,_⟩:=I.loc;hn.lt
def Inv.sz(I:Inv X pins σ H s):X.s₀.heap.objs.size<=s.heap.objs.size:=le_trans I.ok.above (le_of_lt I.lt)
def Inv.nofs(I:Inv X pins σ H s){a:Addr}(h:s.heap.objs.size<=a):a∉X.fs:=λhb=>by
 obtain⟨_,o,ho,_⟩:=I.ok.funs.mem hb;exact absurd (lt_of_lt_of_le (Heap.lt_size ho) (le_trans I.sz h)) (lt_irrefl _)
def Inv.cne(I:Inv X pins σ H s):∀x c,X.env.cells.lookup x=some c->c≠X.env.locals:=λx c e z=>by
 obtain⟨v,o,ho,hd⟩:=I.cell x c e;obtain⟨m,⟨o',es,ep,ho',hd',_⟩,_⟩:=I.loc;rw[z,ho']at ho;cases ho;rw[hd']at hd;cases hd
def Inv.funs(I:Inv X pins σ H s):s.heap.FunFrames X.base X.outer:=by
 have all:∀(l:List Env),(∀b∈frs l,b∈X.fs)->X.s₀.heap.FunFrames X.base l->s.heap.FunFrames X.base l:=by
  intro l
  induction l with
  |nil=>intro _ _;trivial
  |cons env r ih=>
   intro hs hl;obtain⟨hk,⟨L,o,hf,hn,ho,hd⟩,hr⟩:=hl;have hL:L∈X.fs:=hs L (by unfold frs;rw[filterMap_cons,hf];exact mem_cons_self);obtain⟨sl,e⟩:=I.base.slot L o ho (I.ok.frf L hL) hL λz=>I.ok.exfs L z hL;exact⟨hk,⟨L,_,hf,hn,e,hd⟩,ih (λb hb=>hs b (by unfold frs;rw[filterMap_cons,hf];exact mem_cons_of_mem _ hb)) hr⟩
 exact all X.outer (λ_ hb=>hb) I.ok.funs
def Inv.stack(I:Inv X pins σ H s):s.heap.FunFrames X.base X.stack:=by
 rcases I.ok.stk with e|⟨e,hf⟩
 .rw[e];exact I.funs
 .rw[e];obtain⟨m,hn,_⟩:=I.loc;refine .cons (by rw[I.ok.kind];decide) hf hn ?_ I.funs;exact Heap.get?_none_of_le (le_trans I.ok.bsz I.ok.above)
def Inv.stkSub(I:Inv X pins σ H s):∀b∈frs X.stack,b∈X.env.locals::X.fs:=λb hb=>by
 rcases I.ok.stk with e|⟨e,hf⟩
 .rw[e]at hb;exact mem_cons_of_mem _ hb
 .rw[e]at hb;unfold frs at hb;rw[filterMap_cons,hf]at hb;exact hb
def Inv.stkFree(I:Inv X pins σ H s):∀b∈frs X.stack,H b=none:=λb hb=>by
 rcases mem_cons.mp (I.stkSub b hb)with e|hb
 .rw[e];exact I.free
 .obtain⟨_,o,ho,_⟩:=I.ok.funs.mem hb;exact I.base.free b o ho (I.ok.frf b hb) λz=>I.ok.exfs b z hb
def Inv.step{g':Array GenState}{t':Nat}{d':Drawn}{ch:List Addr}(I:Inv X pins σ H s)
 (hch:∀b∈ch,(b∈X.ex∨X.s₀.heap.objs.size<=b)/\b≠X.env.locals/\(∀x c,X.env.cells.lookup x=some c->c≠b)/\∀p∈X.pn++pins,p.1≠b)
 (keep:∀b o,b≠X.env.locals->b∉X.fs->b∉ch->s.heap.get? b=some o->H b=none->h'.get? b=some o)
 (slot:∀b o,b≠X.env.locals->b∈X.fs->b∉ch->s.heap.get? b=some o->H b=none->∃sl,h'.get? b=some { o with slots:=sl }) (free:∀b o,b∉ch->s.heap.get? b=some o->H b=none->H' b=none)
 (there:∀b o,b∉ch->s.heap.get? b=some o->∃o',h'.get? b=some o')
 (tups:∀b xs,H b=some (.tup xs)->H' b=some (.tup xs)) (frzs:∀b o u,H b=some (.frz o u)->H' b=some (.frz o u)) (tbls:∀b ps,H b=some (.tbl ps)->∃more,H' b=some (.tbl (ps++more)))
 (ns:∀m,s.heap.Ns X.env.locals m->h'.Ns X.env.locals m) (hok:HOk X.prog X.w H' h') (hg:AllBare g'):
 Inv X pins σ H' { s with heap:=h',gens:=g',drawn:=d',toks:=t' }:=by
 have neL:∀b o,X.s₀.heap.get? b=some o->b≠X.env.locals:=λb o e=>ne_of_lt (lt_of_lt_of_le (Heap.lt_size e) I.ok.above);have neC:∀b o,X.s₀.heap.get? b=some o->b∉X.ex->b∉ch:=λb o e hx hb=>by
  rcases(hch b hb).1 with z|z
  .exact hx z
  .exact absurd (lt_of_lt_of_le (Heap.lt_size e) z) (lt_irrefl _)
 have cellK:∀x c,X.env.cells.lookup x=some c->∀v,s.heap.IsCell c v->h'.IsCell c v:=λx c e v ⟨o,ho,hd⟩=>by
  have nch:c∉ch:=λz=>(hch c z).2.2.1 x c e rfl;by_cases hc:c∈X.fs
  .obtain⟨sl,q⟩:=slot c o (I.cne x c e) hc nch ho (I.freeC x c e);exact⟨_,q,hd⟩
  .exact⟨o,keep c o (I.cne x c e) hc nch ho (I.freeC x c e),hd⟩
 refine⟨I.ok,I.os,hg,⟨λb o e n hb hx=>?_,λb o e n hb hx=>?_,λb o e n hx=>?_,λb o e hx=>?_,λb xs e=>tups b xs (I.base.tups b xs e),λb o xs e=>frzs b o xs (I.base.frzs b o xs e),λb ps e=>?_⟩,?_,λx c e=>?_,?_,λx c e=>?_,λp hp=>?_,hok,I.len⟩
 .exact keep b o (neL b o e) hb (neC b o e hx) (I.base.keep b o e n hb hx) (I.base.free b o e n hx)
 .obtain⟨sl,e1⟩:=I.base.slot b o e n hb hx;obtain⟨sl',e2⟩:=slot b _ (neL b o e) hb (neC b o e hx) e1 (I.base.free b o e n hx);exact⟨sl',e2⟩
 .obtain⟨o',e1⟩:=I.base.there b o e hx;exact free b o' (neC b o e hx) e1 (I.base.free b o e n hx)
 .obtain⟨o',e1⟩:=I.base.there b o e hx;exact there b o' (neC b o e hx) e1
 .obtain⟨m1,e1⟩:=I.base.tbls b ps e;obtain⟨m2,e2⟩:=tbls b _ e1;exact⟨m1++m2,by rw[e2,Array.append_assoc]⟩
 .obtain⟨m,hn,hl⟩:=I.loc;refine⟨m,ns m hn,λi x v e1 e2 e3=>?_⟩;obtain⟨u,r,l⟩:=hl i x v e1 e2 e3;refine⟨u,r,?_⟩;rcases l with l|⟨k,c,e,z⟩
  .exact .inl l
  .exact .inr ⟨k,c,e,cellK x c e _ z⟩
 .obtain⟨v,z⟩:=I.cell x c e;exact⟨v,cellK x c e v z⟩
 .obtain⟨m,⟨o,_,_,ho,_⟩,_⟩:=I.loc;exact free _ o (λz=>(hch _ z).2.1 rfl) ho I.free
 .obtain⟨v,o,ho,hd⟩:=I.cell x c e;exact free c o (λz=>(hch c z).2.2.1 x c e rfl) ho (I.freeC x c e)
 .obtain⟨e,n,ne,nf,d⟩:=I.pin p hp;have nch:p.1∉ch:=λz=>(hch p.1 z).2.2.2 p hp rfl;exact⟨keep p.1 p.2 ne nf nch e n,free p.1 p.2 nch e n,ne,nf,d⟩
def Inv.un{t':Nat}(I:Inv X pins σ H s)(u:Un X.fs [] H H' s.heap h')(hok:HOk X.prog X.w H' h'):Inv X pins σ H' { s with heap:=h',toks:=t' }:=by
 obtain⟨m,⟨o,es,ep,ho,r⟩,_⟩:=id I.loc;obtain⟨sl,hL⟩:=u.any ho I.free (by simp);exact I.step (g':=s.gens) (d':=s.drawn) (ch:=[]) (λ_ z=>nomatch z) (λb o _ hb _ e n=>u.keep b o e n hb (by simp)) (λb o _ hb _ e n=>u.slot b o e n hb (by simp)) (λb o _ e n=>u.free b o e n (by simp)) (λb o _ e=>u.there b o e (by simp)) u.tups u.frzs u.tbls (λm' hm=>by
  obtain⟨o',es',ep',ho',r'⟩:=hm;rw[ho]at ho';cases ho';exact⟨_,es',ep',hL,r'⟩) hok I.bare
def Inv.call{g':Array GenState}{t':Nat}{d':Drawn}{ch:List Addr}(I:Inv X pins σ H s)(u:Un (frs X.stack) ch H H' s.heap h')(hok:HOk X.prog X.w H' h')(hg:AllBare g')
 (hch:∀b∈ch,(b∈X.ex∨X.s₀.heap.objs.size<=b)/\b≠X.env.locals/\(∀x c,X.env.cells.lookup x=some c->c≠b)/\∀p∈X.pn++pins,p.1≠b):
 Inv X pins σ H' { s with heap:=h',gens:=g',drawn:=d',toks:=t' }:=by
 obtain⟨m,⟨o,es,ep,ho,r⟩,_⟩:=id I.loc;obtain⟨sl,hL⟩:=u.any ho I.free λz=>(hch _ z).2.1 rfl;exact I.step (ch:=ch) hch (λb o hL hb hc e n=>u.keep b o e n (λz=>(mem_cons.mp (I.stkSub b z)).elim hL hb) hc) (λb o _ _ hc e n=>u.any e n hc) (λb o hc e n=>u.free b o e n hc) (λb o hc e=>u.there b o e hc) u.tups u.frzs u.tbls (λm' hm=>by
  obtain⟨o',es',ep',ho',r'⟩:=hm;rw[ho]at ho';cases ho';exact⟨_,es',ep',hL,r'⟩) hok hg
def Inv.turned{t':Nat}{it:Addr}(I:Inv X pins σ H s)(k:∀b o,b≠it->s.heap.get? b=some o->h'.get? b=some o)(hn:H it=none)(hL:it≠X.env.locals)
 (h1:it∈X.ex∨X.s₀.heap.objs.size<=it) (h2:∀x c,X.env.cells.lookup x=some c->c≠it) (h3:∀p∈X.pn++pins,p.1≠it):Inv X pins σ H { s with heap:=h',toks:=t' }:=by
 have nit:∀b u,H b=some u->b≠it:=λb u e z=>by rw[z,hn]at e;cases e
 refine I.step (g':=s.gens) (d':=s.drawn) (ch:=[it]) (λb hb=>?_) (λb o _ _ hc e _=>k b o (λz=>hc (by simp[z])) e) (λb o _ _ hc e _=>⟨o.slots,k b o (λz=>hc (by simp[z])) e⟩) (λ_ _ _ _ n=>n)
  (λb o hc e=>⟨o,k b o (λz=>hc (by simp[z])) e⟩) (λ_ _ e=>e) (λ_ _ _ e=>e) (λb ps e=>⟨#[],by rw[e];simp⟩) (λm hm=>?_) (λb u e=>?_) I.bare
 .have e:b=it:=by simpa using hb
  subst e;exact⟨h1,hL,h2,h3⟩
 .obtain⟨o,es,ep,ho,r⟩:=hm;exact⟨o,es,ep,k _ o (Ne.symm hL) ho,r⟩
 .refine(I.hok b u e).stay (λc v hc q=>k c v ?_ q) (λ_ q=>q) λ_ _ q=>q;rcases hc with z|z
  .rw[z];exact nit b u e
  .exact nit c _ z
def Inv.tok(I:Inv X pins σ H s)(t:Nat):Inv X pins σ H { s with toks:=t }:=I.un (h':=s.heap) (t':=t) Un.refl I.hok
def Inv.kept{t':Nat}(I:Inv X pins σ H s)(k:∀b u,s.heap.get? b=some u->h'.get? b=some u):Inv X pins σ H { s with heap:=h',toks:=t' }:=I.un (Un.kept k) (I.hok.kept k)
def Inv.laid{a:Addr}{o:HO}{t':Nat}(I:Inv X pins σ H s)(k:∀b u,s.heap.get? b=some u->h'.get? b=some u)(hp:s.heap.objs.size<=a)(new:ObjOk X.prog X.w (upd H a o) h' a o):
 Inv X pins σ (upd H a o) { s with heap:=h',toks:=t' }:=I.un (Un.laid k hp (I.hok.fresh hp)) (I.hok.laid k hp new)
def Inv.write{x e:Addr}{o:HO}{t':Nat}(I:Inv X pins σ H s)(mu:Mut (H x))(he:e=x∨H e=some (.own x))(k:∀b u,b≠e->s.heap.get? b=some u->h'.get? b=some u)(heo:∃u,h'.get? e=some u)
 (new:ObjOk X.prog X.w (upd H x o) h' x o):Inv X pins σ (upd H x o) { s with heap:=h',toks:=t' }:=I.un (Un.write mu he k heo) (I.hok.write mu he k heo new)
def Inv.pins_of{pins':List (Addr×Obj)}(I:Inv X pins σ H s)(h:∀p∈pins',s.heap.get? p.1=some p.2/\H p.1=none/\p.1≠X.env.locals/\p.1∉X.fs/\∀v,p.2.data≠.cell v):Inv X pins' σ H s:=
 ⟨I.ok,I.os,I.bare,I.base,I.loc,I.cell,I.free,I.freeC,λp hp=>(mem_append.mp hp).elim (λz=>I.pin p (mem_append_left _ z)) (h p),I.hok,I.len⟩
def La{N:List Str}(hN:N.Nodup){i j:Nat}{x:Str}(a:N[i]?=some x)(b:N[j]?=some x):i=j:=by
 obtain⟨h1,e1⟩:=List.getElem?_eq_some_iff.mp a;obtain⟨h2,e2⟩:=List.getElem?_eq_some_iff.mp b;exact(List.getElem_inj hN).mp (e1.trans e2.symm)
def GQ{M:Model}{A:Around}{E:Value->Shared->Prop}{i:Nat}{x:Str}{v:V}{u:Value}{Q:Unit->Shared->Prop}(I:Inv X pins σ H s)(hN:X.N.Nodup)(hi:X.N[i]?=some x)(hx:Loc X.env.scope x)(r:RelV v u)
 (h:∀s',Inv X pins (σ.set i (some v)) H s'->(∃a,Heap.SameBut a s.heap s'.heap/\(a=X.env.locals∨X.env.cells.lookup x=some a))->Q () s') (hf:X.fn x=true∨X.env.scope.names.lookup x=some .local:=by first|exact .inl rfl|exact .inr rfl|assumption):wpAny M A (storeName X.env x u) Q E s:=by
 obtain⟨m,hn,hl⟩:=id I.loc;have hcls:(X.env.scope.kind==.class||(X.env.scope.kind==.module&&X.env.locals != X.env.globals))=false:=by rw[I.ok.kind];rfl
 have hiσ:i<σ.length:=by rw[I.len];exact(List.getElem?_eq_some_iff.mp hi).1
 have cne:=I.cne;have tracked:∀{a:Addr} {h':Heap},(∃o,s.heap.get? a=some o/\H a=none)->Heap.SameBut a s.heap h'->HOk X.prog X.w H h':=λ{a h'} ha hs b ob e=>by
  obtain⟨_,_,hfree⟩:=ha;refine(I.hok b ob e).stay (λc w' hc q=>(hs.2 c ?_).trans q) (λ_ q=>q) λ_ _ q=>q;rintro rfl;rcases hc with rfl|hc
  .rw[hfree]at e;cases e
  .rw[hfree]at hc;cases hc
 rcases hx with hk|hk
 .refine wpAny_storeName_local hk hn (λh' hn' hs=>?_) hcls;obtain⟨oL,_,_,hoL,_⟩:=id hn;refine h _ ⟨I.ok,I.os,I.bare,⟨λb o e n hb hx=>?_,λb o e n hb hx=>?_,I.base.free,λb o e hx=>?_,I.base.tups,I.base.frzs,I.base.tbls⟩,⟨_,hn',λj y v' e1 e2 e3=>?_⟩,λy c e=>?_,I.free,I.freeC,λp hp=>?_,tracked ⟨oL,hoL,I.free⟩ hs,by simpa using I.len⟩ ⟨_,hs,.inl rfl⟩
  .exact(hs.2 b (ne_of_lt (lt_of_lt_of_le (Heap.lt_size e) I.ok.above))).trans (I.base.keep b o e n hb hx)
  .obtain⟨sl,e1⟩:=I.base.slot b o e n hb hx;exact⟨sl,(hs.2 b (ne_of_lt (lt_of_lt_of_le (Heap.lt_size e) I.ok.above))).trans e1⟩
  .obtain⟨o',e1⟩:=I.base.there b o e hx;exact⟨o',(hs.2 b (ne_of_lt (lt_of_lt_of_le (Heap.lt_size e) I.ok.above))).trans e1⟩
  .by_cases hj:j=i
   .subst hj;rw[hi]at e1;cases e1;rw[List.getElem?_set_self hiσ]at e2;cases e2;exact⟨u,r,.inl ⟨hk,by simp⟩⟩
   .rw[List.getElem?_set_ne (Ne.symm hj)]at e2;obtain⟨u',r',q⟩:=hl j y v' e1 e2 e3;refine⟨u',r',?_⟩;rcases q with⟨k,e⟩|⟨k,c,e,z⟩
    .refine .inl ⟨k,?_⟩;have:y≠x:=λe=>hj (La hN e1 (e ▸ hi));simp[this,e]
    .exact .inr ⟨k,c,e,z.sameBut hs (cne y c e)⟩
  .obtain⟨w',z⟩:=I.cell y c e;exact⟨w',z.sameBut hs (cne y c e)⟩
  .obtain⟨e,n,ne,nf,d⟩:=I.pin p hp;exact⟨(hs.2 p.1 ne).trans e,n,ne,nf,d⟩
 .have hfn:X.fn x=true:=by
   rcases hf with z|z
   .exact z
   .rw[z]at hk;cases hk
  obtain⟨c,hc⟩:=I.ok.has x (.inl hk);obtain⟨w',z⟩:=I.cell x c hc;refine wpAny_storeName_cell I.ok.kind hk hc z (λh' hc' hs=>?_);obtain⟨oc,hoc,hocd⟩:=id z;refine h { s with heap:=h' } ⟨I.ok,I.os,I.bare,⟨λb o e n hb hx=>?_,λb o e n hb hx=>?_,I.base.free,λb o e hx=>?_,I.base.tups,I.base.frzs,I.base.tbls⟩,⟨m,hn.sameBut hs (Ne.symm (cne x c hc)),λj y v' e1 e2 e3=>?_⟩,λy c' e=>?_,I.free,I.freeC,λp hp=>?_,tracked ⟨oc,hoc,I.freeC x c hc⟩ hs,by simpa using I.len⟩ ⟨c,hs,.inr hc⟩
  .exact(hs.2 b (ne_of_lt (lt_of_lt_of_le (Heap.lt_size e) (I.ok.cab x c hfn hc)))).trans (I.base.keep b o e n hb hx)
  .obtain⟨sl,e1⟩:=I.base.slot b o e n hb hx;exact⟨sl,(hs.2 b (ne_of_lt (lt_of_lt_of_le (Heap.lt_size e) (I.ok.cab x c hfn hc)))).trans e1⟩
  .obtain⟨o',e1⟩:=I.base.there b o e hx;exact⟨o',(hs.2 b (ne_of_lt (lt_of_lt_of_le (Heap.lt_size e) (I.ok.cab x c hfn hc)))).trans e1⟩
  .by_cases hj:j=i
   .subst hj;rw[hi]at e1;cases e1;rw[List.getElem?_set_self hiσ]at e2;cases e2;exact⟨u,r,.inr ⟨.inl hk,c,hc,hc'⟩⟩
   .rw[List.getElem?_set_ne (Ne.symm hj)]at e2;obtain⟨u',r',q⟩:=hl j y v' e1 e2 e3;refine⟨u',r',?_⟩;rcases q with q|⟨k,c',e,z'⟩
    .exact .inl q
    .refine .inr ⟨k,c',e,z'.sameBut hs ?_⟩;rintro rfl;exact hj (La hN e1 (I.ok.inj _ _ _ e hc ▸ hi))
  .by_cases hcc:c'=c
   .subst hcc;exact⟨_,hc'⟩
   .obtain⟨w2,z2⟩:=I.cell y c' e;exact⟨w2,z2.sameBut hs hcc⟩
  .obtain⟨e,n,ne,nf,d⟩:=I.pin p hp;refine⟨(hs.2 p.1 ?_).trans e,n,ne,nf,d⟩;intro q;rw[q,hoc]at e;have q':oc=p.2:=Option.some.inj e;exact d w' (by rw[<- q'];exact hocd)
def DE{M:Model}{A:Around}{E:Value->Shared->Prop}{i:Nat}{x:Str}{v:V}{u:Value}{Q:Unit->Shared->Prop}(I:Inv X pins σ H s)(hN:X.N.Nodup)(hi:X.N[i]?=some x)(hx:Loc X.env.scope x)(r:RelV v u)
 (h:∀s',Inv X pins (σ.set i (some v)) H s'->Q () s') (hf:X.fn x=true∨X.env.scope.names.lookup x=some .local:=by first|exact .inl rfl|exact .inr rfl|assumption):wpAny M A (storeName X.env x u) Q E s:=
 GQ I hN hi hx r (λs' I' _=>h s' I') hf
def Inv.call'{s':Shared}{ch:List Addr}(I:Inv X pins σ H s)(ho:s'.os=s.os)(u:Un (frs X.stack) ch H H' s.heap s'.heap)(hok:HOk X.prog X.w H' s'.heap)(hg:AllBare s'.gens)
 (hch:∀b∈ch,(b∈X.ex∨X.s₀.heap.objs.size<=b)/\b≠X.env.locals/\(∀x c,X.env.cells.lookup x=some c->c≠b)/\∀p∈X.pn++pins,p.1≠b):Inv X pins σ H' s':=by
 obtain⟨h',g',d',t',o'⟩:=s';have e:o'=s.os:=ho;subst e;exact I.call (g':=g') (t':=t') (d':=d') u hok hg hch
end
abbrev XK:=Value->Option Addr->Hp->Prop
abbrev St:=List (Option V)
abbrev VK:=V->Hp->Prop
abbrev TE:=St->Hp->VK->Prop
abbrev TT:=St->Hp->(Bool->Hp->Prop)->Prop
abbrev TA:=St->Hp->(List V->Hp->Prop)->Prop
structure Ends where
 nx:St->Hp->Prop
 rt:VK
 bk:St->Hp->Prop:=λ_ _=>False
 ct:St->Hp->Prop:=λ_ _=>False
abbrev TS:=Ends->St->Hp->Prop
def EP(X:Cx)(pins:List (Addr×Obj))(σ:St)(Q:VK)(u:Value)(s':Shared):Prop:=∃v H',Inv X pins σ H' s'/\RelV v u/\Q v H'
def TP(X:Cx)(pins:List (Addr×Obj))(σ:St)(Q:Bool->Hp->Prop)(b:Bool)(s':Shared):Prop:=∃H',Inv X pins σ H' s'/\Q b H'
def AP(X:Cx)(pins:List (Addr×Obj))(σ:St)(Q:List V->Hp->Prop)(us:List Value)(s':Shared):Prop:=∃vs H',Inv X pins σ H' s'/\Vals vs us/\Q vs H'
def SP(X:Cx)(pins:List (Addr×Obj))(D:Ends)(f:Flow)(s':Shared):Prop:=
 match f with
 |.next=>∃σ' H',Inv X pins σ' H' s'/\D.nx σ' H'
 |.brk=>∃σ' H',Inv X pins σ' H' s'/\D.bk σ' H'
 |.cont=>∃σ' H',Inv X pins σ' H' s'/\D.ct σ' H'
 |.ret u=>∃v σ' H',Inv X pins σ' H' s'/\RelV v u/\D.rt v H'
def PE(X:Cx)(e:Expr)(t:TE):Prop:=
 ∀(pins:List (Addr×Obj)) (s:Shared) (σ:St) (H:Hp) (Q:VK),Inv X pins σ H s->t σ H Q->wpAny (model X.prog X.w) X.A (eval e X.env) (EP X pins σ Q) X.xe s
def PT(X:Cx)(e:Expr)(t:TT):Prop:=
 ∀(pins:List (Addr×Obj)) (s:Shared) (σ:St) (H:Hp) (Q:Bool->Hp->Prop),Inv X pins σ H s->t σ H Q->wpAny (model X.prog X.w) X.A (isTrue e X.env (eval e X.env)) (TP X pins σ Q) X.xe s
def PW(X:Cx)(e:Expr)(t:TT):Prop:=
 ∀(whole:Sem Value) (pins:List (Addr×Obj)) (s:Shared) (σ:St) (H:Hp) (Q:Bool->Hp->Prop),Inv X pins σ H s->t σ H Q->wpAny (model X.prog X.w) X.A (isTrue e X.env whole) (TP X pins σ Q) X.xe s
def PW.pt{X:Cx}{e:Expr}{t:TT}(h:PW X e t):PT X e t:=h _
def PA(X:Cx)(es:List Expr)(t:TA):Prop:=
 ∀(pos:Pos) (pins:List (Addr×Obj)) (s:Shared) (σ:St) (H:Hp) (Q:List V->Hp->Prop),Inv X pins σ H s->t σ H Q->wpAny (model X.prog X.w) X.A (spliced (backTo pos (starEach es X.env))) (AP X pins σ Q) X.xe s
def PS(X:Cx)(st:Stmt)(t:TS):Prop:=
 ∀(pins:List (Addr×Obj)) (s:Shared) (σ:St) (H:Hp) (D:Ends),Inv X pins σ H s->t D σ H->wpAny (model X.prog X.w) X.A (exec st X.env) (SP X pins D) X.xe s
def PSs(X:Cx)(st:List Stmt)(t:TS):Prop:=
 ∀(pins:List (Addr×Obj)) (s:Shared) (σ:St) (H:Hp) (D:Ends),Inv X pins σ H s->t D σ H->wpAny (model X.prog X.w) X.A (execs st X.env) (SP X pins D) X.xe s
def thn{α:Type}{t:Sem α}{Q Q':α->Shared->Prop}{M:Model}{A:Around}{E:Value->Shared->Prop}{s:Shared}(h:wpAny M A t Q E s)(hQ:∀a s,Q a s->Q' a s):wpAny M A t Q' E s:=wpAny_mono h hQ λ_ _ x=>x
section
variable{X:Cx}
def bin{a b:Expr}{ta tb:TE}(ha:PE X a ta)(hb:PE X b tb){pins:List (Addr×Obj)}{s:Shared}{σ:St}{H:Hp}{R:V->V->Hp->Prop}(I:Inv X pins σ H s)(h:ta σ H λx H1=>tb σ H1 λy H2=>R x y H2)
 {α:Type} {Q:α->Shared->Prop} {f:Value->Value->Sem α}
 (hf:∀v u s2 x y H2,Inv X pins σ H2 s2->RelV x v->RelV y u->R x y H2->wpAny (model X.prog X.w) X.A (f v u) Q X.xe s2):
 wpAny (model X.prog X.w) X.A (eval a X.env) (λv s₁=>wpAny (model X.prog X.w) X.A (eval b X.env) (λu s₂=>wpAny (model X.prog X.w) X.A (f v u) Q X.xe s₂) X.xe s₁) X.xe s:=by
 refine thn (ha pins s σ H _ I h) λv s1 ⟨x,H1,I1,r1,q1⟩=>?_;refine thn (hb pins s1 σ H1 _ I1 q1) λu s2 ⟨y,H2,I2,r2,q2⟩=>?_;exact hf v u s2 x y H2 I2 r1 r2 q2
def Qu(i:Nat):TE:=λσ H Q=>∃v,σ[i]?=some (some v)/\Q v H
def tC(v:V):TE:=λ_ H Q=>Q v H
def YY{i:Nat}{x:Str}{pos:Pos}(hN:X.N[i]?=some x)(hv:Vis X.env.scope x)(hd:(x==("__debug__":Str))=false:=by decide)(hcd:(x==("__classdict__":Str))=false:=by decide):PE X (.Name x pos) (Qu i):=by
 intro pins s σ H Q I h;obtain⟨v,e,h⟩:=h;obtain⟨m,hn,hl⟩:=I.loc;obtain⟨u,r,l⟩:=hl i x v hN e hv;have fin:EP X pins σ Q u s:=⟨v,H,I,r,h⟩
 rcases l with⟨hk,hm⟩|⟨hk,c,hc,hcell⟩
 .exact wpAny_Name (wpAny_loadName_local I.ok.kind hk hn hm fin) hd
 .rcases hk with hk|hk
  .exact wpAny_Name (wpAny_loadName_cell I.ok.kind hk hc hcell fin) hd
  .exact wpAny_Name (wpAny_loadName_free I.ok.kind hk hc hcell fin hcd) hd
def Yi{i j pos}:PE X (.Constant (.int i) j pos) (tC (.int i)):=λ_ _ _ H _ I h=>wpAny_Constant_int ⟨.int i,H,I.tok _,⟨_,rfl⟩,h⟩
def aO{b j pos}:PE X (.Constant (.bool b) j pos) (tC (.bl b)):=λ_ _ _ H _ I h=>Constant_bool ⟨.bl b,H,I,rfl,h⟩
def Ye{j pos}:PE X (.Constant .none j pos) (tC .non):=λ_ _ _ H _ I h=>Constant_none ⟨.non,H,I,rfl,h⟩
def Yb{x j pos}:PE X (.Constant (.str x) j pos) (tC (.str x)):=λ_ _ _ H _ I h=>Calls.Constant_str ⟨.str x,H,I.tok _,⟨_,rfl⟩,h⟩
def Gl(X:Cx)(x:Str):Prop:=X.env.kindOf x=some .globalImplicit
def Vx{E:Value->Shared->Prop}{pins:List (Addr×Obj)}{s:Shared}{σ:St}{H:Hp}{x:Str}{u:Value}{pos:Pos}{Q:Value->Shared->Prop}(I:Inv X pins σ H s)(hg:Gl X x)(hm:X.mg x=some u)(h:Q u s)
 (hd:(x==("__debug__":Str))=false:=by decide):wpAny (model X.prog X.w) X.A (eval (.Name x pos) X.env) Q E s:=
 Calls.Name_function_global I.ok.kind hg (Calls.loadGlobal_global (by rw[I.ok.glob];exact I.mod.glob.keeps I.bk) hm h) hd
def F0{E:Value->Shared->Prop}{pins:List (Addr×Obj)}{s:Shared}{σ:St}{H:Hp}{x:Str}{u:Value}{pos:Pos}{Q:Value->Shared->Prop}(I:Inv X pins σ H s)(hg:Gl X x)(hm:X.mg x=none)(hv:bootBuiltins x=some u)(h:Q u s)
 (hn:x≠"__name__":=by decide) (hd:(x==("__debug__":Str))=false:=by decide):wpAny (model X.prog X.w) X.A (eval (.Name x pos) X.env) Q E s:=by
 obtain⟨mb,h1,h2⟩:=I.mod.blt;exact Calls.Name_function_global I.ok.kind hg (Calls.loadGlobal_builtin (by rw[I.ok.glob];exact I.mod.glob.keeps I.bk) hm (by rw[I.ok.blt];exact h1.keeps I.bk) ((h2 x hn).trans hv) h) hd
variable{a b:Expr}{ta tb:TE}{pos:Pos}
variable{tA tB':TT}{rest:List Expr}
def RP(t u:TT):TT:=λσ H Q=>t σ H λc H1=>if c=true then u σ H1 Q else Q false H1
def tOr(t u:TT):TT:=λσ H Q=>t σ H λc H1=>if c=true then Q true H1 else u σ H1 Q
def Qz(t:TT):TT:=λσ H Q=>t σ H λc H1=>Q (!c) H1
def VA(ha:PT X a tA):PW X (.BoolOp .And [a] pos) tA:=by
 intro wh pins s σ H Q I h;refine isTrue_and (thn (ha pins s σ H Q I h) λc s1 e=>?_);cases c with
 |true=>exact isTrue_and_nil e
 |false=>exact e
def YJ(ha:PT X a tA):PW X (.BoolOp .Or [a] pos) tA:=by
 intro wh pins s σ H Q I h;refine isTrue_or (thn (ha pins s σ H Q I h) λc s1 e=>?_);cases c with
 |false=>exact isTrue_or_nil e
 |true=>exact e
def YK(ha:PT X a tA)(hb:PW X (.BoolOp .And (b::rest) pos) tB'):PW X (.BoolOp .And (a::b::rest) pos) (RP tA tB'):=by
 intro wh pins s σ H Q I h;refine isTrue_and (thn (ha pins s σ H _ I h) λc s1 ⟨H1,I1,q1⟩=>?_);cases c with
 |true=>exact hb wh pins s1 σ H1 Q I1 q1
 |false=>exact⟨H1,I1,q1⟩
def aJ(ha:PT X a tA)(hb:PW X (.BoolOp .Or (b::rest) pos) tB'):PW X (.BoolOp .Or (a::b::rest) pos) (tOr tA tB'):=by
 intro wh pins s σ H Q I h;refine isTrue_or (thn (ha pins s σ H _ I h) λc s1 ⟨H1,I1,q1⟩=>?_);cases c with
 |true=>exact⟨H1,I1,q1⟩
 |false=>exact hb wh pins s1 σ H1 Q I1 q1
def YL(ha:PT X a tA):PT X (.UnaryOp .Not a pos) (Qz tA):=by
 intro pins s σ H Q I h;exact isTrue_not (ha pins s σ H (λc H1=>Q (!c) H1) I h)
def Nd(ta tb:TE):TE:=λσ H Q=>ta σ H λx H1=>∃c,x=.bl c/\if c=true then tb σ H1 Q else Q (.bl false) H1
def NY(ta:TE):TE:=λσ H Q=>ta σ H λx H1=>∃c,x=.bl c/\Q (.bl (!c)) H1
def Yc{op}{t:TE}(h:PE X a t):PE X (.BoolOp op [a] pos) t:=λpins s σ H Q I hw=>BoolOp_one (h pins s σ H Q I hw)
def Yk(ha:PE X a ta)(hb:PE X (.BoolOp .And (b::rest) pos) tb):PE X (.BoolOp .And (a::b::rest) pos) (Nd ta tb):=by
 intro pins s σ H Q I h;refine BoolOp_and (thn (ha pins s σ H _ I h) λv s1 ⟨x,H1,I1,r1,q1⟩=>?_);obtain⟨c,rfl,q1⟩:=q1;cases r1;refine wpAny_truthy_bool ?_;cases c with
 |true=>exact hb pins s1 σ H1 Q I1 q1
 |false=>exact⟨.bl false,H1,I1,rfl,q1⟩
def Yd(ha:PE X a ta):PE X (.UnaryOp .Not a pos) (NY ta):=by
 intro pins s σ H Q I h;refine UnaryOp_ (thn (ha pins s σ H _ I h) λv s1 ⟨x,H1,I1,r1,q1⟩=>?_);obtain⟨c,rfl,q1⟩:=q1;cases r1;exact not_of (wpAny_truthy_bool ⟨.bl (!c),H1,I1,rfl,q1⟩)
def tIf(t:TT)(ta tb:TE):TE:=λσ H Q=>t σ H λc H1=>if c=true then ta σ H1 Q else tb σ H1 Q
def SG{c:Expr}(hc:PT X c tA)(ha:PE X a ta)(hb:PE X b tb):PE X (.IfExp c a b pos) (tIf tA ta tb):=by
 intro pins s σ H Q I h;refine wpAny_IfExp (thn (hc pins s σ H _ I h) λd s1 ⟨H1,I1,q1⟩=>?_);cases d with
 |true=>exact ha pins s1 σ H1 Q I1 q1
 |false=>exact hb pins s1 σ H1 Q I1 q1
end
def SqL(K:PySem.W.Frag)(H:Hp)(a:Addr)(xs:List V):Prop:=
 Rd H a (.lst xs) ∨
  ∃(o:Obj) (its:Array Value) (n:Nat),K.lookup a=some o/\o.cls=.type "list"/\o.dict=none/\o.data=.seq its n/\its.size<=sizeLine/\Vals xs its.toList
def SqT(K:PySem.W.Frag)(H:Hp)(a:Addr)(xs:List V):Prop:=
 Rd H a (.tup xs) ∨
  ∃(o:Obj) (its:Array Value) (n:Nat),K.lookup a=some o/\o.cls=.type "tuple"/\o.dict=none/\o.data=.seq its n/\its.size<=sizeLine/\Vals xs its.toList
def bf:Value->Option V
 |.none=>some .non
 |.bool b=>some (.bl b)
 |.int i _=>some (.int i)
 |.str x _=>some (.str x)
 |.bytes b _=>some (.byt b)
 |.float b _=>some (.flt b)
 |.ref a=>some (.ref a)
 |.type n=>some (.ty n)
 |_=>none
def RelV.abs{x:V}{u:Value}(r:RelV x u):bf u=some x:=by
 cases x with
 |non=>cases r;rfl
 |bl _=>cases r;rfl
 |int _=>obtain⟨t,rfl⟩:=r;rfl
 |str _=>obtain⟨t,rfl⟩:=r;rfl
 |byt _=>obtain⟨t,rfl⟩:=r;rfl
 |flt _=>obtain⟨t,rfl⟩:=r;rfl
 |ref _=>cases r;rfl
 |ty _=>cases r;rfl
def RelV.inj{x y:V}{u:Value}(r:RelV x u)(q:RelV y u):x=y:=Option.some.inj (r.abs.symm.trans q.abs)
def Vals.inj:∀{xs ys:List V} {us:List Value},Vals xs us->Vals ys us->xs=ys
 |_,_,_,.nil,.nil=>rfl
 |_,_,_,.cons r t,.cons r' t'=>by rw[r.inj r',Vals.inj t t']
section
variable{X:Cx}{pins:List (Addr×Obj)}{σ:St}{H:Hp}{s:Shared}{a:Addr}{xs ys:List V}
def SqL.of{K:PySem.W.Frag}(h:H a=some (.lst xs)):SqL K H a xs:=.inl (.inl h)
def SqT.of{K:PySem.W.Frag}(h:H a=some (.tup xs)):SqT K H a xs:=.inl (.inl h)
def Inv.list(I:Inv X pins σ H s)(h:SqL X.K H a xs):∃its:List Value,Vals xs its/\PlainL s.heap a its.toArray/\xs.length<=sizeLine:=by
 rcases h with h|⟨o,its,n,hk,hc,hd,hs,hz,r⟩
 .obtain⟨z,its,n,r,e⟩:=h.ok I.hok;exact⟨its,r,⟨_,n,e,rfl,rfl,rfl⟩,z⟩
 .refine⟨its.toList,r,⟨o,n,I.kIn a o hk,hc,hd,by simpa using hs⟩,?_⟩;have e:=r.length;simp only[Array.length_toList]at e;omega
def Inv.tuple(I:Inv X pins σ H s)(h:SqT X.K H a xs):∃its:List Value,Vals xs its/\IsTup s.heap a its.toArray/\xs.length<=sizeLine:=by
 rcases h with h|⟨o,its,n,hk,hc,_,hs,hz,r⟩
 .obtain⟨z,its,r,p⟩:=h.ok I.hok;exact⟨its,r,p.t,z⟩
 .refine⟨its.toList,r,⟨o,I.kIn a o hk,hc,n,by simpa using hs⟩,?_⟩;have e:=r.length;simp only[Array.length_toList]at e;omega
def Inv.list_inj(I:Inv X pins σ H s)(h:SqL X.K H a xs)(h':SqL X.K H a ys):xs=ys:=by
 obtain⟨its,r,⟨o,n,e,_,_,d⟩,_⟩:=I.list h;obtain⟨its',r',⟨o',n',e',_,_,d'⟩,_⟩:=I.list h';rw[e]at e';cases e';rw[d]at d'
 injection d' with d1 _
 have:its=its':=by simpa using congrArg Array.toList d1
 subst this;exact r.inj r'
def Inv.tuple_inj(I:Inv X pins σ H s)(h:SqT X.K H a xs)(h':SqT X.K H a ys):xs=ys:=by
 obtain⟨its,r,⟨o,e,_,n,d⟩,_⟩:=I.tuple h;obtain⟨its',r',⟨o',e',_,n',d'⟩,_⟩:=I.tuple h';rw[e]at e';cases e';rw[d]at d'
 injection d' with d1 _
 have:its=its':=by simpa using congrArg Array.toList d1
 subst this;exact r.inj r'
end
abbrev Cx.wish(X:Cx)(E:Value->Shared->Prop):Cx:={ X with xe:=E }
abbrev Cx.nox(X:Cx):Cx:=X.wish λ_ _=>False
def Cx.Ok.wish{X:Cx}(ok:X.Ok)(E:Value->Shared->Prop):(X.wish E).Ok:=
 ⟨ok.mod,ok.kind,ok.glob,ok.blt,ok.above,ok.inj,ok.has,ok.cab,ok.hd,ok.frames,ok.stk,ok.exf,ok.bs,ok.bsz,ok.noex,ok.exfs,ok.funs,ok.frf⟩
def Cx.Ok.unwish{X:Cx}{E:Value->Shared->Prop}(ok:(X.wish E).Ok):X.Ok:=
 ⟨ok.mod,ok.kind,ok.glob,ok.blt,ok.above,ok.inj,ok.has,ok.cab,ok.hd,ok.frames,ok.stk,ok.exf,ok.bs,ok.bsz,ok.noex,ok.exfs,ok.funs,ok.frf⟩
section
variable{X:Cx}{pins:List (Addr×Obj)}{σ:St}{H:Hp}{s:Shared}{E:Value->Shared->Prop}
def Inv.wish(I:Inv X pins σ H s)(E:Value->Shared->Prop):Inv (X.wish E) pins σ H s:=⟨I.ok.wish E,I.os,I.bare,I.base,I.loc,I.cell,I.free,I.freeC,I.pin,I.hok,I.len⟩
def Inv.unwish(I:Inv (X.wish E) pins σ H s):Inv X pins σ H s:=⟨I.ok.unwish,I.os,I.bare,I.base,I.loc,I.cell,I.free,I.freeC,I.pin,I.hok,I.len⟩
def SP.unwish{D:Ends}{f:Flow}{s':Shared}(h:SP (X.wish E) pins D f s'):SP X pins D f s':=by
 cases f with
 |next=>obtain⟨σ',H',I,q⟩:=h;exact⟨σ',H',I.unwish,q⟩
 |brk=>obtain⟨σ',H',I,q⟩:=h;exact⟨σ',H',I.unwish,q⟩
 |cont=>obtain⟨σ',H',I,q⟩:=h;exact⟨σ',H',I.unwish,q⟩
 |ret u=>obtain⟨v,σ',H',I,r,q⟩:=h;exact⟨v,σ',H',I.unwish,r,q⟩
def PSs.nox{st:List Stmt}{t:TS}(h:PSs X.nox st t):PSs X st t:=λpins s σ H D I hw=>
 wpAny_mono (h pins s σ H D (I.wish _) hw) (λ_ _ q=>q.unwish) λ_ _ z=>False.elim z
end
section
variable{X:Cx}{st:Stmt}{rest:List Stmt}{t u:TS}{e:Expr}{te:TE}{pos:Pos}
def IN:TS:=λD σ H=>D.nx σ H
def Qw(t u:TS):TS:=λD σ H=>t { D with nx:=u D } σ H
def VC:PSs X [] IN:=λ_ _ σ H _ I h=>wpAny_execs_nil ⟨σ,H,I,h⟩
def S9(h1:PS X st t)(h2:PSs X rest u):PSs X (st::rest) (Qw t u):=by
 intro pins s σ H D I h;refine wpAny_execs_cons (thn (h1 pins s σ H { D with nx:=u D } I h) λf s1 q=>?_);cases f with
 |next=>
  obtain⟨σ',H',I',q⟩:=q;exact h2 pins s1 σ' H' D I' q
 |ret v=>exact q
 |brk=>exact q
 |cont=>exact q
def VB(h1:PS X st t):PSs X [st] t:=by
 intro pins s σ H D I h;refine wpAny_execs_cons (thn (h1 pins s σ H D I h) λf s1 q=>?_);cases f with
 |next=>exact wpAny_execs_nil q
 |ret v=>exact q
 |brk=>exact q
 |cont=>exact q
def VE:PS X (.Pass pos) IN:=λ_ _ σ H _ I h=>wpAny_Pass ⟨σ,H,I,h⟩
def Inv.quiet{pins:List (Addr×Obj)}{σ:St}{H:Hp}{s:Shared}(I:Inv X pins σ H s):interactive X.env=false:=by simp[interactive,I.ok.kind]
def NZ(te:TE):TS:=λD σ H=>te σ H λ_ H1=>D.nx σ H1
def VG(he:PE X e te)(hs:swapsWith e none pos.line X.env=pure false:=by rfl):PS X (.Expr e pos) (NZ te):=by
 intro pins s σ H D I h;exact wpAny_Expr_any (thn (he pins s σ H _ I h) λv s1 ⟨x,H1,I1,r1,q1⟩=>⟨σ,H1,I1,q1⟩) I.quiet hs
def Qx(te:TE):TS:=λD σ H=>te σ H D.rt
def YN(he:PE X e te):PS X (.Return (some e) pos) (Qx te):=by
 intro pins s σ H D I h;exact wpAny_Return_some (thn (he pins s σ H _ I h) λv s1 ⟨x,H1,I1,r1,q1⟩=>⟨x,σ,H1,I1,r1,q1⟩)
def RJ(c:TT)(t u:TS):TS:=λD σ H=>c σ H λb H1=>if b=true then t D σ H1 else u D σ H1
def aK{c:Expr}{a b:List Stmt}{tc:TT}(hc:PT X c tc)(ha:PSs X a t)(hb:PSs X b u):PS X (.If c a b pos) (RJ tc t u):=by
 intro pins s σ H D I h;refine wpAny_If (thn (hc pins s σ H _ I h) λd s1 ⟨H1,I1,q1⟩=>?_);cases d with
 |true=>exact ha pins s1 σ H1 D I1 q1
 |false=>exact hb pins s1 σ H1 D I1 q1
end
abbrev TG:=V->St->Hp->(St->Hp->Prop)->Prop
abbrev TGs:=List V->St->Hp->(St->Hp->Prop)->Prop
def PG(X:Cx)(target:Expr)(t:TG):Prop:=
 ∀(pins:List (Addr×Obj)) (s:Shared) (σ:St) (H:Hp) (v:V) (u:Value) (Q:St->Hp->Prop),Inv X pins σ H s->RelV v u->t v σ H Q ->
   wpAny (model X.prog X.w) X.A (assign target X.env u) (λ_ s'=>∃σ' H',Inv X pins σ' H' s'/\Q σ' H') X.xe s
def PGs(X:Cx)(ts:List Expr)(t:TGs):Prop:=
 ∀(pins:List (Addr×Obj)) (s:Shared) (σ:St) (H:Hp) (vs:List V) (us:List Value) (Q:St->Hp->Prop),Inv X pins σ H s->Vals vs us->t vs σ H Q ->
   wpAny (model X.prog X.w) X.A (assignInOrder ((assignEach ts X.env).map (·.2)) us) (λ_ s'=>∃σ' H',Inv X pins σ' H' s'/\Q σ' H') X.xe s
abbrev MD:=V->V->V->Hp->(Hp->Prop)->Prop
def So(X:Cx)(t:MD):Prop:=
 ∀(pins:List (Addr×Obj)) (s:Shared) (σ:St) (H:Hp) (o i v:V) (ov iv u:Value) (Q:Hp->Prop),Inv X pins σ H s->RelV o ov->RelV i iv->RelV v u->t o i v H Q ->
   wpAny (model X.prog X.w) X.A (setItem ov iv u) (λ_ s'=>∃H',Inv X pins σ H' s'/\Q H') X.xe s
abbrev TIp:=V->V->Hp->VK->Prop
def PIp(X:Cx)(op:Operator)(t:TIp):Prop:=
 ∀(pins:List (Addr×Obj)) (s:Shared) (σ:St) (H:Hp) (x y:V) (v u:Value) (Q:VK),Inv X pins σ H s->RelV x v->RelV y u->t x y H Q ->
   wpAny (model X.prog X.w) X.A (inplaceOp op v u) (EP X pins σ Q) X.xe s
section
variable{X:Cx}{pos:Pos}
def Cl(i:Nat):TG:=λv σ H Q=>Q (σ.set i (some v)) H
def VT{i:Nat}{x:Str}(hN:X.N.Nodup)(hi:X.N[i]?=some x)(hx:Loc X.env.scope x)(hf:X.fn x=true∨X.env.scope.names.lookup x=some .local:=by first|exact .inl rfl|exact .inr rfl|assumption):PG X (.Name x pos) (Cl i):=by
 intro pins s σ H v u Q I r h;exact wpAny_assign_Name (DE I hN hi hx r (λs' I'=>⟨_,H,I',h⟩) hf)
def SZ:TGs:=λvs σ H Q=>vs=[]/\Q σ H
def OP(t:TG)(u:TGs):TGs:=λvs σ H Q=>∃v r,vs=v::r/\t v σ H λσ' H'=>u r σ' H' Q
def VR:PGs X [] SZ:=by
 intro pins s σ H vs us Q I r h;obtain⟨e,h⟩:=h;subst e;cases r;exact assignInOrder_nil ⟨σ,H,I,h⟩
def SF{e:Expr}{es:List Expr}{t:TG}{u:TGs}(h1:PG X e t)(h2:PGs X es u)
 (hs:(assignEach (e::es) X.env).map (·.2)=assign e X.env::(assignEach es X.env).map (·.2):=by rfl):PGs X (e::es) (OP t u):=by
 intro pins s σ H vs us Q I r h;obtain⟨v,vr,e1,h⟩:=h;subst e1;cases r with
 |cons r rr=>
  rw[hs];refine assignInOrder_cons (thn (h1 pins s σ H _ _ _ I r h) λ_ s1 ⟨σ1,H1,I1,q1⟩=>?_);exact h2 pins s1 σ1 H1 _ _ Q I1 rr q1
def OO(K:PySem.W.Frag)(n:Nat)(t:TGs):TG:=λv σ H Q=>∃a xs,v=.ref a/\SqT K H a xs/\xs.length=n/\t xs σ H Q
def YU{es:List Expr}{k:Nat}{t:TGs}{n:Nat}(hc:X.calm=true)(h:PGs X es t)
 (hn:(assignEach es X.env).length=n:=by rfl) (hst:(assignEach es X.env).findIdx? (·.1)=none:=by rfl):PG X (.Tuple es k pos) (OO X.K n t):=by
 intro pins s σ H v u Q I r hw;obtain⟨a,xs,e1,hq,hl,hw⟩:=hw;subst e1;cases r;obtain⟨its,rv,ht,hz⟩:=I.tuple hq;refine assign_Tuple_tuple (I.ok.hd hc) ht (by simp[hn,<- hl,rv.length]) hst λh' hx=>?_;have I1:Inv X pins σ H { s with heap:=h' }:=I.kept (t':=s.toks) λb o e=>hx b o (ne_of_lt (Heap.lt_size e)) e;exact h pins _ σ H xs _ Q I1 (by simpa using rv) hw
def SY(to ti:TE)(t:MD):TG:=λv σ H Q=>to σ H λo H1=>ti σ H1 λi H2=>t o i v H2 λH3=>Q σ H3
def YV{o i:Expr}{to ti:TE}{t:MD}(ho:PE X o to)(hi:PE X i ti)(hs:So X t)
 (ha:∀v,assign (.Subscript o i pos) X.env v=(do
  let ov <- holding [v] (eval o X.env)
  let iv <- holding [v,ov] (eval i X.env)
  standAt pos
  holding [v,ov,iv] (setItem ov iv v)
  release [v,ov,iv] []):=by intro _;rfl):PG X (.Subscript o i pos) (SY to ti t):=by
 intro pins s σ H v u Q I r h;rw[ha];refine wpAny_bind (wpAny_holding (thn (ho pins s σ H _ I h) λov s1 ⟨x,H1,I1,r1,q1⟩=>?_));refine wpAny_bind (wpAny_holding (thn (hi pins s1 σ H1 _ I1 q1) λiv s2 ⟨y,H2,I2,r2,q2⟩=>?_));refine wpAny_bind (wpAny_standAt (wpAny_bind (wpAny_holding (thn (hs pins s2 σ H2 x y v ov iv u _ I2 r1 r2 r q2) λ_ s3 ⟨H3,I3,q3⟩=>?_))));exact wpAny_release ⟨σ,H3,I3,q3⟩
def DZ(te:TE)(g:TG):TS:=λD σ H=>te σ H λx H1=>g x σ H1 D.nx
def PU{tg e:Expr}{te:TE}{g:TG}(he:PE X e te)(hg:PG X tg g)(hs:swapsWithSole [tg] e pos.line X.env=pure false:=by rfl)(hw:swappedStores [tg] e X.env=pure none:=by rfl)
 (h1:(assignEach [tg] X.env).map (·.2)=[assign tg X.env]:=by rfl):PS X (.Assign [tg] e pos) (DZ te g):=by
 intro pins s σ H D I h;refine wpAny_Assign_stores (thn (he pins s σ H _ I h) λv s1 ⟨x,H1,I1,r1,q1⟩=>?_) hs hw;rw[h1];exact thn (hg pins s1 σ H1 x v _ I1 r1 q1) λ_ s2 q=>q
def YM{i:Nat}{x:Str}{e:Expr}{te:TE}{pos':Pos}(hN:X.N.Nodup)(hi:X.N[i]?=some x)(hx:Loc X.env.scope x)(he:PE X e te)(hs:swapsWith e (some (.Name x pos')) pos.line X.env=pure false:=by rfl)(hf:X.fn x=true∨X.env.scope.names.lookup x=some .local:=by first|exact .inl rfl|exact .inr rfl|assumption):
 PS X (.Assign [.Name x pos'] e pos) (DZ te (Cl i)):=by
 intro pins s σ H D I h;refine wpAny_Assign_Name (thn (he pins s σ H _ I h) λv s1 ⟨y,H1,I1,r1,q1⟩=>?_) hs;exact DE I1 hN hi hx r1 (λs2 I2=>⟨_,H1,I2,q1⟩) hf
def Qy(i j:Nat)(ta:TA):TS:=λD σ H=>ta σ H λvs H1=>∃v w,vs=[v,w]/\D.nx ((σ.set i (some v)).set j (some w)) H1
def YO{i j:Nat}{x y:Str}{a b:Expr}{ta:TA}{px py pt:Pos}{kt k2 pt2}(hc:X.calm=true)(hN:X.N.Nodup)(hi:X.N[i]?=some x)(hj:X.N[j]?=some y)(hij:i≠j)
 (hx:X.env.scope.names.lookup x=some .local) (hy:X.env.scope.names.lookup y=some .local) (ha:PA X [a,b] ta)
 (hw:swappedStores [.Tuple [.Name x px,.Name y py] kt pt] (.Tuple [a,b] k2 pt2) X.env=pure (some [x,y]))
 (hs:swapsWithSole [.Tuple [.Name x px,.Name y py] kt pt] (.Tuple [a,b] k2 pt2) pos.line X.env=pure false:=by rfl):
 PS X (.Assign [.Tuple [.Name x px,.Name y py] kt pt] (.Tuple [a,b] k2 pt2) pos) (Qy i j ta):=by
 intro pins s σ H D I h;rw[exec_Assign_arm];refine wpAny_bind (wpAny_standAt ?_);rw[hs];refine wpAny_bind (wpAny_pure ?_);rw[if_neg (by decide)];refine wpAny_bind (Tuple_ (thn (ha _ pins s σ H _ I h) λus s1 ⟨vs,H1,I1,r1,q1⟩=>?_));obtain⟨v,w,e1,q1⟩:=q1;subst e1;obtain⟨u1,u2,rfl,rv,rw'⟩:∃u1 u2,us=[u1,u2]/\RelV v u1/\RelV w u2:=by
  cases r1 with
  |cons p q=>
   cases q with
   |cons p' q'=>
    cases q';exact⟨_,_,rfl,p,p'⟩
 refine wpAny_newObj_type ?_ (by show 2<=sizeLine;decide);have I2:Inv X pins σ H1 { s1 with heap:=s1.heap.push { cls:=.type "tuple",data:=.seq [u1,u2].toArray } }:=I1.kept (t':=s1.toks) λb o e=>Heap.get?_push_of_some _ e;rw[hw];refine wpAny_bind (wpAny_pure ?_);show wpAny (model X.prog X.w) X.A (do rule "assign.swapped-stores";let items <- unpackItems (.ref s1.heap.objs.size) 2 none;assignInOrder [λv=>bindName X.env y v,λv=>bindName X.env x v] items.reverse;pure Flow.next) _ _ _;refine wpAny_bind (wpAny_rule (wpAny_bind (unpackItems_tuple (items:=#[u1,u2]) (I.ok.hd hc) (IsTup.new s1.heap _) λh' hx'=>?_)));have I3:=I2.kept (h':=h') (t':=s1.toks) λb o e=>hx' b o (ne_of_lt (Heap.lt_size e)) e;show wpAny _ _ (assignInOrder [λv=>bindName X.env y v,λv=>bindName X.env x v] [u2,u1] >>= λ_=>pure Flow.next) _ _ _;refine wpAny_bind (assignInOrder_cons (wpAny_bindName (DE I3 hN hj (.inl hy) rw' (λs2 I4=>?_) (.inr hy))));refine assignInOrder_cons (wpAny_bindName (DE I4 hN hi (.inl hx) rv (λs3 I5=>assignInOrder_nil (wpAny_pure ?_)) (.inr hx)));rw[List.set_comm _ _ (Ne.symm hij)]at I5;exact⟨_,H1,I5,q1⟩
def Nc(to ti te:TE)(tget:V->V->Hp->VK->Prop)(tip:TIp)(tset:MD):TS:=λD σ H=>to σ H λo H1=>ti σ H1 λi H2=>tget o i H2 λx H3=>te σ H3 λy H4=>tip x y H4 λz H5=>tset o i z H5 λH6=>D.nx σ H6
def Zn(X:Cx)(t:V->V->Hp->VK->Prop):Prop:=
 ∀(pins:List (Addr×Obj)) (s:Shared) (σ:St) (H:Hp) (o i:V) (ov iv:Value) (Q:VK),Inv X pins σ H s->RelV o ov->RelV i iv->t o i H Q ->
   wpAny (model X.prog X.w) X.A (getItem ov iv) (EP X pins σ Q) X.xe s
def VI{o i e:Expr}{to ti te:TE}{tget:V->V->Hp->VK->Prop}{tip:TIp}{tset:MD}{op:Operator}{tpos:Pos}(ho:PE X o to)(hi:PE X i ti)(hg:Zn X tget)(he:PE X e te)(hp:PIp X op tip)(hs:So X tset)
 (ha:∀ov iv new,augStore i ov iv new=(do holding [new,ov,iv] (setItem ov iv new);release [new,ov,iv] [];pure .next):=by intros;rfl):PS X (.AugAssign (.Subscript o i tpos) op e pos) (Nc to ti te tget tip tset):=by
 intro pins s σ H D I h;refine wpAny_AugAssign_SubscriptAny (thn (ho pins s σ H _ I h) λov s1 ⟨x1,H1,I1,r1,q1⟩=>?_) ha;refine thn (hi pins s1 σ H1 _ I1 q1) λiv s2 ⟨x2,H2,I2,r2,q2⟩=>?_;refine thn (hg pins s2 σ H2 x1 x2 ov iv _ I2 r1 r2 q2) λold s3 ⟨x3,H3,I3,r3,q3⟩=>?_;refine thn (he pins s3 σ H3 _ I3 q3) λv s4 ⟨x4,H4,I4,r4,q4⟩=>?_;refine thn (hp pins s4 σ H4 x3 x4 old v _ I4 r3 r4 q4) λnew s5 ⟨x5,H5,I5,r5,q5⟩=>?_;exact thn (hs pins s5 σ H5 x1 x2 x5 ov iv new _ I5 r1 r2 r5 q5) λ_ s6 ⟨H6,I6,q6⟩=>⟨σ,H6,I6,q6⟩
def ipI(f:Int->Int->Int):TIp:=λx y H Q=>∃i j,x=.int i/\y=.int j/\Q (.int (f i j)) H
def ZE:PIp X .Add (ipI λi j=>i+j):=by
 intro pins s σ H x y v u Q I r1 r2 h;obtain⟨i,j,e1,e2,q⟩:=h;subst e1;subst e2;obtain⟨t,rfl⟩:=r1;obtain⟨t',rfl⟩:=r2;exact iadd_int ⟨.int _,H,I.tok _,⟨_,rfl⟩,q⟩
end
structure It where
 go:Nat->Hp->Prop
 yld:Nat->Hp->V->Hp->Prop
 stop:Nat->Hp->Prop
def C1(X:Cx)(pins:List (Addr×Obj))(H:Hp)(b:Addr):Prop:=
 H b=none/\b≠X.env.locals/\b∉X.fs/\(b∈X.ex∨X.s₀.heap.objs.size<=b)/\(∀x c,X.env.cells.lookup x=some c->c≠b)/\∀p∈X.pn++pins,p.1≠b
def Inv.fpOk{X:Cx}{pins:List (Addr×Obj)}{σ:St}{H H':Hp}{s:Shared}{b:Addr}(I:Inv X pins σ H s)(hb:s.heap.objs.size<=b)(hn:H' b=none):C1 X pins H' b:=by
 refine⟨hn,ne_of_gt (lt_of_lt_of_le I.lt hb),I.nofs hb,.inr (le_trans I.sz hb),λx c e z=>?_,λp hp z=>?_⟩
 .obtain⟨v,q⟩:=I.cell x c e;exact absurd (lt_of_lt_of_le q.lt (by rw[z];exact hb)) (lt_irrefl _)
 .exact absurd (lt_of_lt_of_le (Heap.lt_size (I.pin p hp).1) (by rw[z];exact hb)) (lt_irrefl _)
structure Turn(P:Program)(w:World)(K:PySem.W.Frag)(tg:Expr)(J:It)(fp:List Addr)(it:Addr)(tn:Nat->Heap->Prop):Prop where
 mem:it∈fp
 obj:∀i h,tn i h->∀b∈fp,∃o,h.get? b=some o/\∀v,o.data≠.cell v
 keep:∀i h h',tn i h->(∀b∈fp,∀o,h.get? b=some o->h'.get? b=some o)->tn i h'
 item:∀(X:Cx),X.prog=P->X.w=w->X.K=K->X.calm=true->∀(i:Nat) (pins:List (Addr×Obj)) (s:Shared) (σ:St) (H:Hp) (E:Value->Shared->Prop),Inv X pins σ H s->(∀b∈fp,C1 X pins H b)->tn i s.heap->J.go i H ->
  wpAny (model P w) X.A (pyNext (.ref it)) (λr s1=>∃u,r=some u /\
   wpAny (model P w) X.A (letOwnedTupleGo tg (.ref it) u) (λ_ s2=>∃x H',Inv X pins σ H' s2/\RelV x u/\J.yld i H x H'/\tn (i+1) s2.heap/\∀b∈fp,H' b=none) E s1) E s
 done:∀(X:Cx),X.prog=P->X.w=w->X.K=K->X.calm=true->∀(i:Nat) (pins:List (Addr×Obj)) (s:Shared) (σ:St) (H:Hp) (E:Value->Shared->Prop),Inv X pins σ H s->(∀b∈fp,C1 X pins H b)->tn i s.heap->J.stop i H ->
  wpAny (model P w) X.A (pyNext (.ref it)) (λr s1=>r=none/\Inv X pins σ H s1) E s
 self:∀(A:Around) (i:Nat) (s:Shared) (Q:Value->Shared->Prop) (E:Value->Shared->Prop),tn i s.heap->Q (.ref it) s->wpAny (model P w) A (pyIter (.ref it)) Q E s
abbrev TI:=St->Hp->(It->Hp->Prop)->Prop
def PIE(X:Cx)(pins:List (Addr×Obj))(σ:St)(tg:Expr)(R:It->Hp->Prop)(itv:Value)(s2:Shared):Prop:=
 ∃(it:Addr) (fp:List Addr) (tn:Nat->Heap->Prop) (J:It) (H':Hp),itv=.ref it/\Inv X pins σ H' s2/\Turn X.prog X.w X.K tg J fp it tn/\tn 0 s2.heap/\(∀b∈fp,C1 X pins H' b)/\R J H'
def PI(X:Cx)(tg iter:Expr)(wi:TI):Prop:=
 ∀(pins:List (Addr×Obj)) (s:Shared) (σ:St) (H:Hp) (R:It->Hp->Prop),Inv X pins σ H s->wi σ H R ->
   wpAny (model X.prog X.w) X.A (eval iter X.env) (λv s1=>wpAny (model X.prog X.w) X.A (pyIter v) (PIE X pins σ tg R) X.xe s1) X.xe s
def ON{M:Model}{A:Around}{E:Value->Shared->Prop}{s:Shared}{tg:Expr}{it:Addr}{u:Value}{o:Obj}{n:String}{vs:Array Value}{Q:Unit->Shared->Prop}(ho:s.heap.get? it=some o)(hc:o.cls=.type n)(hd:o.data=.fields vs)
 (hn:["enumerate","zip","dict_itemiterator","dict_reverseitemiterator","odict_iterator","itertools.zip_longest","itertools.pairwise"].contains n=false) (hQ:Q () s):wpAny M A (letOwnedTupleGo tg (.ref it) u) Q E s:=by
 unfold letOwnedTupleGo;cases tg<;>first
  |exact wpAny_pure hQ
  | (cases u<;>first
   |exact wpAny_pure hQ
   | (refine wpAny_bind (wpAny_load ho ?_)
      rw[hc,hd];show wpAny M A (if(["enumerate","zip","dict_itemiterator","dict_reverseitemiterator","odict_iterator","itertools.zip_longest","itertools.pairwise"].contains n&&vs[0]?==some (rawInt _))=true then _ else _) Q E s;rw[if_neg (by intro h;rw[hn,Bool.false_and]at h;cases h)];exact wpAny_pure hQ))
def Itl(K:PySem.W.Frag)(a:Addr):It:=
 ⟨λi H=>∃xs x,SqL K H a xs/\xs[i]?=some x,λi H x H'=>H'=H/\∀xs,SqL K H a xs->xs[i]?=some x,λi H=>∃xs,SqL K H a xs/\xs.length<=i⟩
def Itt(K:PySem.W.Frag)(a:Addr):It:=
 ⟨λi H=>∃xs x,SqT K H a xs/\xs[i]?=some x,λi H x H'=>H'=H/\∀xs,SqT K H a xs->xs[i]?=some x,λi H=>∃xs,SqT K H a xs/\xs.length<=i⟩
def Itr(lo:Int)(n:Nat):It:=⟨λi _=>i<n,λi H x H'=>H'=H/\x=.int (lo+i),λi _=>n<=i⟩
def Op{P:Program}{w:World}{K:PySem.W.Frag}{tg:Expr}(a it:Addr):Turn P w K tg (Itl K a) [it] it (λi h=>h.IsListIter it a i) where
 mem:=by simp
 obj:=λi h st b hb=>by
  have e:b=it:=by simpa using hb
  subst e;obtain⟨o,e,c,d⟩:=st;exact⟨o,e,λv z=>by rw[d]at z;cases z⟩
 keep:=λi h h' st k=>st.at λo e=>k it (by simp) o e
 item:=by
  intro X hP hw hK hc i pins s σ H E I hf st hg;subst hP hw hK;obtain⟨xs,x,hq,hx⟩:=hg;obtain⟨its,rv,p,hz⟩:=I.list hq;obtain⟨u,hu,ru⟩:=rv.get hx;obtain⟨f0,f1,f2,f3,f4,f5⟩:=hf it (by simp);refine wpAny_pyNext_list_item st p.isList (x:=u) (by simpa using hu) λh' st' sb=>?_;have I1:Inv X pins σ H { s with heap:=h' }:=I.turned (t':=s.toks) (λb o hb e=>(sb.2 b hb).trans e) f0 f1 f3 f4 f5;obtain⟨o,e,c,d⟩:=id st';exact⟨u,rfl,ON (s:={ s with heap:=h' }) e c d (by decide) ⟨x,H,I1,ru,⟨rfl,λys hy=>by rw[I.list_inj hy hq];exact hx⟩,st',λb hb=>(hf b hb).1⟩⟩
 done:=by
  intro X hP hw hK hc i pins s σ H E I hf st hg;subst hP hw hK;obtain⟨xs,hq,hx⟩:=hg;obtain⟨its,rv,p,hz⟩:=I.list hq;obtain⟨f0,f1,f2,f3,f4,f5⟩:=hf it (by simp);have hl:=rv.length;exact wpAny_pyNext_list_end (I.ok.hd hc) st p.isList (by simp;omega) λh' eb=>⟨rfl,I.turned (t':=s.toks) (λb o hb e=>eb b o hb e) f0 f1 f3 f4 f5⟩
 self:=λ_ _ _ _ _ st h=>wpAny_pyIter_listiter st h
def NR{P:Program}{w:World}{K:PySem.W.Frag}{tg:Expr}(a it:Addr):Turn P w K tg (Itt K a) [it] it (λi h=>h.IsTupleIter it a i) where
 mem:=by simp
 obj:=λi h st b hb=>by
  have e:b=it:=by simpa using hb
  subst e;obtain⟨o,e,c,d⟩:=st;exact⟨o,e,λv z=>by rw[d]at z;cases z⟩
 keep:=λi h h' st k=>st.at λo e=>k it (by simp) o e
 item:=by
  intro X hP hw hK hc i pins s σ H E I hf st hg;subst hP hw hK;obtain⟨xs,x,hq,hx⟩:=hg;obtain⟨its,rv,p,hz⟩:=I.tuple hq;obtain⟨u,hu,ru⟩:=rv.get hx;obtain⟨f0,f1,f2,f3,f4,f5⟩:=hf it (by simp);refine wpAny_pyNext_tuple_item st (show s.heap.IsTuple a its.toArray from p) (x:=u) (by simpa using hu) λh' st' sb=>?_;have I1:Inv X pins σ H { s with heap:=h' }:=I.turned (t':=s.toks) (λb o hb e=>(sb.2 b hb).trans e) f0 f1 f3 f4 f5;obtain⟨o,e,c,d⟩:=id st';exact⟨u,rfl,ON (s:={ s with heap:=h' }) e c d (by decide) ⟨x,H,I1,ru,⟨rfl,λys hy=>by rw[I.tuple_inj hy hq];exact hx⟩,st',λb hb=>(hf b hb).1⟩⟩
 done:=by
  intro X hP hw hK hc i pins s σ H E I hf st hg;subst hP hw hK;obtain⟨xs,hq,hx⟩:=hg;obtain⟨its,rv,p,hz⟩:=I.tuple hq;obtain⟨f0,f1,f2,f3,f4,f5⟩:=hf it (by simp);have hl:=rv.length;exact wpAny_pyNext_tuple_end (I.ok.hd hc) st (show s.heap.IsTuple a its.toArray from p) (by simp;omega) λh' eb=>⟨rfl,I.turned (t':=s.toks) (λb o hb e=>eb b o hb e) f0 f1 f3 f4 f5⟩
 self:=λ_ _ _ _ _ st h=>wpAny_pyIter_tupleiter st h
def NS{P:Program}{w:World}{K:PySem.W.Frag}{tg:Expr}(it:Addr)(lo:Int)(n:Nat):Turn P w K tg (Itr lo n) [it] it (λi h=>IsRangeIter h it (lo+(i:Nat)*1) ((n:Int)-(i:Nat)) 1) where
 mem:=by simp
 obj:=λi h st b hb=>by
  have e:b=it:=by simpa using hb
  subst e;exact⟨_,st,λv z=>by
   have z':Data.fields _=Data.cell v:=z;cases z'⟩
 keep:=λi h h' st k=>k it (by simp) _ st
 item:=by
  intro X hP hw hK hc i pins s σ H E I hf st hg;subst hP hw hK;obtain⟨f0,f1,f2,f3,f4,f5⟩:=hf it (by simp);have W:=Walks.range (prog:=X.prog) (w:=X.w) (I.ok.hd hc) it lo 1 n;refine W.item i s _ _ hg st λv h' tk hv st' kk=>?_;obtain⟨t,rfl⟩:=hv;have I1:Inv X pins σ H { s with heap:=h',toks:=tk }:=I.turned (λb o hb e=>kk b o (by simpa using hb) e) f0 f1 f3 f4 f5;refine⟨_,rfl,ON (s:={ s with heap:=h',toks:=tk }) (n:="range_iterator") st' rfl rfl (by decide) ⟨.int (lo+i),H,I1,⟨t,?_⟩,⟨rfl,rfl⟩,st',λb hb=>(hf b hb).1⟩⟩;rw[Int.mul_one]
 done:=by
  intro X hP hw hK hc i pins s σ H E I hf st hg;subst hP hw hK;obtain⟨f0,f1,f2,f3,f4,f5⟩:=hf it (by simp);exact wpAny_pyNext_range_end (I.ok.hd hc) st (by have:n<=i:=hg;omega) λh' eb=>⟨rfl,I.turned (t':=s.toks) (λb o hb e=>eb b o hb e) f0 f1 f3 f4 f5⟩
 self:=λ_ _ _ _ _ st h=>wpAny_pyIter_rangeiter st h
section
variable{X:Cx}{tg:Expr}
def HN(K:PySem.W.Frag)(tl:TE):TI:=λσ H R=>tl σ H λx H1=>∃a,x=.ref a/\(∃xs,SqL K H1 a xs)/\R (Itl K a) H1
def OJ(K:PySem.W.Frag)(tl:TE):TI:=λσ H R=>tl σ H λx H1=>∃a,x=.ref a/\(∃xs,SqT K H1 a xs)/\R (Itt K a) H1
def VQ{l:Expr}{tl:TE}(hl:PE X l tl):PI X tg l (HN X.K tl):=by
 intro pins s σ H R I h;refine thn (hl pins s σ H _ I h) λv s1 ⟨x,H1,I1,r1,q1⟩=>?_;obtain⟨a,e,⟨xs,hq⟩,q⟩:=q1;subst e;cases r1;obtain⟨its,rv,p,hz⟩:=I1.list hq;refine wpAny_pyIter_list p.isList ?_;refine⟨s1.heap.objs.size,[s1.heap.objs.size],_,_,H1,rfl,I1.kept (t':=s1.toks) λb o e=>Heap.get?_push_of_some _ e,Op a _,⟨_,Heap.get?_push_size _ rfl,rfl,rfl⟩,λb hb=>?_,q⟩;have e:b=s1.heap.objs.size:=by simpa using hb
 subst e;exact I1.fpOk (le_refl _) (I1.hok.fresh (le_refl _))
def YT{l:Expr}{tl:TE}(hl:PE X l tl):PI X tg l (OJ X.K tl):=by
 intro pins s σ H R I h;refine thn (hl pins s σ H _ I h) λv s1 ⟨x,H1,I1,r1,q1⟩=>?_;obtain⟨a,e,⟨xs,hq⟩,q⟩:=q1;subst e;cases r1;obtain⟨its,rv,p,hz⟩:=I1.tuple hq;refine wpAny_pyIter_tuple (show s1.heap.IsTuple a its.toArray from p) ?_;refine⟨s1.heap.objs.size,[s1.heap.objs.size],_,_,H1,rfl,I1.kept (t':=s1.toks) λb o e=>Heap.get?_push_of_some _ e,NR a _,⟨_,Heap.get?_push_size _ rfl,rfl,rfl⟩,λb hb=>?_,q⟩;have e:b=s1.heap.objs.size:=by simpa using hb
 subst e;exact I1.fpOk (le_refl _) (I1.hok.fresh (le_refl _))
def LO{pins:List (Addr×Obj)}{σ:St}{H:Hp}{s:Shared}{R:It->Hp->Prop}{E:Value->Shared->Prop}{lo hi:Int}{t u v:Tok}{tk:Nat}(I:Inv X pins σ H s)(h1:-(2^62)<=lo)(h2:lo<2^62)(h3:-(2^62)<=hi)(h4:hi<2^62)
 (q:R (Itr lo (hi-lo).toNat) H):wpAny (model X.prog X.w) X.A (pyIter (.ref s.heap.objs.size)) (PIE X pins σ tg R) E { s with heap:=s.heap.push { cls:=.type "range",data:=.fields #[.int lo t,.int hi u,.int 1 v] },toks:=tk }:=by
 refine wpAny_pyIter_range (IsRange.new ..) (small_one h1 h2 h3 h4) ?_;have I1:Inv X pins σ H { s with heap:=s.heap.push { cls:=.type "range",data:=.fields #[.int lo t,.int hi u,.int 1 v] },toks:=tk }:=I.kept λb o e=>Heap.get?_push_of_some _ e;refine⟨(s.heap.push { cls:=.type "range",data:=.fields #[.int lo t,.int hi u,.int 1 v] }).objs.size,[(s.heap.push { cls:=.type "range",data:=.fields #[.int lo t,.int hi u,.int 1 v] }).objs.size],_,_,H,rfl,
  I1.kept (t':=tk) λb o e=>Heap.get?_push_of_some _ e,NS _ lo (hi-lo).toNat,?_,λb hb=>?_,q⟩
 .have e1:lo+((0:Nat):Int)*1=lo:=by simp
  have e2:(((hi-lo).toNat:Nat):Int)-((0:Nat):Int)=Builtin.Range.rangeSize lo hi 1:=by rw[rangeSize_one];split<;>omega
  show IsRangeIter _ _ (lo+((0:Nat):Int)*1) ((((hi-lo).toNat:Nat):Int)-((0:Nat):Int)) 1;rw[e1,e2];exact Heap.get?_push_size _ rfl
 .have e:b=(s.heap.push { cls:=.type "range",data:=.fields #[.int lo t,.int hi u,.int 1 v] }).objs.size:=by simpa using hb
  subst e;exact I1.fpOk (le_refl _) (I1.hok.fresh (le_refl _))
def OL(ta:TA):TI:=λσ H R=>ta σ H λvs H1=>∃j:Int,vs=[.int j]/\-(2^62)<=j/\j<2^62/\R (Itr 0 j.toNat) H1
def OK(ta:TA):TI:=λσ H R=>ta σ H λvs H1=>∃i j:Int,vs=[.int i,.int j]/\(-(2^62)<=i/\i<2^62/\-(2^62)<=j/\j<2^62)/\R (Itr i (j-i).toNat) H1
def PZ{a:Expr}{ta:TA}{p pos:Pos}(hg:Gl X "range")(hm:X.mg "range"=none)(ha:PA X [a] ta)(hs:starEach [a] X.env=[(false,eval a X.env)]:=by rfl):PI X tg (.Call (.Name "range" p) [a] [] pos) (OL ta):=by
 intro pins s σ H R I h;refine Call_ (F0 I hg hm boot_range (PyProof.Rows.callWith_type1 (thn (ha pos pins s σ H _ I h) λus s1 ⟨vs,H1,I1,r1,q1⟩=>?_) hs rfl));obtain⟨j,e,q1,q2,q⟩:=q1;subst e;cases r1 with
 |cons r rr=>
  cases rr;obtain⟨t,rfl⟩:=r;exact call_range_1 (LO I1 (by omega) (by omega) q1 q2 (by simpa using q))
def PY{a b:Expr}{ta:TA}{p pos:Pos}(hg:Gl X "range")(hm:X.mg "range"=none)(ha:PA X [a,b] ta)(hs:starEach [a,b] X.env=[(false,eval a X.env),(false,eval b X.env)]:=by rfl)(hs2:starEach [b] X.env=[(false,eval b X.env)]:=by rfl):
 PI X tg (.Call (.Name "range" p) [a,b] [] pos) (OK ta):=by
 intro pins s σ H R I h;refine Call_ (F0 I hg hm boot_range (PyProof.Rows.callWith_type1 (thn (ha pos pins s σ H _ I h) λus s1 ⟨vs,H1,I1,r1,q1⟩=>?_) (by rw[hs,hs2]) (by rw[hs2];rfl)));obtain⟨i,j,e,⟨q1,q2,q3,q4⟩,q⟩:=q1;subst e;cases r1 with
 |cons r rr=>
  cases rr with
  |cons r' rr=>
   cases rr;obtain⟨t,rfl⟩:=r;obtain⟨t',rfl⟩:=r';exact call_range_2 (LO I1 q1 q2 q3 q4 q)
def RK(wi:TI)(g:TG)(tb:TS):TS:=λD σ H=>wi σ H λJ H1=>∃W:Nat->Nat->St->Hp->Prop,(∃m,W 0 m σ H1)/\∀i m σ H,W i m σ H ->
 (J.stop i H/\D.nx σ H)∨(J.go i H/\∃N:St->Hp->Prop,(∀σ' H',N σ' H'->∃m',m'<m/\W (i+1) m' σ' H')/\∀x H',J.yld i H x H'->g x σ H' λσ2 H2=>tb { D with nx:=N,ct:=N,bk:=D.nx } σ2 H2)
def EB(fp:List Addr)(h:Heap):List (Addr×Obj):=fp.filterMap λb=>(h.get? b).map λo=>(b,o)
def BW{fp:List Addr}{h:Heap}{b:Addr}{o:Obj}(hb:b∈fp)(e:h.get? b=some o):(b,o)∈EB fp h:=mem_filterMap.mpr ⟨b,hb,by rw[e];rfl⟩
def Pm{fp:List Addr}{h:Heap}{p:Addr×Obj}(hp:p∈EB fp h):p.1∈fp/\h.get? p.1=some p.2:=by
 obtain⟨b,hb,e⟩:=mem_filterMap.mp hp;cases q:h.get? b with
 |none=>rw[q]at e;cases e
 |some o=>
  rw[q]at e;have e':(b,o)=p:=Option.some.inj e;subst e';exact⟨hb,q⟩
def Inv.pinned{pins:List (Addr×Obj)}{σ:St}{H:Hp}{s:Shared}{fp:List Addr}(I:Inv X pins σ H s)(hf:∀b∈fp,C1 X pins H b)(ho:∀b∈fp,∃o,s.heap.get? b=some o/\∀v,o.data≠.cell v):Inv X (pins++EB fp s.heap) σ H s:=
 I.pins_of λp hp=>(mem_append.mp hp).elim (λz=>I.pin p (mem_append_right _ z)) λz=>by
  obtain⟨hb,e⟩:=Pm z;obtain⟨f0,f1,f2,_⟩:=hf p.1 hb;obtain⟨o,e',d⟩:=ho p.1 hb;rw[e]at e';cases e';exact⟨e,f0,f1,f2,d⟩
def Inv.unpinned{pins pl:List (Addr×Obj)}{σ:St}{H:Hp}{s:Shared}(I:Inv X (pins++pl) σ H s):Inv X pins σ H s:=I.pins_of λp hp=>I.pin p (mem_append_right _ (mem_append_left _ hp))
def YQ{iter:Expr}{body:List Stmt}{wi:TI}{g:TG}{tb:TS}{pos:Pos}(hp:PassesOwn (model X.prog X.w) X.A X.env X.xe)(hc:X.calm=true)(hi:PI X tg iter wi)(hg:PG X tg g)(hb:PSs X body tb)
 (hs:∀x,foldedSetIterable iter X.env x=pure x:=by intro _;rfl):PS X (.For tg iter body [] pos) (RK wi g tb):=by
 intro pins s σ H D I h;refine wpAny_For (thn (hi pins s σ H _ I h) λv s1 h1=>thn h1 λitv s2 h2=>?_) hs;obtain⟨it,fp,tn,J,H2,e,I2,T,st2,f2,W,⟨m0,w0⟩,turn⟩:=h2;subst e
 -- what stays true of the iterator's objects through the loop
 have stat:∀{H':Hp},(∀b∈fp,H' b=none)->∀b∈fp,C1 X pins H' b:=λhn b hb=>⟨hn b hb,(f2 b hb).2⟩
 refine codeAny_forLoop_any (λn s'=>∃i σ' H',Inv X pins σ' H' s'/\tn i s'.heap/\(∀b∈fp,H' b=none)/\W i n σ' H') ?_ m0 ⟨0,σ,H2,I2,st2,λb hb=>(f2 b hb).1,w0⟩;rintro n s3 ⟨i,σ3,H3,I3,st3,fr3,w3⟩;rcases turn i n σ3 H3 w3 with⟨stop,qn⟩|⟨go,N,hN,step⟩
 .refine wpAny_passesOwn hp (thn (T.done X rfl rfl rfl hc i pins s3 σ3 H3 X.xe I3 (stat fr3) st3 stop) λr s4 ⟨hr,I4⟩=>?_);subst hr;exact wpAny_execs_nil ⟨σ3,H3,I4,qn⟩
 .refine wpAny_passesOwn hp (thn (T.item X rfl rfl rfl hc i pins s3 σ3 H3 X.xe I3 (stat fr3) st3 go) λr s4 ⟨u,hr,h4⟩=>?_);subst hr;refine wpAny_passesOwn hp (thn h4 λ_ s5 ⟨x,H5,I5,r5,y5,st5,fr5⟩=>?_);have I5':=I5.pinned (stat fr5) (T.obj _ _ st5);refine wpAny_passesOwn hp (thn (hg _ s5 σ3 H5 x u _ I5' r5 (step x H5 y5)) λ_ s6 ⟨σ6,H6,I6,q6⟩=>?_);refine wpAny_passesOwn hp (thn (hb _ s6 σ6 H6 _ I6 q6) λf s7 q7=>?_);have again:∀{σ7:St} {H7:Hp},Inv X (pins++EB fp s5.heap) σ7 H7 s7->N σ7 H7->∃m,m<n/\∃i σ' H',Inv X pins σ' H' s7/\tn i s7.heap/\(∀b∈fp,H' b=none)/\W i m σ' H':=λ{σ7 H7} I7 n7=>by
   obtain⟨m',hm,w7⟩:=hN σ7 H7 n7;refine⟨m',hm,i+1,σ7,H7,I7.unpinned,T.keep _ _ _ st5 λb hb o e=>(I7.pin (b,o) (mem_append_right _ (mem_append_right _ (BW hb e)))).1,λb hb=>?_,w7⟩;obtain⟨o,e,d⟩:=T.obj _ _ st5 b hb;exact(I7.pin (b,o) (mem_append_right _ (mem_append_right _ (BW hb e)))).2.1
  cases f with
  |next=>obtain⟨σ7,H7,I7,n7⟩:=q7;exact again I7 n7
  |cont=>obtain⟨σ7,H7,I7,n7⟩:=q7;exact again I7 n7
  |brk=>obtain⟨σ7,H7,I7,q7⟩:=q7;exact⟨σ7,H7,I7.unpinned,q7⟩
  |ret v=>obtain⟨x7,σ7,H7,I7,r7,q7⟩:=q7;exact⟨x7,σ7,H7,I7.unpinned,r7,q7⟩
end
abbrev R2:=V->V->Hp->VK->Prop
def OpR(X:Cx)(f:Value->Value->Sem Value)(r:R2):Prop:=
 ∀(pins:List (Addr×Obj)) (s:Shared) (σ:St) (H:Hp) (x y:V) (v u:Value) (Q:VK),Inv X pins σ H s->RelV x v->RelV y u->r x y H Q ->
   wpAny (model X.prog X.w) X.A (f v u) (EP X pins σ Q) X.xe s
def UnR(X:Cx)(f:Value->Sem Value)(r:V->Hp->VK->Prop):Prop:=
 ∀(pins:List (Addr×Obj)) (s:Shared) (σ:St) (H:Hp) (x:V) (v:Value) (Q:VK),Inv X pins σ H s->RelV x v->r x H Q ->
   wpAny (model X.prog X.w) X.A (f v) (EP X pins σ Q) X.xe s
def CallR(X:Cx)(f:Value)(r:List V->Hp->VK->Prop):Prop:=
 ∀(pins:List (Addr×Obj)) (s:Shared) (σ:St) (H:Hp) (xs:List V) (us:List Value) (Q:VK),Inv X pins σ H s->Vals xs us->r xs H Q ->
   wpAny (model X.prog X.w) X.A (call f us) (EP X pins σ Q) X.xe s
def bg(X:Cx)(r:V->Hp->(Bool->Hp->Prop)->Prop):Prop:=
 ∀(pins:List (Addr×Obj)) (s:Shared) (σ:St) (H:Hp) (x:V) (v:Value) (Q:Bool->Hp->Prop),Inv X pins σ H s->RelV x v->r x H Q ->
   wpAny (model X.prog X.w) X.A (truthy v) (TP X pins σ Q) X.xe s
def tOp(r:R2)(ta tb:TE):TE:=λσ H Q=>ta σ H λx H1=>tb σ H1 λy H2=>r x y H2 Q
def tUn(r:V->Hp->VK->Prop)(ta:TE):TE:=λσ H Q=>ta σ H λx H1=>r x H1 Q
def rI(C:Int->Int->Prop)(g:Int->Int->V):R2:=λx y H Q=>∃i j,x=.int i/\y=.int j/\C i j/\Q (g i j) H
def rI0(g:Int->Int->V):R2:=λx y H Q=>∃i j,x=.int i/\y=.int j/\Q (g i j) H
def rU(g:Int->V):V->Hp->VK->Prop:=λx H Q=>∃i,x=.int i/\Q (g i) H
section
variable{X:Cx}{a b c:Expr}{ta tb tc:TE}{pos:Pos}
def Sn(ha:PE X a ta)(hb:PE X b tb){pins:List (Addr×Obj)}{s:Shared}{σ:St}{H:Hp}{R:V->V->Hp->Prop}(I:Inv X pins σ H s)
 (h:ta σ H λx H1=>tb σ H1 λy H2=>R x y H2) {Q:Value->Shared->Prop} {f:Value->Value->Sem Value}
 (hf:∀v u s2 x y H2,Inv X pins σ H2 s2->RelV x v->RelV y u->R x y H2->wpAny (model X.prog X.w) X.A (f v u) Q X.xe s2):
 wpAny (model X.prog X.w) X.A (eval a X.env) (λv s₁=>wpAny (model X.prog X.w) X.A (eval b X.env) (λu s₂=>wpAny (model X.prog X.w) X.A (f v u) Q X.xe s₂) X.xe s₁) X.xe s:=by
 refine thn (ha pins s σ H _ I h) λv s1 ⟨x,H1,I1,r1,q1⟩=>?_;refine thn (hb pins s1 σ H1 _ I1 q1) λu s2 ⟨y,H2,I2,r2,q2⟩=>?_;exact hf v u s2 x y H2 I2 r1 r2 q2
def TF{op:Operator}{r:R2}(ho:OpR X (binaryOp op) r)(ha:PE X a ta)(hb:PE X b tb):PE X (.BinOp a op b pos) (tOp r ta tb):=by
 intro pins s σ H Q I h;exact wpAny_BinOp (Sn ha hb I h λv u s2 x y H2 I2 rx ry q=>ho pins s2 σ H2 x y v u Q I2 rx ry q)
def aM{op:UnaryOp}{r:V->Hp->VK->Prop}(ho:UnR X (unaryOp op) r)(ha:PE X a ta):PE X (.UnaryOp op a pos) (tUn r ta):=by
 intro pins s σ H Q I h;exact UnaryOp_ (thn (ha pins s σ H _ I h) λv s1 ⟨x,H1,I1,r1,q1⟩=>ho pins s1 σ H1 x v Q I1 r1 q1)
def opI{f:Value->Value->Sem Value}{C:Int->Int->Prop}{g:Int->Int->Int}
 (rule:∀(i j:Int) (t u:Tok) (s:Shared) (Q:Value->Shared->Prop) (E:Value->Shared->Prop),C i j->Q (.int (g i j) s.toks) { s with toks:=s.toks+1 }->wpAny (model X.prog X.w) X.A (f (.int i t) (.int j u)) Q E s):
 OpR X f (rI C λi j=>.int (g i j)):=by
 intro pins s σ H x y v u Q I rx ry h;obtain⟨i,j,rfl,rfl,hc,q⟩:=h;obtain⟨t,rfl⟩:=rx;obtain⟨t',rfl⟩:=ry;exact rule i j t t' s _ _ hc ⟨.int (g i j),H,I.tok _,⟨_,rfl⟩,q⟩
def Yt{f:Value->Value->Sem Value}{g:Int->Int->Int}
 (rule:∀(i j:Int) (t u:Tok) (s:Shared) (Q:Value->Shared->Prop) (E:Value->Shared->Prop),Q (.int (g i j) s.toks) { s with toks:=s.toks+1 }->wpAny (model X.prog X.w) X.A (f (.int i t) (.int j u)) Q E s):
 OpR X f (rI0 λi j=>.int (g i j)):=by
 intro pins s σ H x y v u Q I rx ry h;obtain⟨i,j,rfl,rfl,q⟩:=h;obtain⟨t,rfl⟩:=rx;obtain⟨t',rfl⟩:=ry;exact rule i j t t' s _ _ ⟨.int (g i j),H,I.tok _,⟨_,rfl⟩,q⟩
def OA{f:Value->Value->Sem Value}{g:Int->Int->Bool}
 (rule:∀(i j:Int) (t u:Tok) (s:Shared) (Q:Value->Shared->Prop) (E:Value->Shared->Prop),Q (.bool (g i j)) s->wpAny (model X.prog X.w) X.A (f (.int i t) (.int j u)) Q E s):
 OpR X f (rI0 λi j=>.bl (g i j)):=by
 intro pins s σ H x y v u Q I rx ry h;obtain⟨i,j,rfl,rfl,q⟩:=h;obtain⟨t,rfl⟩:=rx;obtain⟨t',rfl⟩:=ry;exact rule i j t t' s _ _ ⟨.bl (g i j),H,I,rfl,q⟩
def Zq(i j:Int):Prop:=0<j/\j<1073741824
def Zp(i j:Int):Prop:=0<=j/\j<=1000000/\i.natAbs<2^64
def CMul(i j:Int):Prop:=(-(2^64)<i/\i<2^64)∨(-(2^64)<j/\j<2^64)
def CMul.ok{i j:Int}(h:CMul i j):IntMulOk i j:=by
 rcases h with⟨h1,h2⟩|⟨h1,h2⟩
 .exact .of_left (intBits_le_64 h1 h2)
 .exact .of_right (intBits_le_64 h1 h2)
def Pj:OpR X (binaryOp .Add) (rI0 λi j=>.int (i+j)):=Yt λ_ _ _ _ _ _ _ q=>add_int q
def Yl:OpR X (binaryOp .Sub) (rI0 λi j=>.int (i-j)):=Yt λ_ _ _ _ _ _ _ q=>sub_int q
def Yo:OpR X (binaryOp .Mult) (rI CMul λi j=>.int (i*j)):=opI λ_ _ _ _ _ _ _ hc q=>mul_int q hc.ok
def Vc:OpR X (binaryOp .FloorDiv) (rI Zq λi j=>.int (i/j)):=opI λi j _ _ _ _ _ hc q=>by
 have h1:(0:Int)<j:=hc.1;have h2:j<1073741824:=hc.2;exact floordiv_int (by omega) (by rw[Int.fdiv_eq_ediv_of_nonneg i (by omega)];exact q) (.inl (PyProof.noPylong_small (by omega)))
def Yp:OpR X (binaryOp .Mod) (rI (λ_ j=>0<j) λi j=>.int (i%j)):=opI λi j _ _ _ _ _ hc q=>by
 have h1:(0:Int)<j:=hc;exact mod_int' (by omega) (by rw[Int.fmod_eq_emod_of_nonneg i (by omega)];exact q)
def Ym:OpR X (binaryOp .Pow) (rI Zp λi j=>.int (i^j.toNat)):=opI λ_ _ _ _ _ _ _ hc q=>pow_int_small hc.1 hc.2.1 hc.2.2 q
def unI{f:Value->Sem Value}{g:Int->Int}
 (rule:∀(i:Int) (t:Tok) (s:Shared) (Q:Value->Shared->Prop) (E:Value->Shared->Prop),Q (.int (g i) s.toks) { s with toks:=s.toks+1 }->wpAny (model X.prog X.w) X.A (f (.int i t)) Q E s):
 UnR X f (rU λi=>.int (g i)):=by
 intro pins s σ H x v Q I rx h;obtain⟨i,rfl,q⟩:=h;obtain⟨t,rfl⟩:=rx;exact rule i t s _ _ ⟨.int (g i),H,I.tok _,⟨_,rfl⟩,q⟩
def Wd:UnR X (unaryOp .USub) (rU λi=>.int (-i)):=unI λ_ _ _ _ _ q=>neg_int q
end
def LD:V->V->Bool
 |.non,.non=>true|.non,.int _=>true|.int _,.non=>true|.non,.bl _=>true|.bl _,.non=>true|.non,.str _=>true|.str _,.non=>true
 |.int _,.int _=>true|.bl _,.bl _=>true|.str _,.str _=>true|.byt _,.byt _=>true
 |.int _,.str _=>true|.str _,.int _=>true|.bl _,.str _=>true|.str _,.bl _=>true
 |_,_=>false
def rEq:R2:=λx y H Q=>LD x y=true/\Q (.bl (decide (x=y))) H
def rNe:R2:=λx y H Q=>LD x y=true/\Q (.bl (!decide (x=y))) H
def NE{i j:Int}:decide (V.int i=V.int j)=(i==j):=by
 rw[Bool.eq_iff_iff];simp
def QJ{i j:Bool}:decide (V.bl i=V.bl j)=(i==j):=by
 rw[Bool.eq_iff_iff];simp
def ND{i j:Str}:decide (V.str i=V.str j)=(i==j):=by
 rw[Bool.eq_iff_iff];simp
def NF{i j:Array UInt8}:decide (V.byt i=V.byt j)=(i.toList==j.toList):=by
 rw[Bool.eq_iff_iff];cases i;cases j;simp
section
variable{X:Cx}{a b c:Expr}{ta tb tc:TE}{pos:Pos}
def Ar{pins:List (Addr×Obj)}{σ:St}{H:Hp}{s:Shared}{Q:VK}{k k':Bool}(I:Inv X pins σ H s)(q:Q (.bl k) H)(e:k=k'):EP X pins σ Q (.bool k') s:=by
 subst e;exact⟨.bl k,H,I,rfl,q⟩
def TM:OpR X (compareOp .Eq) rEq:=by
 intro pins s σ H x y v u Q I rx ry h;obtain⟨hs,q⟩:=h;cases x with
 |non=>
  cases rx;cases y with
  |non=>cases ry;exact PySem.EqNone.eq_none_none (Ar I q (by simp))
  |bl j=>cases ry;exact PySem.EqNone.eq_none_bool (Ar I q (by simp))
  |int j=>obtain⟨t',rfl⟩:=ry;exact PySem.EqNone.eq_none_int (Ar I q (by simp))
  |str j=>obtain⟨t',rfl⟩:=ry;exact PySem.EqNone.eq_none_str (Ar I q (by simp))
  |_=>exact absurd (show false=true from hs) Bool.false_ne_true
 |bl i=>
  cases rx;cases y with
  |non=>cases ry;exact PySem.EqNone.eq_bool_none (Ar I q (by simp))
  |bl j=>cases ry;exact eq_bool (Ar I q QJ)
  |str j=>obtain⟨t',rfl⟩:=ry;exact PySem.EqMixed.eq_bool_str (Ar I q (by simp))
  |_=>exact absurd (show false=true from hs) Bool.false_ne_true
 |int i=>
  obtain⟨t,rfl⟩:=rx;cases y with
  |non=>cases ry;exact PySem.EqNone.eq_int_none (Ar I q (by simp))
  |int j=>obtain⟨t',rfl⟩:=ry;exact eq_int (Ar I q NE)
  |str j=>obtain⟨t',rfl⟩:=ry;exact PySem.EqMixed.eq_int_str (Ar I q (by simp))
  |_=>exact absurd (show false=true from hs) Bool.false_ne_true
 |str i=>
  obtain⟨t,rfl⟩:=rx;cases y with
  |non=>cases ry;exact PySem.EqNone.eq_str_none (Ar I q (by simp))
  |bl j=>cases ry;exact PySem.EqMixed.eq_str_bool (Ar I q (by simp))
  |int j=>obtain⟨t',rfl⟩:=ry;exact PySem.EqMixed.eq_str_int (Ar I q (by simp))
  |str j=>obtain⟨t',rfl⟩:=ry;exact eq_str (Ar I q ND)
  |_=>exact absurd (show false=true from hs) Bool.false_ne_true
 |byt i=>
  obtain⟨t,rfl⟩:=rx;cases y with
  |byt j=>obtain⟨t',rfl⟩:=ry;exact PySem.W.eq_bytes (Ar I q NF)
  |_=>exact absurd (show false=true from hs) Bool.false_ne_true
 |_=>cases y<;>exact absurd (show false=true from hs) Bool.false_ne_true
def aQ:OpR X (compareOp .NotEq) rNe:=by
 intro pins s σ H x y v u Q I rx ry h;obtain⟨hs,q⟩:=h;cases x with
 |non=>
  cases rx;cases y with
  |non=>cases ry;exact PySem.EqNone.ne_none_none (Ar I q (by simp))
  |bl j=>cases ry;exact PySem.EqNone.ne_none_bool (Ar I q (by simp))
  |int j=>obtain⟨t',rfl⟩:=ry;exact PySem.EqNone.ne_none_int (Ar I q (by simp))
  |str j=>obtain⟨t',rfl⟩:=ry;exact PySem.EqNone.ne_none_str (Ar I q (by simp))
  |_=>exact absurd (show false=true from hs) Bool.false_ne_true
 |bl i=>
  cases rx;cases y with
  |non=>cases ry;exact PySem.EqNone.ne_bool_none (Ar I q (by simp))
  |bl j=>cases ry;exact ne_bool (Ar I q (congrArg not QJ))
  |str j=>obtain⟨t',rfl⟩:=ry;exact PySem.EqMixed.ne_bool_str (Ar I q (by simp))
  |_=>exact absurd (show false=true from hs) Bool.false_ne_true
 |int i=>
  obtain⟨t,rfl⟩:=rx;cases y with
  |non=>cases ry;exact PySem.EqNone.ne_int_none (Ar I q (by simp))
  |int j=>obtain⟨t',rfl⟩:=ry;exact ne_int (Ar I q (congrArg not NE))
  |str j=>obtain⟨t',rfl⟩:=ry;exact PySem.EqMixed.ne_int_str (Ar I q (by simp))
  |_=>exact absurd (show false=true from hs) Bool.false_ne_true
 |str i=>
  obtain⟨t,rfl⟩:=rx;cases y with
  |non=>cases ry;exact PySem.EqNone.ne_str_none (Ar I q (by simp))
  |bl j=>cases ry;exact PySem.EqMixed.ne_str_bool (Ar I q (by simp))
  |int j=>obtain⟨t',rfl⟩:=ry;exact PySem.EqMixed.ne_str_int (Ar I q (by simp))
  |str j=>obtain⟨t',rfl⟩:=ry;exact ne_str (Ar I q (congrArg not ND))
  |_=>exact absurd (show false=true from hs) Bool.false_ne_true
 |byt i=>
  obtain⟨t,rfl⟩:=rx;cases y with
  |byt j=>obtain⟨t',rfl⟩:=ry;exact PySem.W.ne_bytes (Ar I q (congrArg not NF))
  |_=>exact absurd (show false=true from hs) Bool.false_ne_true
 |_=>cases y<;>exact absurd (show false=true from hs) Bool.false_ne_true
def O8:OpR X (compareOp .Lt) (rI0 λi j=>.bl (decide (i<j))):=OA λ_ _ _ _ _ _ _ q=>lt_int q
def O9:OpR X (compareOp .LtE) (rI0 λi j=>.bl (decide (i<=j))):=OA λ_ _ _ _ _ _ _ q=>le_int q
def TK:OpR X (compareOp .Gt) (rI0 λi j=>.bl (decide (j<i))):=OA λ_ _ _ _ _ _ _ q=>gt_int q
def TL:OpR X (compareOp .GtE) (rI0 λi j=>.bl (decide (j<=i))):=OA λ_ _ _ _ _ _ _ q=>ge_int q
def OpR.or{f:Value->Value->Sem Value}{r r':R2}(h:OpR X f r)(h':OpR X f r'):OpR X f (λx y H Q=>r x y H Q∨r' x y H Q):=by
 intro pins s σ H x y v u Q I rx ry q;rcases q with q|q
 .exact h pins s σ H x y v u Q I rx ry q
 .exact h' pins s σ H x y v u Q I rx ry q
def FS(b:Expr){op:CmpOp}(h:op≠.In:=by decide)(h2:op≠.NotIn:=by decide):behindInMarks op b=false:=by
 have e1:(op==CmpOp.In)=false:=by cases op<;>first|rfl|exact absurd rfl h
 have e2:(op==CmpOp.NotIn)=false:=by cases op<;>first|rfl|exact absurd rfl h2
 cases b<;>simp[behindInMarks,e1,e2]
def My{op:CmpOp}{r:R2}(ho:OpR X (compareOp op) r)(ha:PE X a ta)(hb:PE X b tb)(hm:behindInMarks op b=false):PE X (.Compare a [op] [b] pos) (tOp r ta tb):=by
 intro pins s σ H Q I h;exact wpAny_Compare1 (Sn ha hb I h λv u s2 x y H2 I2 rx ry q=>ho pins s2 σ H2 x y v u Q I2 rx ry q) hm
def HB(t:TE):TT:=λσ H Q=>t σ H λx H'=>∃k,x=.bl k/\Q k H'
def HH{op:CmpOp}{r:R2}(ho:OpR X (compareOp op) r)(ha:PE X a ta)(hb:PE X b tb)(hm:behindInMarks op b=false):PT X (.Compare a [op] [b] pos) (HB (tOp r ta tb)):=by
 intro pins s σ H Q I h;refine wpAny_isTrue_Compare1 (thn (ha pins s σ H _ I h) λv s1 ⟨x,H1,I1,r1,q1⟩=>thn (hb pins s1 σ H1 _ I1 q1) λu s2 ⟨y,H2,I2,r2,q2⟩=>
  thn (ho pins s2 σ H2 x y v u _ I2 r1 r2 q2) λc s3 ⟨z,H3,I3,r3,k,e,q3⟩=>?_) hm
 subst e;cases r3;exact wpAny_truthy_bool ⟨H3,I3,q3⟩
def Kz(r r':R2)(ta tb tc:TE):TE:=λσ H Q=>ta σ H λx H1=>tb σ H1 λy H2=>r x y H2 λz H3=>∃k,z=.bl k /\
 (if k=true then tc σ H3 λw' H4=>r' y w' H4 Q else Q (.bl false) H3)
def SK{op op':CmpOp}{r r':R2}(ho:OpR X (compareOp op) r)(ho':OpR X (compareOp op') r')(ha:PE X a ta)(hb:PE X b tb)(hc:PE X c tc)
 (hm:lastMarks [op,op'] [b,c]=false:=by with_unfolding_all rfl):PE X (.Compare a [op,op'] [b,c] pos) (Kz r r' ta tb tc):=by
 intro pins s σ H Q I h;refine Compare_chain (thn (ha pins s σ H _ I h) λv s1 ⟨x,H1,I1,r1,q1⟩=>chain_link (thn (hb pins s1 σ H1 _ I1 q1) λu s2 ⟨y,H2,I2,r2,q2⟩=>
  thn (ho pins s2 σ H2 x y v u _ I2 r1 r2 q2) λd s3 ⟨z,H3,I3,r3,k,e,q3⟩=>?_)) hm
 subst e;cases r3;refine wpAny_truthy_bool ?_;cases k with
 |false=>exact ite_ff ⟨.bl false,H3,I3,rfl,q3⟩
 |true=>exact ite_tt (chain_last (thn (hc pins s3 σ H3 _ I3 q3) λw' s4 ⟨z',H4,I4,r4,q4⟩=>ho' pins s4 σ H4 y z' u w' Q I4 r2 r4 q4))
def MC(K:PySem.W.Frag)(x:V)(H:Hp)(k:Bool):Prop:=
 match x with
 |.non=>k=false
 |.bl b=>k=b
 |.int i=>k=(i != 0)
 |.str y=>y.length<=sizeLine/\k=((y.length:Int) != 0)
 |.byt y=>y.size<=sizeLine/\k=((y.size:Int) != 0)
 |.ref p=>(∃xs,SqL K H p xs/\k=!xs.isEmpty)∨(∃xs,SqT K H p xs/\k=!xs.isEmpty)∨∃kvs,H p=some (.dK kvs)/\k=!kvs.isEmpty
 |_=>False
def OH{κ:Type}{kvs:List (κ×V)}{vs:List (κ×Value)}(r:KV kvs vs):(!vs.isEmpty)=!kvs.isEmpty:=by
 cases r<;>rfl
def Iq{xs:List V}{its:List Value}(r:Vals xs its):(!its.toArray.isEmpty)=!xs.isEmpty:=by
 cases r<;>simp
def FX:(sizeLine:Nat)<2^63:=by rw[sizeLine_eq];decide
def Wf:bg X (λx H Q=>∃k,MC X.K x H k/\Q k H):=by
 intro pins s σ H x v Q I rx h;obtain⟨k,e,q⟩:=h;have hl:=FX;have hs:sizeLine=16777216:=sizeLine_eq;cases x with
 |non=>
  cases rx;have e':k=false:=e;subst e';exact truthy_none ⟨H,I,q⟩
 |bl b=>
  cases rx;have e':k=b:=e;subst e';exact wpAny_truthy_bool ⟨H,I,q⟩
 |int i=>
  obtain⟨t,rfl⟩:=rx;have e':k=(i != 0):=e;subst e';exact PySem.P.truthy_int ⟨H,I,q⟩
 |str y=>
  obtain⟨t,rfl⟩:=rx;obtain⟨hy,e'⟩:y.length<=sizeLine/\k=((y.length:Int) != 0):=e;subst e';exact PySem.P.truthy_str (by omega) ⟨H,I.tok _,q⟩
 |byt y=>
  obtain⟨t,rfl⟩:=rx;obtain⟨hy,e'⟩:y.size<=sizeLine/\k=((y.size:Int) != 0):=e;subst e';exact PySem.W.truthy_bytes (by omega) ⟨H,I.tok _,q⟩
 |ref p=>
  cases rx;have e':(∃xs,SqL X.K H p xs/\k=!xs.isEmpty)∨(∃xs,SqT X.K H p xs/\k=!xs.isEmpty)∨∃kvs,H p=some (.dK kvs)/\k=!kvs.isEmpty:=e;rcases e' with⟨xs,hx,e'⟩|⟨xs,hx,e'⟩|⟨kvs,hx,e'⟩
  .subst e';obtain⟨its,r,pl,hz⟩:=I.list hx;have hlen:=r.length;exact wpAny_truthy_list pl.isList (by simp only[size_toArray];omega) ⟨H,I.tok _,by rw[Iq r];exact q⟩
  .subst e';obtain⟨its,r,pl,hz⟩:=I.tuple hx;have hlen:=r.length;exact truthy_tuple pl (by simp only[size_toArray];omega) ⟨H,I.tok _,by rw[Iq r];exact q⟩
  .subst e';obtain⟨hz,hS,vs,r,m⟩:kvs.length<=sizeLine/\(p==sysModules)=false/\∃vs,KV kvs vs/\s.heap.DictOf (BF X.prog X.w) p vs:=I.hok p _ hx;have hlen:kvs.length=vs.length:=Paired.length r;exact wpAny_truthy_dict hS m (by omega) ⟨H,I.tok _,by rw[OH r];exact q⟩
 |_=>exact(show False from e).elim
def S8(ha:PE X a ta)(he:∀whole,isTrue a X.env whole=(do let v <- whole;standAt a.pos;holding [v] (truthy v))):
 PT X a (λσ H Q=>ta σ H λx H'=>∃k,MC X.K x H' k/\Q k H'):=by
 intro pins s σ H Q I h;exact isTrue_plain (thn (ha pins s σ H _ I h) λv s1 ⟨x,H1,I1,r1,q1⟩=>Wf pins s1 σ H1 x v Q I1 r1 q1) (he _)
def C9{x:V}{us:List Value}(r:Vals [x] us):∃u,us=[u]/\RelV x u:=by
 cases r with
 |cons r1 r2=>cases r2;exact⟨_,rfl,r1⟩
def NQ{x y:V}{us:List Value}(r:Vals [x,y] us):∃u w',us=[u,w']/\RelV x u/\RelV y w':=by
 cases r with
 |cons r1 r2=>
  cases r2 with
  |cons r3 r4=>cases r4;exact⟨_,_,rfl,r1,r3⟩
def QU(hc:X.calm=true):CallR X (.builtin "min") (λxs H Q=>∃i j,xs=[.int i,.int j]/\Q (.int (if j<i then j else i)) H):=by
 intro pins s σ H xs us Q I r h;obtain⟨i,j,rfl,q⟩:=h;obtain⟨u,w',rfl,⟨t,rfl⟩,⟨t',rfl⟩⟩:=NQ r;refine min_two_ints (I.ok.hd hc) λh' tk k=>⟨_,H,I.kept k,?_,q⟩
 by_cases hj:j<i
 .rw[if_pos hj,if_pos hj];exact⟨_,rfl⟩
 .rw[if_neg hj,if_neg hj];exact⟨_,rfl⟩
def QX:CallR X (.type "int") (λxs H Q=>(∃i,xs=[.int i]/\Q (.int i) H)∨∃k,xs=[.bl k]/\Q (.int (if k then 1 else 0)) H):=by
 intro pins s σ H xs us Q I r h;rcases h with⟨i,rfl,q⟩|⟨k,rfl,q⟩
 .obtain⟨u,rfl,t,rfl⟩:=C9 r;exact call_int_int ⟨.int i,H,I,⟨_,rfl⟩,q⟩
 .obtain⟨u,rfl,r1⟩:=C9 r;cases r1;exact call_int_bool ⟨.int (if k then 1 else 0),H,I.tok _,⟨_,rfl⟩,q⟩
end
def RelO.some_of{v:V}{o:Option Value}(r:RelO (some v) o):∃u,o=some u/\RelV v u:=by
 cases o with
 |none=>exact(show False from r).elim
 |some u=>exact⟨u,rfl,r⟩
structure Room(k:Nat)(A:Around):Prop where
 hd:A.handled=none
 dp:A.depth+3*k+5<recursionLimit
 un:A.units+16*k+200<cLine
 gd:A.guards=some []
def Room.mono{j k:Nat}{A:Around}(r:Room k A)(h:j<=k):Room j A:=⟨r.hd,by have:=r.dp;omega,by have:=r.un;omega,r.gd⟩
def Room.deeper{k:Nat}{A:Around}(r:Room (k+1) A)(env:Env):Room k (A.deeper env):=
 ⟨r.hd,by have:=r.dp;show A.depth+1+3*k+5<_;omega,by have:=r.un;show A.units+3+16*k+200<_;omega,by first|exact r.gd|(simpa [Around.deeper,Around.under,Code.guards,Code.isGuard,pushGuards]using r.gd)⟩
def Room.depth{k:Nat}{A:Around}(r:Room k A):A.depth<recursionLimit:=by have:=r.dp;omega
def Room.units{k:Nat}{A:Around}(r:Room k A):A.units+64<cLine:=by have:=r.un;omega
def Cp:TA:=λ_ H Q=>Q [] H
def Bs(ta:TE)(tr:TA):TA:=λσ H Q=>ta σ H λx H1=>tr σ H1 λxs H2=>Q (x::xs) H2
section
variable{X:Cx}{e:Expr}{es:List Expr}{te:TE}{t:TA}{pos:Pos}
def EC:PA X [] Cp:=λ_ _ _ _ H Q I h=>Calls.spliced_nil ⟨[],H,I,.nil,h⟩
def Ck(ha:PE X e te)(hr:PA X es t)(hs:starEach (e::es) X.env=(false,eval e X.env)::starEach es X.env:=by rfl):PA X (e::es) (Bs te t):=by
 intro pos pins s σ H Q I h;rw[hs];show wpAny _ _ (spliced ((false,eval e X.env)::backTo pos (starEach es X.env))) _ _ s;refine Calls.spliced_cons (thn (ha pins s σ H _ I h) λu s1 ⟨x,H1,I1,r1,q1⟩=>?_);exact thn (hr pos pins s1 σ H1 _ I1 q1) λus s2 ⟨xs,H2,I2,r2,q2⟩=>⟨x::xs,H2,I2,.cons r1 r2,q2⟩
def Qv(t:TA):TE:=λσ H Q=>t σ H λxs H1=>xs.length<=sizeLine/\∀p,H1 p=none->Q (.ref p) (upd H1 p (.tup xs))
def R8(t:TA):TE:=λσ H Q=>t σ H λxs H1=>xs.length<=sizeLine/\∀p,H1 p=none->Q (.ref p) (upd H1 p (.lst xs))
def YZ{x1}(h:PA X es t):PE X (.Tuple es x1 pos) (Qv t):=by
 intro pins s σ H Q I hq;refine wpAny_Tuple_spliced (thn (h pos pins s σ H _ I hq) λus s1 ⟨xs,H1,I1,r,z,q⟩=>⟨by rw[<- r.length];exact z,?_⟩);have hf:H1 s1.heap.objs.size=none:=I1.hok.fresh (le_refl _);refine⟨.ref s1.heap.objs.size,upd H1 s1.heap.objs.size (.tup xs),I1.laid (t':=s1.toks) (λb u e=>Heap.get?_push_of_some _ e) (le_refl _) ?_,rfl,q _ hf⟩;exact⟨z,us,r,⟨_,Heap.get?_push_size _ rfl,rfl,⟨_,rfl⟩,rfl⟩⟩
def Yg(h:PA X es t):PE X (.List es pos) (R8 t):=by
 intro pins s σ H Q I hq;refine wpAny_List_spliced (thn (h pos pins s σ H _ I hq) λus s1 ⟨xs,H1,I1,r,z,q⟩=>⟨by rw[<- r.length];exact z,?_⟩);have hf:H1 s1.heap.objs.size=none:=I1.hok.fresh (le_refl _);refine⟨.ref s1.heap.objs.size,upd H1 s1.heap.objs.size (.lst xs),I1.laid (t':=s1.toks) (λb u e=>Heap.get?_push_of_some _ e) (le_refl _) ?_,rfl,q _ hf⟩;exact⟨z,us,0,r,Heap.get?_push_size _ rfl⟩
end
abbrev Sp:=List V->Hp->VK->XK->Prop
abbrev CXT:=List Env->Hp->Shared->XK->Value->Shared->Prop
structure Env0(P:Program)(w:World)(K:PySem.W.Frag)(mg:Str->Option Value)(base:Heap)(A:Around)(outer:List Env)(s:Shared)(H:Hp):Prop where
 frames:A.frames=some outer
 mod:Mod K mg base
 bs:∀b o,base.get? b=some o->s.heap.get? b=some o/\H b=none
 bsz:base.objs.size<=s.heap.objs.size
 funs:s.heap.FunFrames base outer
 frf:∀b∈frs outer,H b=none
 hok:HOk P w H s.heap
 bare:AllBare s.gens
def CE(outer:List Env)(P:Program)(w:World)(H:Hp)(s:Shared)(Q:VK)(u:Value)(s':Shared):Prop:=
 ∃v H',s'.os=s.os/\AllBare s'.gens/\Un (frs outer) [] H H' s.heap s'.heap/\HOk P w H' s'.heap/\RelV v u/\Q v H'
def CR(CX:CXT)(outer:List Env)(P:Program)(w:World)(H:Hp)(s:Shared)(Q:VK)(E:XK)(r:Result)(s':Shared):Prop:=
 match r with
 |.ok (.ret u)=>CE outer P w H s Q u s'
 |.ok _=>False
 |.error e=>CX outer H s E e s'
structure FnOk(P:Program)(w:World)(K:PySem.W.Frag)(mg:Str->Option Value)(base:Heap)(CX:CXT)(k:Nat)(f:Addr)(fd:FuncData)(ps:List Str)(sp:Sp):Prop where
 len:∀vs H Q E,sp vs H Q E->vs.length=ps.length
 run:∀(A:Around) (outer:List Env) (s:Shared) (H:Hp) (args:Args) (us:List Value) (vs:List V) (Q:VK) (E:XK),Room k A->Env0 P w K mg base A outer s H->BindsTo s fd args (ps.zip us)->Vals vs us->sp vs H Q E ->
  codeAny (model P w) A (.call (.ref f) args) (CR CX outer P w H s Q E) s
def FnOk.mono{P:Program}{w:World}{K:PySem.W.Frag}{mg:Str->Option Value}{base:Heap}{CX:CXT}{j k:Nat}{f:Addr}{fd:FuncData}{ps:List Str}{sp:Sp}(F:FnOk P w K mg base CX j f fd ps sp)(h:j<=k):
 FnOk P w K mg base CX k f fd ps sp:=⟨F.len,λA outer s H args us vs Q E hr=>F.run A outer s H args us vs Q E (hr.mono h)⟩
section
variable{X:Cx}{pins:List (Addr×Obj)}{σ:St}{H:Hp}{s s':Shared}
def Inv.env0(I:Inv X pins σ H s):Env0 X.prog X.w X.K X.mg X.base X.A X.stack s H:=
 ⟨I.ok.frames,I.ok.mod,I.bs,le_trans I.ok.bsz I.sz,I.stack,I.stkFree,I.hok,I.bare⟩
def Inv.after{Q:VK}{u:Value}(I:Inv X pins σ H s)(h:CE X.stack X.prog X.w H s Q u s'):EP X pins σ Q u s':=by
 obtain⟨v,H',os,bare,un,hok,r,q⟩:=h;obtain⟨hh,g,d,t,os'⟩:=s';obtain rfl:os'=s.os:=os;exact⟨v,H',I.call (h':=hh) (g':=g) (d':=d) (t':=t) (ch:=[]) un hok bare (λb z=>absurd z (by simp)),r,q⟩
end
def F5(sp:Sp)(dvs:List V)(E:XK)(t:TA):TE:=λσ H Q=>t σ H λvs H1=>sp (vs++dvs) H1 Q E
def Binds(K:PySem.W.Frag)(fd:FuncData)(ps:List Str)(ds:List Value):Prop:=
 ∀(s:Shared) (us:List Value),K.In s.heap->(us++ds).length=ps.length->BindsTo s fd ⟨us,[]⟩ (ps.zip (us++ds))
def Binds.all{K:PySem.W.Frag}{fd:FuncData}{ps:List Str}(h:∀us:List Value,us.length=ps.length->bindArgs fd ⟨us,[]⟩=pure (ps.zip us)):Binds K fd ps []:=λs us _ hl=>by
 rw[append_nil]at hl ⊢;exact .of_eq (h us hl)
def MH(CX:CXT)(X:Cx)(E:XK):Prop:=∀(pins:List (Addr×Obj)) (σ:St) (H:Hp) (s:Shared) (e:Value) (s':Shared),Inv X pins σ H s->CX X.stack H s E e s'->X.xe e s'
section
variable{X:Cx}{CX:CXT}{k:Nat}{f C:Addr}{fd:FuncData}{ps:List Str}{sp:Sp}{dvs:List V}{ds:List Value}{E:XK}{x m:Str}{p pos apos:Pos}{e o:Expr}{es:List Expr}{ta:TE}{t:TA}
def Wx{pins:List (Addr×Obj)}{σ:St}{H:Hp}{s:Shared}{Q:VK}{us:List Value}{vs:List V}(F:FnOk X.prog X.w X.K X.mg X.base CX k f fd ps sp)(hr:Room k X.A)(hb:Binds X.K fd ps ds)(hd:Vals dvs ds)(hx:MH CX X E)
 (I:Inv X pins σ H s) (r:Vals vs us) (h:sp (vs++dvs) H Q E):wpAny (model X.prog X.w) X.A (call (.ref f) us) (EP X pins σ Q) X.xe s:=by
 have r2:Vals (vs++dvs) (us++ds):=r.append hd;have hl:(us++ds).length=ps.length:=by rw[<- r2.length];exact F.len _ _ _ _ h
 refine wpAny_call (codeAny_mono (F.run X.A X.stack s H ⟨us,[]⟩ (us++ds) (vs++dvs) Q E hr I.env0 (hb s us I.kIn hl) r2 h) λr s' hq=>?_);cases r with
 |error e=>exact hx pins σ H s e s' I hq
 |ok fl=>
  cases fl with
  |ret u=>exact I.after hq
  |next=>exact False.elim hq
  |brk=>exact False.elim hq
  |cont=>exact False.elim hq
def Va(F:FnOk X.prog X.w X.K X.mg X.base CX k f fd ps sp)(hr:Room k X.A)(hg:Gl X x)(hm:X.mg x=some (.ref f))(hk:PySem.W.keepIn X.K (.ref f)=true)(hb:Binds X.K fd ps ds)(hd:Vals dvs ds)(hx:MH CX X E)
 (ha:PA X (e::es) t) (hdb:(x==("__debug__":Str))=false:=by decide) (he:starEach (e::es) X.env=(false,eval e X.env)::starEach es X.env:=by rfl) (hpl:(backTo pos (starEach es X.env)).any (·.1)=false:=by rfl):
 PE X (.Call (.Name x p) (e::es) [] pos) (F5 sp dvs E t):=by
 intro pins s σ H Q I h;refine wpAny_Call_Name_kw (Vx I hg hm ?_ hdb);refine PySem.W.callWith_K (h₀:=X.base) I.ok.mod.kin hk (thn (ha pos pins s σ H _ I h) λus s1 ⟨vs,H1,I1,r,q⟩=>⟨I1.kIn,?_⟩) he hpl;exact Wx F hr hb hd hx I1 r q
end
structure FnScope(N P:List Str)(sc:Scope):Prop where
 kind:sc.kind=.function
 co:sc.isCoroutine=false
 gen:sc.isGenerator=false
 nd:N.Nodup
 pre:N.take P.length=P
 par:∀x∈P,sc.names.lookup x=some .local∨sc.names.lookup x=some .cell
 nofree:∀y∈sc.names,y.2≠.free
def K7{kindOf:Str->Option NameKind}{x:Str}:∀{binds:List (Str×Value)} {m:Str->Option Value},(∀v,(x,v)∉binds)->bindL kindOf binds m x=m x
 |[],_,_=>rfl
 |(n,v)::r,m,h=>by
   unfold bindL;rw[K7 λw hw=>h w (mem_cons_of_mem _ hw)];split
   .have:x≠n:=by rintro rfl;exact h v mem_cons_self
    simp[this]
   .rfl
def K9{kindOf:Str->Option NameKind}{x:Str}:∀{binds:List (Str×Value)} {m:Str->Option Value},(∀v,(x,v)∉binds)->bindC kindOf binds m x=m x
 |[],_,_=>rfl
 |(n,v)::r,m,h=>by
   unfold bindC;rw[K9 λw hw=>h w (mem_cons_of_mem _ hw)];split
   .rfl
   .have:x≠n:=by rintro rfl;exact h v mem_cons_self
    simp[this]
def K8{kindOf:Str->Option NameKind}{x:Str}{v:Value}:∀{P:List Str} {vs:List Value} {i:Nat} {m:Str->Option Value},P.Nodup->P[i]?=some x->vs[i]?=some v->kindOf x=some .local ->
 bindL kindOf (P.zip vs) m x=some v
 |[],_,_,_,_,h,_,_=>by simp at h
 |_::_,[],_,_,_,_,h,_=>by simp at h
 |p::P,w::vs,0,m,nd,h1,h2,hk=>by
  simp at h1 h2;subst h1;subst h2;show bindL kindOf ((p,w)::P.zip vs) m p=_;unfold bindL;rw[K7 λv hv=>(nodup_cons.mp nd).1 (List.of_mem_zip hv).1,if_pos hk];simp
 |p::P,w::vs,i+1,m,nd,h1,h2,hk=>by
  show bindL kindOf ((p,w)::P.zip vs) m x=_;unfold bindL;exact K8 (i:=i) (nodup_cons.mp nd).2 (by simpa using h1) (by simpa using h2) hk
def KA{kindOf:Str->Option NameKind}{x:Str}{v:Value}:∀{P:List Str} {vs:List Value} {i:Nat} {m:Str->Option Value},P.Nodup->P[i]?=some x->vs[i]?=some v->kindOf x≠some .local ->
 bindC kindOf (P.zip vs) m x=some v
 |[],_,_,_,_,h,_,_=>by simp at h
 |_::_,[],_,_,_,_,h,_=>by simp at h
 |p::P,w::vs,0,m,nd,h1,h2,hk=>by
  simp at h1 h2;subst h1;subst h2;show bindC kindOf ((p,w)::P.zip vs) m p=_;unfold bindC;rw[K9 λv hv=>(nodup_cons.mp nd).1 (List.of_mem_zip hv).1,if_neg hk];simp
 |p::P,w::vs,i+1,m,nd,h1,h2,hk=>by
  show bindC kindOf ((p,w)::P.zip vs) m x=_;unfold bindC;exact KA (i:=i) (nodup_cons.mp nd).2 (by simpa using h1) (by simpa using h2) hk
def D6(N:List Str)(vs:List V):St:=vs.map some++List.replicate (N.length-vs.length) none
def Gk(CX:CXT)(P:Program)(w:World)(K:PySem.W.Frag)(mg:Str->Option Value)(base:Heap)(N:List Str)(qual:Str)(scope:Scope)(f:Addr)(cd:Value)(A:Around)(outer:List Env)(s:Shared)(H:Hp)(E:XK):Cx where
 prog:=P
 w:=w
 K:=K
 mg:=mg
 base:=base
 A:=A.deeper (envOfC qual scope s.heap.objs.size f cd)
 N:=N
 s₀:=s
 H₀:=H
 env:=envOfC qual scope s.heap.objs.size f cd
 outer:=outer
 stack:=envOfC qual scope s.heap.objs.size f cd::outer
 ex:=[]
 calm:=true
 fn:=λ_=>true
 pn:=[]
 xe:=λe s'=>wpAny (model P w) (A.deeper (envOfC qual scope s.heap.objs.size f cd)) (leaving (envOfC qual scope s.heap.objs.size f cd) e) (λ_ s''=>CX outer H s E e s'') (λe' s''=>CX outer H s E e' s'') s'
def M3{sc:Scope}{n:Nat}{x:Str}(h:sc.names.lookup x=some .cell):∃c,(cellsFrom n sc.names []).lookup x=some c:=by
 have q:=PySem.W.cellsFrom_some sc.names n [] (.inl h);exact isSome_iff_exists.mp q
def Q1{CX:CXT}{P:Program}{w:World}{K:PySem.W.Frag}{mg:Str->Option Value}{base:Heap}{N ps:List Str}{qual:Str}{scope:Scope}{f:Addr}{cd:Value}{A:Around}{outer:List Env}{s s1:Shared}{H:Hp}{E:XK}{us:List Value}{vs:List V}
 (S:FnScope N ps scope) (hd:A.handled=none) (e0:Env0 P w K mg base A outer s H) (hl:vs.length=ps.length) (r:Vals vs us)
 (x:InCallC s s.heap.objs.size (bindL (envOfC qual scope s.heap.objs.size f cd).kindOf (ps.zip us) λ_=>none) (cellsFrom (s.heap.objs.size+1) scope.names []) (bindC (envOfC qual scope s.heap.objs.size f cd).kindOf (ps.zip us) λ_=>none) s1):
 Inv (Gk CX P w K mg base N qual scope f cd A outer s H E) [] (D6 N vs) H s1:=by
 have hpl:ps.length<=N.length:=by have:=congrArg List.length S.pre;rw[length_take]at this;omega
 obtain⟨h1,tk,rfl,hk⟩:=x.done;have noA:∀b:Addr,b∉(Gk CX P w K mg base N qual scope f cd A outer s H E).ex:=λb z=>absurd (show b∈([]:List Addr)from z) (by simp);refine⟨⟨e0.mod,S.kind,rfl,rfl,le_refl _,λy z c h1 h2=>?_,λy hy=>?_,λy c _ h=>?_,λ_=>hd,Around.frames_deeper e0.frames,.inr ⟨rfl,rfl⟩,λb z=>absurd z (noA b),e0.bs,e0.bsz,λb _ _=>noA b,λb z=>absurd z (noA b),e0.funs,e0.frf⟩,
  rfl,e0.bare,Un.kept hk,⟨_,x.toInCall.ns,λi y v h1 h2 h3=>?_⟩,λy c h=>⟨_,x.cell y c h⟩,e0.hok.fresh (le_refl _),λy c h=>?_,λp hp=>absurd (show p∈([]:List (Addr×Obj))from hp) (by simp),e0.hok.kept hk,?_⟩
 .exact name_of_addr x.apart (PySem.mem_of_lookup h1) (PySem.mem_of_lookup h2)
 .have hy:scope.names.lookup y=some .cell∨scope.names.lookup y=some .free:=hy;rcases hy with hy|hy
  .exact M3 hy
  .exact absurd rfl (S.nofree _ (PySem.mem_of_lookup hy))
 .exact le_of_lt (x.above y c (PySem.mem_of_lookup h))
 .have hi:i<vs.length:=by
   unfold D6 at h2;by_cases hi:i<vs.length
   .exact hi
   .rw[List.getElem?_append_right (by simpa using hi)]at h2;rw[List.getElem?_replicate]at h2;split at h2<;>cases h2
  have ha:vs[i]?=some v:=by
   unfold D6 at h2;rw[List.getElem?_append_left (by simpa using hi),List.getElem?_map]at h2;cases e:vs[i]? with
   |none=>rw[e]at h2;cases h2
   |some a=>rw[e]at h2;cases h2;rfl
  obtain⟨u,hu,rv⟩:=r.get ha;have hp:ps[i]?=some y:=by
   rw[<- S.pre,List.getElem?_take_of_lt (by omega)];exact h1
  have ndP:ps.Nodup:=by rw[<- S.pre];exact S.nd.sublist (List.take_sublist _ _)
  refine⟨u,rv,?_⟩;rcases S.par y (mem_of_getElem? hp)with k|k
  .exact .inl ⟨k,K8 ndP hp hu k⟩
  .obtain⟨c,e⟩:=M3 (n:=s.heap.objs.size+1) k;refine .inr ⟨.inl k,c,e,?_⟩;have q:=x.cell y c e;rw[KA ndP hp hu (by show scope.names.lookup y≠_;rw[k];decide)]at q;exact q
 .exact e0.hok.fresh (le_of_lt (x.above y c (PySem.mem_of_lookup h)))
 .unfold D6;show _=N.length;rw[length_append,length_map,List.length_replicate];omega
def ad{CX:CXT}{P:Program}{w:World}{K:PySem.W.Frag}{mg:Str->Option Value}{base:Heap}{k:Nat}{f:Addr}{name qual:Str}{params:Arguments}{body:List Stmt}{scope:Scope}{dV kV doc pm cdv ct oc:Value}{an od:Option Addr}
 {osl:Array (Option Value)} {N ps:List Str} {sp:Sp} (lk:K.lookup f=some ⟨oc,od,.func (PySem.W.fnOf name qual params body scope dV kV doc pm an cdv ct),osl⟩) (hcd:PySem.W.codeIn K cdv qual=true) (S:FnScope N ps scope)
 (len:∀vs H Q E,sp vs H Q E->vs.length=ps.length)
 (hbody:∀(A:Around) (outer:List Env) (s:Shared) (H:Hp) (vs:List V) (Q:VK) (E:XK),Room k (A.deeper (envOfC qual scope s.heap.objs.size f cdv))->sp vs H Q E ->
  ∃t,PSs (Gk CX P w K mg base N qual scope f cdv A outer s H E) body t/\t { nx:=λ_ H'=>Q .non H',rt:=Q } (D6 N vs) H):
 FnOk P w K mg base CX (k+1) f (PySem.W.fnOf name qual params body scope dV kV doc pm an cdv ct) ps sp:=by
 refine⟨len,λA outer s H args us vs Q E hr e0 hb r hsp=>?_⟩;have hl:=len _ _ _ _ hsp;have KX:K.In s.heap:=e0.mod.kin.keeps λb o e=>(e0.bs b o e).1;have lim:s.heap.NoLimit:=e0.mod.nolimit.keeps λb o e=>(e0.bs b o e).1;have hkind:∀y∈ps.zip us,scope.names.lookup y.1=some .local∨(scope.names.lookup y.1=some .cell/\((cellsFrom (s.heap.objs.size+1) scope.names []).lookup y.1).isSome=true):=λ⟨n,v⟩ hy=>by
  rcases S.par n (List.of_mem_zip hy).1 with q|q
  .exact .inl q
  .exact .inr ⟨q,PySem.W.cellsFrom_some _ _ _ (.inl q)⟩
 refine codeAny_call_function hr.depth (KX _ _ lk) rfl S.co S.gen rfl (PySem.W.codeRec_of KX hcd) (hb _ _ _ _ ?_);refine wpAny_newFunctionEnv_cells S.kind hkind λenv he s1 x=>?_;subst he;refine⟨lim.keeps x.toInCall.keep,codeAny_func ?_⟩;obtain⟨t,ht,hq⟩:=hbody A outer s H vs Q E (hr.deeper _) hsp;have I:Inv (Gk CX P w K mg base N qual scope f cdv A outer s H E) [] (D6 N vs) H s1:=Q1 S hr.hd e0 hl r x;refine wpAny_mono (ht [] s1 (D6 N vs) H _ I hq) (λfl s' hs=>?_) λe s' hs=>hs;have fin:∀{σ':St} {H':Hp} {v:V} {u:Value},Inv (Gk CX P w K mg base N qual scope f cdv A outer s H E) [] σ' H' s'->RelV v u->Q v H'->CE outer P w H s Q u s':=
  λ{σ' H' v u} J rv q=>⟨v,H',J.os,J.bare,J.base,J.hok,rv,q⟩
 cases fl with
 |ret u=>
  obtain⟨v,σ',H',J,rv,q⟩:=hs;exact fin J rv q
 |next=>
  obtain⟨σ',H',J,q⟩:=hs;exact fin (v:=V.non) (u:=Value.none) J rfl q
 |brk=>
  obtain⟨_,_,_,q⟩:=hs;exact False.elim q
 |cont=>
  obtain⟨_,_,_,q⟩:=hs;exact False.elim q
section
variable{X:Cx}{x:Str}{p pos:Pos}{e:Expr}{es:List Expr}{t:TA}{id T:String}{r:List V->Hp->VK->Prop}
def tCB(r:List V->Hp->VK->Prop)(t:TA):TE:=λσ H Q=>t σ H λvs H1=>r vs H1 Q
def Ht(hc:CallR X (.builtin id) r)(hg:Gl X x)(hm:X.mg x=none)(hv:bootBuiltins x=some (.builtin id))(ha:PA X (e::es) t)(hn:x≠"__name__":=by decide)(hdb:(x==("__debug__":Str))=false:=by decide)
 (he:starEach (e::es) X.env=(false,eval e X.env)::starEach es X.env:=by rfl) (hpl:(backTo pos (starEach es X.env)).any (·.1)=false:=by rfl):PE X (.Call (.Name x p) (e::es) [] pos) (tCB r t):=by
 intro pins s σ H Q I h;refine wpAny_Call_Name_kw (F0 I hg hm hv ?_ hn hdb);exact PyProof.Rows.callWith_builtin1 (thn (ha pos pins s σ H _ I h) λus s1 ⟨vs,H1,I1,r1,q1⟩=>hc pins s1 σ H1 vs us Q I1 r1 q1) he hpl
def DO(hc:CallR X (.type T) r)(hg:Gl X x)(hm:X.mg x=none)(hv:bootBuiltins x=some (.type T))(ha:PA X (e::es) t)(hn:x≠"__name__":=by decide)(hdb:(x==("__debug__":Str))=false:=by decide)
 (he:starEach (e::es) X.env=(false,eval e X.env)::starEach es X.env:=by rfl) (hpl:(backTo pos (starEach es X.env)).any (·.1)=false:=by rfl):PE X (.Call (.Name x p) (e::es) [] pos) (tCB r t):=by
 intro pins s σ H Q I h;refine wpAny_Call_Name_kw (F0 I hg hm hv ?_ hn hdb);exact PyProof.Rows.callWith_type1 (thn (ha pos pins s σ H _ I h) λus s1 ⟨vs,H1,I1,r1,q1⟩=>hc pins s1 σ H1 vs us Q I1 r1 q1) he hpl
end
end L2
namespace HT
open PySem PyProof.Rows
section
variable{prog:Program}{w:World}{A:Around}{E:Value->Shared->Prop}{s:Shared}
def cat_tup{t b:Addr}{vs ws:List Value}{Q:Value->Shared->Prop}(ht:IsTup s.heap t vs.toArray)(hb:IsTup s.heap b ws.toArray)(hv:vs≠[])
 (h1:ws=[]->Q (.ref t) s) (h2:ws≠[]->Q (.ref s.heap.objs.size) { s with heap:=s.heap.push { cls:=.type "tuple",data:=.seq (vs++ws).toArray } })
 (hsz:vs.length+ws.length<=sizeLine):wpAny (model prog w) A (binaryOp .Add (.ref t) (.ref b)) Q E s:=by
 obtain⟨⟨cls,dd,data,sl⟩,ho,hc,n,hd⟩:=id ht;obtain⟨⟨cls2,dd2,data2,sl2⟩,ho2,hc2,n2,hd2⟩:=id hb;simp only at hc hd hc2 hd2;subst hc hd hc2 hd2;have e:vs.toArray++ws.toArray=(vs++ws).toArray:=by simp
 by_cases hw:ws=[]
 .exact concat_meets ⟨_,ho,rfl⟩ ⟨_,ho2,rfl⟩ noFill_tuple_add seq_tuple_add PySem.F.slot_tuple_add PySem.F.entry_tuple_add (PySem.F.args_tuple_add_2 _ _)
   (tuple_addW1 t b vs.toArray ws.toArray n n2 dd dd2 sl sl2 (by simpa using hv) (by simp[hw])) ⟨ho,ho2,h1 hw⟩
 .refine concat_meets ⟨_,ho,rfl⟩ ⟨_,ho2,rfl⟩ noFill_tuple_add seq_tuple_add PySem.F.slot_tuple_add PySem.F.entry_tuple_add (PySem.F.args_tuple_add_2 _ _)
   (tuple_addW2 t b vs.toArray ws.toArray n n2 dd dd2 sl sl2 (by simpa using hv) (by simpa using hw) (by rw[size_toArray,size_toArray];exact hsz)) ⟨ho,ho2,?_⟩
  rw[e];exact h2 hw
def sIx(n d:Nat):Option Int->Nat
 |none=>d
 |some v=>if v<0 then(v+(n:Int)).toNat else min v.toNat n
def sIx_none(n d:Nat):sIx n d none=d:=rfl
def sIx_nat(n d k:Nat):sIx n d (some (k:Int))=min k n:=by
 show(if(k:Int)<0 then((k:Int)+(n:Int)).toNat else min (k:Int).toNat n)=min k n;rw[if_neg (by omega),toNat_natCast]
def Wv(n d:Nat)(hd:d<=n)(o:Option Int):sIx n d o<=n:=by
 cases o with
 |none=>exact hd
 |some v=>
  show(if v<0 then(v+(n:Int)).toNat else min v.toNat n)<=n;by_cases hv:v<0
  .rw[if_pos hv];omega
  .rw[if_neg hv];exact Nat.min_le_right _ _
def NI(v:Int)(n d:Nat):(if v<0 then max (v+(n:Int)) 0 else min v (n:Int))=((sIx n d (some v):Nat):Int):=by
 show(if v<0 then max (v+(n:Int)) 0 else min v (n:Int))=(((if v<0 then(v+(n:Int)).toNat else min v.toNat n):Nat):Int);by_cases hv:v<0
 .simp only[if_pos hv];omega
 .simp only[if_neg hv];omega
def Oe(lo hi:Option Int)(n:Nat):Builtin.Slice.sliceAdjust lo hi 1 (n:Int)=(((sIx n 0 lo:Nat):Int),((sIx n n hi:Nat):Int)):=by
 have h1:¬ ((1:Int)<0):=by omega
 unfold Builtin.Slice.sliceAdjust;simp only[h1,if_false];refine Prod.ext ?_ ?_
 .cases lo with
  |none=>rfl
  |some v=>exact NI v n 0
 .cases hi with
  |none=>rfl
  |some v=>exact NI v n n
def O4(i j:Nat):Builtin.Slice.slicePlaces (i:Int) (j:Int) 1=j-i:=by
 unfold Builtin.Slice.slicePlaces;have h1:(1:Int)>0:=by omega
 simp only[h1,if_true,Int.ediv_one];split<;>omega
def IQ{v:Value}{o:Option Int}{Q:Option Int->Shared->Prop}(p:IsPart v o)(h:Q o s):wpAny (model prog w) A (Builtin.Slice.slicePartIndex v) Q E s:=by
 cases p with
 |none=>exact slicePart_none h
 |int i t=>exact slicePart_int h
def Er{sl:Addr}{vl vu:Value}{lo hi:Option Int}{n:Nat}{Q:Int×Int×Nat->Shared->Prop}(hs:s.heap.IsSliceOf sl vl vu .none)(pl:IsPart vl lo)(pu:IsPart vu hi)
 (h:Q (((sIx n 0 lo:Nat):Int),1,sIx n n hi-sIx n 0 lo) s):wpAny (model prog w) A (Builtin.Slice.sliceApplied (.ref sl) (pure (n:Int))) Q E s:=by
 obtain⟨os,hos,hcs,hds⟩:=id hs;unfold Builtin.Slice.sliceApplied Builtin.Slice.sliceFields;refine wpAny_bind (wpAny_bind (wpAny_field hos hds (x:=vl) rfl (wpAny_bind (wpAny_field hos hds (x:=vu) rfl (wpAny_bind (wpAny_field hos hds (x:=.none) rfl (wpAny_pure ?_)))))));refine wpAny_bind (slicePart_none ?_);show wpAny _ _ (if((1:Int)==0)=true then _ else _) _ _ s;rw[if_neg (by decide)];refine wpAny_bind (IQ pl (wpAny_bind (IQ pu (wpAny_bind (wpAny_pure ?_)))));show wpAny _ _ (match Builtin.Slice.sliceAdjust lo hi 1 (n:Int)with|(lo,hi)=>pure (lo,(1:Int),Builtin.Slice.slicePlaces lo hi 1)) _ _ s;rw[Oe lo hi n];show wpAny _ _ (pure (((sIx n 0 lo:Nat):Int),(1:Int),Builtin.Slice.slicePlaces ((sIx n 0 lo:Nat):Int) ((sIx n n hi:Nat):Int) 1)) _ _ s;rw[O4];exact wpAny_pure h
def SE(xs:Array Value)(i k:Nat):((List.range k).filterMap λ(m:Nat)=>xs[((i:Int)+(m:Int)*1).toNat]?).toArray=((xs.toList.drop i).take k).toArray:=by
 have e:(λ(m:Nat)=>xs[((i:Int)+(m:Int)*1).toNat]?)=λm=>xs[i+m]? := by
  funext m
  have:((i:Int)+(m:Int)*1).toNat=i+m:=by omega
  rw[this]
 rw[e];have:=pick_run xs i k;rw[List.filterMap_map]at this;have e2:((λx=>xs[x]?) ∘ λx=>i+x)=λm=>xs[i+m]? := rfl;rw[e2]at this;rw[this]
def getItem_tuple_cut{t sl:Addr}{items:Array Value}{vl vu:Value}{lo hi:Option Int}{Q:Value->Shared->Prop}(ht:IsTup s.heap t items)(hs:s.heap.IsSliceOf sl vl vu .none)(pl:IsPart vl lo)(pu:IsPart vu hi)
 (hw:¬ (sIx items.size 0 lo=0/\sIx items.size items.size hi=items.size))
 (h:Q (.ref s.heap.objs.size) { s with heap:=s.heap.push { cls:=.type "tuple",data:=.seq ((items.toList.drop (sIx items.size 0 lo)).take (sIx items.size items.size hi-sIx items.size 0 lo)).toArray } })
 (hsz:items.size<=sizeLine):wpAny (model prog w) A (getItem (.ref t) (.ref sl)) Q E s:=by
 have htake:sizeOk (.seq ((items.toList.drop (sIx items.size 0 lo)).take (sIx items.size items.size hi-sIx items.size 0 lo)).toArray):=by
  show((items.toList.drop (sIx items.size 0 lo)).take (sIx items.size items.size hi-sIx items.size 0 lo)).toArray.size<=sizeLine;rw[size_toArray,length_take,length_drop,Array.length_toList];omega
 have hj:sIx items.size items.size hi<=items.size:=Wv _ _ (le_refl _) hi;obtain⟨os,hos,hcs,hds⟩:=id hs;have hTs:s.TypeIs (.ref sl) "slice":=⟨os,hos,hcs⟩
 unfold getItem
 try with_reducible refine wpAny_holding ?_
 first|refine wpAny_bind (wpAny_pure ?_)|skip
 refine wpAny_bind (wpAny_sequenceKey ht.typeIs (by decide) ?_);refine wpAny_bind (wpAny_callSpecial?_slot (name:=Str.ofString "__getitem__") ht.typeIs PyProof.Rows.slot_tuple_getitem
  (wpAny_call_entry PyProof.Rows.slot_tuple_getitem ht.typeIs entry_tuple_getitem ?_ (args_tuple_getitem _ _)))
 show wpAny _ _ (Builtin.Tuple.tupleItemsOf (.ref t) >>= _) _ _ s;refine wpAny_bind (tupleItemsOf_ ht ?_);refine wpAny_bind (wpAny_typeOf hTs ?_);rw[if_pos (by decide)];refine wpAny_bind (Er hs pl pu ?_);have hno:¬ ((((sIx items.size 0 lo:Nat):Int)==0&&(1:Int)==1&&(sIx items.size items.size hi-sIx items.size 0 lo)==items.size)=true):=by
  intro q;rw[Bool.and_eq_true,Bool.and_eq_true]at q;have q1:((sIx items.size 0 lo:Nat):Int)=0:=eq_of_beq q.1.1;have q2:sIx items.size items.size hi-sIx items.size 0 lo=items.size:=eq_of_beq q.2;exact hw ⟨by omega,by omega⟩
 show wpAny _ _ (if(((sIx items.size 0 lo:Nat):Int)==0&&(1:Int)==1&&(sIx items.size items.size hi-sIx items.size 0 lo)==items.size)=true then _ else _) _ _ s;rw[if_neg hno,SE]
 first
  |exact wpAny_bind (m:=Builtin.Tuple.tupleExact _) (wpAny_newObj_type (wpAny_pure ⟨_,rfl,wpAny_pure h⟩) htake)
  |exact wpAny_bind (m:=Builtin.Tuple.tupleExact _) (wpAny_newObj_type (wpAny_bind (wpAny_pure (wpAny_pure ⟨_,rfl,wpAny_pure h⟩))) htake)
  |exact wpAny_bind (wpAny_bind (m:=Builtin.Tuple.tupleExact _) (wpAny_newObj_type (wpAny_pure (wpAny_pure ⟨_,rfl,wpAny_pure h⟩)) htake))
  |exact wpAny_bind (wpAny_bind (m:=Builtin.Tuple.tupleExact _) (wpAny_newObj_type (wpAny_pure ⟨_,rfl,wpAny_pure h⟩) htake))
end
end HT
namespace L2
open PySem PySem.Spec PyProof.Rows
abbrev TO:=St->Hp->(Option Int->Hp->Prop)->Prop
def PO(X:Cx)(e:Option Expr)(t:TO):Prop:=
 ∀(pins:List (Addr×Obj)) (s:Shared) (σ:St) (H:Hp) (Q:Option Int->Hp->Prop),Inv X pins σ H s->t σ H Q ->
   wpAny (model X.prog X.w) X.A (evalPart e X.env) (λu s'=>∃o H',Inv X pins σ H' s'/\IsPart u o/\Q o H') X.xe s
def JE:TO:=λ_ H Q=>Q none H
def NW(t:TE):TO:=λσ H Q=>t σ H λx H1=>∃i,x=.int i/\Q (some i) H1
section
variable{X:Cx}{e:Expr}{te:TE}{lo hi:Option Expr}{tl th:TO}{pos p2:Pos}
def VM:PO X none JE:=by
 intro pins s σ H Q I h;rw[evalPart_none];exact wpAny_pure ⟨none,H,I,.none,h⟩
def VL(h:PE X e te):PO X (some e) (NW te):=by
 intro pins s σ H Q I hw;rw[evalPart_some];refine thn (h pins s σ H _ I hw) λu s1 ⟨x,H1,I1,r1,q1⟩=>?_;obtain⟨i,rfl,q⟩:=q1;obtain⟨t,rfl⟩:=r1;exact⟨some i,H1,I1,.int i t,q⟩
def SlR(X:Cx)(r:V->Option Int->Option Int->Hp->VK->Prop):Prop:=
 ∀(pins:List (Addr×Obj)) (s:Shared) (σ:St) (H:Hp) (x:V) (v vl vu:Value) (lo hi:Option Int) (sl:Addr) (Q:VK),Inv X pins σ H s->RelV x v->s.heap.IsSliceOf sl vl vu .none->IsPart vl lo->IsPart vu hi->r x lo hi H Q ->
   ∃T id,typeLookup (.type T) "__getitem__"=pure (some (.builtin id))/\s.TypeIs v T/\wpAny (model X.prog X.w) X.A (getItem v (.ref sl)) (EP X pins σ Q) X.xe s
def tSl(r:V->Option Int->Option Int->Hp->VK->Prop)(te:TE)(tl th:TO):TE:=λσ H Q=>te σ H λx H1=>tl σ H1 λl H2=>th σ H2 λu H3=>r x l u H3 Q
def Fv{r:V->Option Int->Option Int->Hp->VK->Prop}(hr:SlR X r)(he:PE X e te)(hl:PO X lo tl)(hu:PO X hi th):PE X (.Subscript e (.Slice lo hi none p2) pos) (tSl r te tl th):=by
 intro pins s σ H Q I h;refine Subscript_ (thn (he pins s σ H _ I h) λv s1 ⟨x,H1,I1,r1,q1⟩=>?_);refine wpAny_Slice (thn (hl pins s1 σ H1 _ I1 q1) λvl s2 ⟨l,H2,I2,pl,q2⟩=>thn (hu pins s2 σ H2 _ I2 q2) λvu s3 ⟨u,H3,I3,pu,q3⟩=>?_);rw[evalPart_none];refine wpAny_pure ?_;have I4:Inv X pins σ H3 { s3 with heap:=s3.heap.push { cls:=.type "slice",data:=.fields #[vl,vu,.none] } }:=I3.kept (t':=s3.toks) λb ob q=>Heap.get?_push_of_some _ q;obtain⟨T,id,hT,ht,hg⟩:=hr pins { s3 with heap:=s3.heap.push { cls:=.type "slice",data:=.fields #[vl,vu,.none] } } σ H3 x v vl vu l u s3.heap.objs.size Q I4 r1 (Heap.IsSliceOf.new ..) pl pu q3;show wpAny (model X.prog X.w) X.A (subscriptTail e (.Slice lo hi none p2) v (.ref s3.heap.objs.size)) (EP X pins σ Q) X.xe { s3 with heap:=s3.heap.push { cls:=.type "slice",data:=.fields #[vl,vu,.none] } };exact tail_any (ops:=[.ref s3.heap.objs.size,v]) ht hT hg (by with_unfolding_all rfl)
def F2(xs:List V)(lo hi:Option Int):List V:=(xs.drop (HT.sIx xs.length 0 lo)).take (HT.sIx xs.length xs.length hi-HT.sIx xs.length 0 lo)
def Hf(xs:List V)(lo hi:Option Int):(F2 xs lo hi).length<=xs.length:=by
 unfold F2;rw[length_take,length_drop];omega
def LQ(K:PySem.W.Frag):V->Option Int->Option Int->Hp->VK->Prop:=λx lo hi H Q=>∃a xs,x=.ref a/\SqT K H a xs /\
 ¬ (HT.sIx xs.length 0 lo=0/\HT.sIx xs.length xs.length hi=xs.length)/\∀p,H p=none->Q (.ref p) (upd H p (.tup (F2 xs lo hi)))
def Ow:SlR X (LQ X.K):=by
 intro pins s σ H x v vl vu lo hi sl Q I rx hs pl pu h;obtain⟨a,xs,rfl,hx,hw,q⟩:=h;cases rx;obtain⟨its,r,ht,hz⟩:=I.tuple hx;have hlen:its.toArray.size=xs.length:=by rw[size_toArray];exact r.length.symm
 refine⟨"tuple",_,PyProof.Rows.slot_tuple_getitem.lookup,ht.typeIs,?_⟩;refine HT.getItem_tuple_cut ht hs pl pu (by rw[hlen];exact hw) ?_ (by rw[hlen];exact hz);rw[hlen];refine⟨.ref s.heap.objs.size,_,I.laid (t':=s.toks) (o:=.tup (F2 xs lo hi)) (λb ob q=>Heap.get?_push_of_some _ q) (le_refl _) ?_,rfl,q _ (I.hok.fresh (le_refl _))⟩;exact⟨le_trans (Hf xs lo hi) hz,_,(r.drop (HT.sIx xs.length 0 lo)).take (HT.sIx xs.length xs.length hi-HT.sIx xs.length 0 lo),IsTupD.new _ _⟩
def Nz(K:PySem.W.Frag):R2:=λx y H Q=>∃a b xs ys,x=.ref a/\y=.ref b/\SqT K H a xs/\SqT K H b ys/\xs≠[]/\xs.length+ys.length<=sizeLine /\
 (ys=[]->Q (.ref a) H)/\(ys≠[]->∀p,H p=none->Q (.ref p) (upd H p (.tup (xs++ys))))
def Vals.nil_iff{xs:List V}{us:List Value}(r:Vals xs us):us=[]↔xs=[]:=by
 cases r with
 |nil=>simp
 |cons _ _=>simp
def Vd:OpR X (binaryOp .Add) (Nz X.K):=by
 intro pins s σ H x y v u Q I rx ry h;obtain⟨a,b,xs,ys,rfl,rfl,ha,hb,hx,hz,q1,q2⟩:=h;cases rx;cases ry;obtain⟨its,r1,p1,_⟩:=I.tuple ha;obtain⟨its2,r2,p2,_⟩:=I.tuple hb;refine HT.cat_tup p1 p2 (λz=>hx (r1.nil_iff.mp z)) (λz=>⟨.ref a,H,I,rfl,q1 (r2.nil_iff.mp z)⟩) (λz=>?_) (by rw[<- r1.length,<- r2.length];exact hz);refine⟨.ref s.heap.objs.size,_,I.laid (t':=s.toks) (o:=.tup (xs++ys)) (λb ob q=>Heap.get?_push_of_some _ q) (le_refl _) ?_,rfl,q2 (λw=>z (r2.nil_iff.mpr w)) _ (I.hok.fresh (le_refl _))⟩;exact⟨by rw[length_append];exact hz,_,r1.append r2,IsTupD.new _ _⟩
end
def ixN(n:Nat)(i:Int):Option Nat:=if 0<=i then(if i<n then some i.toNat else none)else if -(n:Int)<=i then some (i+n).toNat else none
def atI{α:Type}(xs:List α)(i:Int):Option α:=(ixN xs.length i).bind λj=>xs[j]?
def JS{n:Nat}{i:Int}{j:Nat}(h:ixN n i=some j):seqIndex? i n=some j/\j<n/\-(n:Int)<=i/\i<n:=by
 unfold ixN at h;by_cases h0:0<=i
 .rw[if_pos h0]at h;by_cases h1:i<n
  .rw[if_pos h1]at h;have e:i.toNat=j:=Option.some.inj h;exact⟨by rw[seqIndex_of h0 h1,e],by omega,by omega,h1⟩
  .rw[if_neg h1]at h;cases h
 .rw[if_neg h0]at h;by_cases h1:-(n:Int)<=i
  .rw[if_pos h1]at h;have e:(i+n).toNat=j:=Option.some.inj h;exact⟨by rw[seqIndex_neg (by omega) h1,e],by omega,h1,by omega⟩
  .rw[if_neg h1]at h;cases h
def Jf{α:Type}{xs:List α}{i:Int}{v:α}(h:atI xs i=some v):∃j,seqIndex? i xs.length=some j/\xs[j]?=some v/\j<xs.length/\-(xs.length:Int)<=i/\i<xs.length:=by
 unfold atI at h;cases e:ixN xs.length i with
 |none=>rw[e]at h;cases h
 |some j=>
  rw[e]at h;obtain⟨h1,h2,h3,h4⟩:=JS e;exact⟨j,h1,h,h2,h3,h4⟩
def Fj{α:Type}{xs:List α}{j:Nat}{v:α}(h:xs[j]?=some v):atI xs (j:Int)=some v:=by
 have hj:j<xs.length:=(List.getElem?_eq_some_iff.mp h).1;have e:ixN xs.length (j:Int)=some j:=by
  unfold ixN;rw[if_pos (by omega),if_pos (by omega)];simp
 unfold atI;rw[e];exact h
def Jh(b:Expr):Prop:=∀o i,subscripted b false o i=operate [o,i] (getItem o i)
def IxR(X:Cx)(r:R2):Prop:=
 ∀(value slice:Expr) (pins:List (Addr×Obj)) (s:Shared) (σ:St) (H:Hp) (x y:V) (v u:Value) (Q:VK),Inv X pins σ H s->RelV x v->RelV y u->r x y H Q ->
   subscripted slice false v u=operate [v,u] (getItem v u)->wpAny (model X.prog X.w) X.A (subscriptTail value slice v u) (EP X pins σ Q) X.xe s
def MtR(X:Cx)(id:String)(r:V->List V->Hp->VK->Prop):Prop:=
 ∀(pins:List (Addr×Obj)) (s:Shared) (σ:St) (H:Hp) (x:V) (xs:List V) (v:Value) (us:List Value) (Q:VK),Inv X pins σ H s->RelV x v->Vals xs us->r x xs H Q ->
   wpAny (model X.prog X.w) X.A (call (.builtin id) (v::us)) (EP X pins σ Q) X.xe s
section
variable{X:Cx}{a b:Expr}{ta tb:TE}{pos:Pos}
def IxR.or{r r':R2}(h:IxR X r)(h':IxR X r'):IxR X (λx y H Q=>r x y H Q∨r' x y H Q):=by
 intro value slice pins s σ H x y v u Q I rx ry q hs;rcases q with q|q
 .exact h value slice pins s σ H x y v u Q I rx ry q hs
 .exact h' value slice pins s σ H x y v u Q I rx ry q hs
def TH{r:R2}(hr:IxR X r)(ha:PE X a ta)(hb:PE X b tb)(hs:Jh b):PE X (.Subscript a b pos) (tOp r ta tb):=by
 intro pins s σ H Q I h;exact Subscript_ (Sn ha hb I h λv u s2 x y H2 I2 rx ry q=>hr a b pins s2 σ H2 x y v u Q I2 rx ry q (hs _ _))
def JI(K:PySem.W.Frag):R2:=λx y H Q=>∃p xs i v,x=.ref p/\y=.int i/\SqL K H p xs/\atI xs i=some v/\Q v H
def Rq(K:PySem.W.Frag):R2:=λx y H Q=>∃p xs i v,x=.ref p/\y=.int i/\SqT K H p xs/\atI xs i=some v/\Q v H
def W1:IxR X (JI X.K):=by
 intro value slice pins s σ H x y v u Q I rx ry h hs;obtain⟨p,xs,i,z,rfl,rfl,hq,he,q⟩:=h;cases rx;obtain⟨t,rfl⟩:=ry;obtain⟨its,r,pl,hz⟩:=I.list hq;obtain⟨j,h1,h2,h3,h4,h5⟩:=Jf he;obtain⟨w,ew,rw'⟩:=r.get h2;have hl:=r.length;have hn:=FX;have fin:EP X pins σ Q w s:=⟨z,H,I,rw',q⟩
 by_cases h0:0<=i
 .have hj:i.toNat=j:=by
   rw[seqIndex_of h0 h5]at h1;exact Option.some.inj h1
  exact item_listR pl.isList h0 (by omega) (by rw[hj];simpa using ew) fin hs
 .have hj:(i+(its.toArray.size:Int)).toNat=j:=by
   rw[seqIndex_neg (by omega) h4]at h1;rw[size_toArray,<- hl];exact Option.some.inj h1
  exact subscriptTail_builtinR (x:=w) pl.isList.typeIs slot_list_getitem.lookup
   (wpAny_getItem_list_neg (Q:=λr s'=>r=w/\EP X pins σ Q r s') pl.isList (by omega) (by rw[size_toArray]<;>omega) (by omega) (by rw[hj];simpa using ew) ⟨rfl,fin⟩) hs
def ZA:IxR X (Rq X.K):=by
 intro value slice pins s σ H x y v u Q I rx ry h hs;obtain⟨p,xs,i,z,rfl,rfl,hq,he,q⟩:=h;cases rx;obtain⟨t,rfl⟩:=ry;obtain⟨its,r,pl,hz⟩:=I.tuple hq;obtain⟨j,h1,h2,h3,h4,h5⟩:=Jf he;obtain⟨w,ew,rw'⟩:=r.get h2;have hl:=r.length;have hn:=FX;have fin:EP X pins σ Q w s:=⟨z,H,I,rw',q⟩
 exact subscriptTail_builtinR (x:=w) pl.typeIs slot_tuple_getitem.lookup
  (getItem_tuple (j:=j) (Q:=λr s'=>r=w/\EP X pins σ Q r s') pl (by omega) (by omega) (by rw[size_toArray,<- hl];exact h1) (by simpa using ew) ⟨rfl,fin⟩) hs
def OC(its:List Value)(n j:Nat)(u:Value):Obj.mapSeq (·.setIfInBounds j u) { cls:=.type "list",data:=.seq its.toArray n }={ cls:=.type "list",data:=.seq (its.set j u).toArray n }:=by
 simp[Obj.mapSeq]
def Inv.lst{pins:List (Addr×Obj)}{σ:St}{H:Hp}{s:Shared}{p:Addr}{xs:List V}(I:Inv X pins σ H s)(h:H p=some (.lst xs)):
 ∃(its:List Value) (n:Nat),Vals xs its/\s.heap.get? p=some { cls:=.type "list",data:=.seq its.toArray n }/\xs.length<=sizeLine:=by
 obtain⟨z,its,n,r,e⟩:=I.hok p _ h;exact⟨its,n,r,e,z⟩
def Inv.lstUpd{pins:List (Addr×Obj)}{σ:St}{H:Hp}{s:Shared}{p:Addr}{xs ys:List V}{its its':List Value}{n n':Nat}{f:Obj->Obj}(I:Inv X pins σ H s)(h:H p=some (.lst xs))
 (ho:s.heap.get? p=some { cls:=.type "list",data:=.seq its.toArray n }) (hf:f { cls:=.type "list",data:=.seq its.toArray n }={ cls:=.type "list",data:=.seq its'.toArray n' }) (r:Vals ys its') (hz:ys.length<=sizeLine) (t:Nat):
 Inv X pins σ (upd H p (.lst ys)) { s with heap:=s.heap.update p f,toks:=t }:=by
 have e:(s.heap.update p f).get? p=some { cls:=.type "list",data:=.seq its'.toArray n' }:=by
  rw[Heap.get?_update_self f ho (by rw[hf]<;>rfl),hf]
 refine I.write (x:=p) (e:=p) (by rw[h];trivial) (.inl rfl) (λb u hb q=>(Heap.get?_update_other _ _ (Ne.symm hb)).trans q) ⟨_,e⟩ ?_;exact⟨hz,its',n',r,e⟩
def IZ:V->V->V->Hp->(Hp->Prop)->Prop:=λo i v H Q=>∃p xs k j,o=.ref p/\i=.int k/\H p=some (.lst xs)/\ixN xs.length k=some j/\Q (upd H p (.lst (xs.set j v)))
def LC:So X IZ:=by
 intro pins s σ H o i v ov iv u Q I ro ri rv h;obtain⟨p,xs,k,j,rfl,rfl,hp,hj,q⟩:=h;cases ro;obtain⟨t,rfl⟩:=ri;obtain⟨its,n,r,ho,hz⟩:=I.lst hp;obtain⟨h1,h2,h3,h4⟩:=JS hj;have hl:=r.length;have hn:=FX;have I':Inv X pins σ (upd H p (.lst (xs.set j v))) { s with heap:=s.heap.update p (Obj.mapSeq (·.setIfInBounds j u)) }:=
  I.lstUpd hp ho (OC its n j u) (r.set rv j) (by rw[List.length_set];exact hz) s.toks
 by_cases h0:0<=k
 .have hk:k.toNat=j:=by
   rw[seqIndex_of h0 h4]at h1;exact Option.some.inj h1
  exact PySem.W.ki_setAt ho h0 (by omega) (by rw[size_toArray,<- hl];exact h4) (by rw[hk];exact⟨_,I',q⟩)
 .have hk:(k+(its.toArray.size:Int)).toNat=j:=by
   rw[seqIndex_neg (by omega) h3]at h1;rw[size_toArray,<- hl];exact Option.some.inj h1
  exact PySem.W.ki_setBack ho (by omega) (by rw[size_toArray,<- hl];exact h3) (by omega) (by rw[hk];exact⟨_,I',q⟩)
def L9(lo hi:Option Int)(n:Nat):(sliceBounds lo hi none n).1=((HT.sIx n 0 lo:Nat):Int)/\(sliceBounds lo hi none n).2.1=((HT.sIx n n hi:Nat):Int)/\(sliceBounds lo hi none n).2.2=1:=by
 refine⟨?_,?_,rfl⟩
 .cases lo with
  |none=>simp[sliceBounds,HT.sIx]
  |some i=>
   simp only[sliceBounds,HT.sIx,Option.getD_none,show(1:Int)>0 by decide,if_true];by_cases h:i<0
   .simp only[h,if_true]<;>omega
   .simp only[h,if_false]<;>omega
 .cases hi with
  |none=>simp[sliceBounds,HT.sIx]
  |some i=>
   simp only[sliceBounds,HT.sIx,Option.getD_none,show(1:Int)>0 by decide,if_true];by_cases h:i<0
   .simp only[h,if_true]<;>omega
   .simp only[h,if_false]<;>omega
def KC(its:List Value)(lo hi:Option Int):slicePick its.toArray lo hi none=((its.drop (HT.sIx its.length 0 lo)).take (HT.sIx its.length its.length hi-HT.sIx its.length 0 lo)).toArray:=by
 obtain⟨h1,h2,h3⟩:=L9 lo hi its.toArray.size;unfold slicePick;rw[h1,h2,h3];simp only[sliceRange_one,pick_run,size_toArray]<;>rfl
def Nw(K:PySem.W.Frag):V->Option Int->Option Int->Hp->VK->Prop:=λx lo hi H Q=>∃a xs,x=.ref a/\SqL K H a xs/\∀p,H p=none->Q (.ref p) (upd H p (.lst (F2 xs lo hi)))
def U4:SlR X (Nw X.K):=by
 intro pins s σ H x v vl vu lo hi sl Q I rx hs pl pu h;obtain⟨a,xs,rfl,hx,q⟩:=h;cases rx;obtain⟨its,r,ht,hz⟩:=I.list hx;have hlen:=r.length;refine⟨"list",_,slot_list_getitem.lookup,ht.isList.typeIs,?_⟩;refine wpAny_getItem_list_slice ht.isList hs pl pu .none (by simp) ?_ (by rw[size_toArray]<;>omega);rw[KC,<- hlen];refine⟨.ref s.heap.objs.size,_,I.laid (t':=s.toks) (o:=.lst (F2 xs lo hi)) (λb ob q=>Heap.get?_push_of_some _ q) (le_refl _) ?_,rfl,q _ (I.hok.fresh (le_refl _))⟩;exact⟨le_trans (Hf xs lo hi) hz,_,0,(r.drop (HT.sIx xs.length 0 lo)).take (HT.sIx xs.length xs.length hi-HT.sIx xs.length 0 lo),Heap.get?_push_size _ rfl⟩
def E6:V->Bool
 |.non=>true
 |.bl _=>true
 |.int _=>true
 |.str _=>true
 |_=>false
def eqV:V->V->Bool
 |.non,.non=>true
 |.bl a,.bl b=>a==b
 |.bl a,.int b=>(if a then 1 else 0)==b
 |.int a,.bl b=>a==(if b then 1 else 0)
 |.int a,.int b=>a==b
 |.str a,.str b=>a==b
 |_,_=>false
def ZV{A:Around}{s:Shared}{y x:V}{u v:Value}(ry:RelV y u)(rx:RelV x v)(fy:E6 y=true)(fx:E6 x=true):SeqAt.EqAt A s u v (eqV y x):=by
 cases y with
 |non=>
  cases ry;cases x with
  |non=>cases rx;exact SeqAt.EqAt.same _
  |bl b=>cases rx;exact SeqAt.EqAt.none_bool b
  |int b=>obtain⟨t,rfl⟩:=rx;exact SeqAt.EqAt.none_int b t
  |str b=>obtain⟨t,rfl⟩:=rx;exact SeqAt.EqAt.none_str b t
  |_=>exact absurd (show false=true from fx) Bool.false_ne_true
 |bl a=>
  cases ry;cases x with
  |non=>cases rx;exact SeqAt.EqAt.bool_none a
  |bl b=>cases rx;exact SeqAt.EqAt.bool_bool a b
  |int b=>obtain⟨t,rfl⟩:=rx;exact SeqAt.EqAt.bool_int a b t
  |str b=>obtain⟨t,rfl⟩:=rx;exact SeqAt.EqAt.bool_str a b t
  |_=>exact absurd (show false=true from fx) Bool.false_ne_true
 |int a=>
  obtain⟨t',rfl⟩:=ry;cases x with
  |non=>cases rx;exact SeqAt.EqAt.int_none a t'
  |bl b=>cases rx;exact SeqAt.EqAt.int_bool a t' b
  |int b=>obtain⟨t,rfl⟩:=rx;exact SeqAt.EqAt.int_int a t' b t
  |str b=>obtain⟨t,rfl⟩:=rx;exact SeqAt.EqAt.int_str a t' b t
  |_=>exact absurd (show false=true from fx) Bool.false_ne_true
 |str a=>
  obtain⟨t',rfl⟩:=ry;cases x with
  |non=>cases rx;exact SeqAt.EqAt.str_none a t'
  |bl b=>cases rx;exact SeqAt.EqAt.str_bool a t' b
  |int b=>obtain⟨t,rfl⟩:=rx;exact SeqAt.EqAt.str_int a t' b t
  |str b=>obtain⟨t,rfl⟩:=rx;exact SeqAt.EqAt.str_str a t' b t
  |_=>exact absurd (show false=true from fx) Bool.false_ne_true
 |_=>exact absurd (show false=true from fy) Bool.false_ne_true
def eqU(x:V)(u:Value):Bool:=match u with
 |.none=>eqV .non x
 |.bool b=>eqV (.bl b) x
 |.int i _=>eqV (.int i) x
 |.str z _=>eqV (.str z) x
 |_=>false
def QD{x y:V}{u:Value}(r:RelV y u)(f:E6 y=true):eqU x u=eqV y x:=by
 cases y with
 |non=>cases r;rfl
 |bl b=>cases r;rfl
 |int i=>obtain⟨t,rfl⟩:=r;rfl
 |str z=>obtain⟨t,rfl⟩:=r;rfl
 |_=>exact absurd (show false=true from f) Bool.false_ne_true
def Jg{x:V}:∀{xs:List V} {us:List Value},Vals xs us->xs.all E6=true->us.any (eqU x)=xs.any λy=>eqV y x
 |_,_,.nil,_=>rfl
 |y::xs,u::us,.cons r t,f=>by
  rw[all_cons,Bool.and_eq_true]at f;rw[any_cons,any_cons,QD r f.1,Jg t f.2]
def Hw{A:Around}{s:Shared}{x:V}{v:Value}(rx:RelV x v)(fx:E6 x=true):∀{xs:List V} {us:List Value},Vals xs us->xs.all E6=true->∀u∈us,SeqAt.EqAt A s u v (eqU x u)
 |_,_,.nil,_=>λu hu=>by cases hu
 |y::xs,u::us,.cons r t,f=>λu' hu=>by
  rw[all_cons,Bool.and_eq_true]at f;rcases mem_cons.mp hu with rfl|hu
  .rw[QD r f.1];exact ZV r rx f.1 fx
  .exact Hw rx fx t f.2 u' hu
def inV(x:V)(xs:List V):Bool:=xs.any λy=>eqV y x
def rIn(K:PySem.W.Frag)(neg:Bool):R2:=λx y H Q=>∃p xs,y=.ref p/\(SqL K H p xs∨SqT K H p xs)/\E6 x=true/\xs.all E6=true/\Q (.bl (if neg then !inV x xs else inV x xs)) H
def Ph:OpR X (compareOp .In) (rIn X.K false):=by
 intro pins s σ H x y v u Q I rx ry h;obtain⟨p,xs,rfl,hq,fx,fs,q⟩:=h;cases ry;rcases hq with hq|hq
 .obtain⟨its,r,pl,hz⟩:=I.list hq;refine SeqAt.in_listAt (eqU x) pl.isList (λw hw=>Hw rx fx r fs w (by simpa using hw)) ⟨.bl _,H,I,rfl,?_⟩;rw[show its.toArray.any (eqU x)=its.any (eqU x) by simp,Jg r fs];exact q
 .obtain⟨its,r,pl,hz⟩:=I.tuple hq;refine SeqAt.in_tupleAt (eqU x) pl (λw hw=>Hw rx fx r fs w (by simpa using hw)) ⟨.bl _,H,I,rfl,?_⟩;rw[show its.toArray.any (eqU x)=its.any (eqU x) by simp,Jg r fs];exact q
def M6:CallR X (.builtin "len") (λxs H Q=>∃p ys,xs=[.ref p]/\(SqL X.K H p ys∨SqT X.K H p ys)/\Q (.int ys.length) H):=by
 intro pins s σ H xs us Q I r h;obtain⟨p,ys,rfl,hq,q⟩:=h;obtain⟨u,rfl,rx⟩:=C9 r;cases rx;have hn:=FX;rcases hq with hq|hq
 .obtain⟨its,r',pl,hz⟩:=I.list hq;have hlen:=r'.length;exact Calls.call_len_list pl.isList (by simp only[size_toArray]<;>omega) ⟨.int ys.length,H,I.tok _,⟨s.toks+1,by rw[size_toArray,hlen]⟩,q⟩
 .obtain⟨its,r',pl,hz⟩:=I.tuple hq;have hlen:=r'.length;exact len_tuple pl (by simp only[size_toArray]<;>omega) ⟨.int ys.length,H,I.tok _,⟨s.toks+1,by rw[size_toArray,hlen]⟩,q⟩
def CallR.or{f:Value}{r r':List V->Hp->VK->Prop}(h:CallR X f r)(h':CallR X f r'):CallR X f (λxs H Q=>r xs H Q∨r' xs H Q):=by
 intro pins s σ H xs us Q I rs q;rcases q with q|q
 .exact h pins s σ H xs us Q I rs q
 .exact h' pins s σ H xs us Q I rs q
def M5:CallR X (.type "list") (λxs H Q=>∃p ys,xs=[.ref p]/\(SqL X.K H p ys∨SqT X.K H p ys)/\∀l,H l=none->Q (.ref l) (upd H l (.lst ys))):=by
 intro pins s σ H xs us Q I r h;obtain⟨p,ys,rfl,hq,q⟩:=h;obtain⟨u,rfl,rx⟩:=C9 r;cases rx;have fin:∀(its:List Value),Vals ys its->ys.length<=sizeLine->∀(h':Heap) (c':Nat),(∀b o',s.heap.get? b=some o'->h'.get? b=some o') ->
  h'.get? s.heap.objs.size=some { cls:=.type "list",dict:=none,data:=.seq its.toArray c',slots:=#[] }->EP X pins σ Q (.ref s.heap.objs.size) { s with heap:=h' }:=λits r' hz h' c' kp e=>
  ⟨.ref s.heap.objs.size,_,I.laid (t':=s.toks) kp (le_refl _) (show ObjOk X.prog X.w _ h' _ (.lst ys)from⟨hz,its,c',r',e⟩),rfl,q _ (I.hok.fresh (le_refl _))⟩
 rcases hq with hq|hq
 .obtain⟨its,r',pl,hz⟩:=I.list hq;have hlen:=r'.length;obtain⟨o,ho,hc,n,hd⟩:=pl.isList;exact call_list_seq p (.inl rfl) ho hc hd (λh' c' kp e=>fin its r' hz h' c' kp e) (by simp only[size_toArray]<;>omega)
 .obtain⟨its,r',pl,hz⟩:=I.tuple hq;have hlen:=r'.length;obtain⟨o,ho,hc,n,hd⟩:=pl;exact call_list_seq p (.inr rfl) ho hc hd (λh' c' kp e=>fin its r' hz h' c' kp e) (by simp only[size_toArray]<;>omega)
def KG:CallR X (.type "tuple") (λxs H Q=>∃p ys,xs=[.ref p]/\((SqL X.K H p ys/\∀l,H l=none->Q (.ref l) (upd H l (.tup ys)))∨(SqT X.K H p ys/\Q (.ref p) H))):=by
 intro pins s σ H xs us Q I r h;obtain⟨p,ys,rfl,h⟩:=h;obtain⟨u,rfl,rx⟩:=C9 r;cases rx;rcases h with⟨hq,q⟩|⟨hq,q⟩
 .obtain⟨its,r',pl,hz⟩:=I.list hq;have hlen:=r'.length;refine call_tuple_list pl.isList (λh' kp=>?_) (by simp only[size_toArray]<;>omega);have I1:Inv X pins σ H { s with heap:=h' }:=I.kept (t':=s.toks) kp;have I2:Inv X pins σ (upd H h'.objs.size (.tup ys)) { s with heap:=h'.push { cls:=.type "tuple",data:=.seq its.toArray } }:=
   I1.laid (t':=s.toks) (λb o e=>Heap.get?_push_of_some _ e) (le_refl _) (show ObjOk X.prog X.w _ _ _ (.tup ys)from⟨hz,its,r',IsTupD.new _ _⟩)
  exact⟨.ref h'.objs.size,_,I2,rfl,q _ (I1.hok.fresh (le_refl _))⟩
 .obtain⟨its,r',pl,hz⟩:=I.tuple hq;exact call_tuple_same pl ⟨.ref p,H,I,rfl,q⟩
def tyV(K:PySem.W.Frag)(T:String)(x:V)(H:Hp):Prop:=match x with
 |.str _=>T="str"
 |.int _=>T="int"
 |.ref p=>(T="list"/\∃xs,SqL K H p xs)∨(T="tuple"/\∃o,K.lookup p=some o/\o.cls=.type "tuple"/\o.dict=none) ∨
  (T="dict"/\((∃kvs,H p=some (.dK kvs))∨∃kvs,H p=some (.dT kvs)))∨(T="set"/\∃S n,H p=some (.set S n))
 |_=>False
def Oo{pins:List (Addr×Obj)}{σ:St}{H:Hp}{s:Shared}{T:String}{x:V}{v:Value}(I:Inv X pins σ H s)(r:RelV x v)(ty:tyV X.K T x H):
 s.TypeIs v T/\∀a,v=.ref a->∃ob,s.heap.get? a=some ob/\ob.dict=none:=by
 cases x with
 |str z=>
  obtain⟨t,rfl⟩:=r;cases(show T="str" from ty);exact⟨typeIs_str s z t,λ_ e=>nomatch e⟩
 |int i=>
  obtain⟨t,rfl⟩:=r;cases(show T="int" from ty);exact⟨typeIs_int s i t,λ_ e=>nomatch e⟩
 |ref p=>
  cases r;rcases ty with⟨rfl,xs,hq⟩|⟨rfl,o,hk,hc,hd⟩|⟨rfl,hk⟩|⟨rfl,S,n,hk⟩
  .obtain⟨its,_,pl,_⟩:=I.list hq;refine⟨pl.isList.typeIs,λa e=>?_⟩;cases e;obtain⟨o,n,e,c,hd,_⟩:=pl;exact⟨o,e,hd⟩
  .refine⟨⟨o,I.kIn p o hk,hc⟩,λa e=>?_⟩;cases e;exact⟨o,I.kIn _ o hk,hd⟩
  .have z:∃o,s.heap.get? p=some o/\o.ExactDict:=by
    rcases hk with⟨kvs,hk⟩|⟨kvs,hk⟩
    .obtain⟨_,_,_,_,o,_,_,e,ex,_⟩:=I.hok p _ hk;exact⟨o,e,ex⟩
    .obtain⟨_,_,_,_,o,_,_,e,ex,_⟩:=I.hok p _ hk;exact⟨o,e,ex⟩
   obtain⟨o,e,ex⟩:=z;refine⟨⟨o,e,ex.1⟩,λa e2=>?_⟩;cases e2;exact⟨o,e,ex.2.1⟩
  .obtain⟨o,_,_,_,e,ex,_⟩:=I.hok p _ hk;refine⟨⟨o,e,ex.1⟩,λa e2=>?_⟩;cases e2;exact⟨o,e,ex.2.1⟩
 |_=>exact False.elim ty
def RO(K:PySem.W.Frag)(T:String)(r:V->List V->Hp->VK->Prop)(to:TE):TE:=λσ H Q=>to σ H λx H1=>tyV K T x H1/\r x [] H1 Q
def tBM(K:PySem.W.Frag)(T:String)(r:V->List V->Hp->VK->Prop)(to:TE)(t:TA):TE:=λσ H Q=>to σ H λx H1=>tyV K T x H1/\t σ H1 λxs H2=>r x xs H2 Q
variable{o e:Expr}{es:List Expr}{to:TE}{t:TA}{name:Str}{apos cpos:Pos}{T id:String}{r:V->List V->Hp->VK->Prop}
def Yj(pa:PlainAttrs T)(slot:Slot T name id)(hty:typeOf (.builtin id)=pure (.type "method_descriptor"))(hm:MtR X id r)(ho:PE X o to)
 (hbase:attributeBase o name X.env (eval o X.env)=eval o X.env:=by rfl) (hline:(apos.endLine==cpos.line)=true:=by rfl):PE X (.Call (.Attribute o name apos) [] [] cpos) (RO X.K T r to):=by
 intro pins s σ H Q I h;refine wpAny_Call_method0_late hbase hline (thn (ho pins s σ H _ I h) λv s1 ⟨x,H1,I1,r1,ty,q1⟩=>?_);obtain⟨h1,h2⟩:=Oo I1 r1 ty;exact⟨T,id,pa,slot,hty,h1,h2,Calls.callWith_builtin rfl (PySem.evalArgs_none (hm pins s1 σ H1 x [] v [] Q I1 r1 .nil q1))⟩
def aN(pa:PlainAttrs T)(slot:Slot T name id)(hty:typeOf (.builtin id)=pure (.type "method_descriptor"))(hm:MtR X id r)(ho:PE X o to)(ha:PA X (e::es) t)
 (hbase:attributeBase o name X.env (eval o X.env)=eval o X.env:=by rfl)
 (hfew:((backTo cpos (starEach (e::es) X.env)).all (λx=>!x.1)&&(backToKw cpos (keywordEach [] X.env)).all (λx=>x.1.isSome)
  && decide ((e::es).length+([]:List Keyword).length+(if([]:List Keyword).isEmpty then 0 else 1)<30))=true:=by rfl)
 (hline:(apos.endLine==cpos.line)=true:=by rfl) (hs:starEach (e::es) X.env=(false,eval e X.env)::starEach es X.env:=by rfl) (hplain:(backTo cpos (starEach es X.env)).any (·.1)=false:=by rfl):
 PE X (.Call (.Attribute o name apos) (e::es) [] cpos) (tBM X.K T r to t):=by
 intro pins s σ H Q I h;refine wpAny_Call_method_late hbase hfew hline rfl (thn (ho pins s σ H _ I h) λv s1 ⟨x,H1,I1,r1,ty,q1⟩=>?_);obtain⟨h1,h2⟩:=Oo I1 r1 ty;refine⟨T,id,pa,slot,hty,h1,h2,?_⟩;have hA:=ha cpos pins s1 σ H1 _ I1 q1;rw[hs]at hA ⊢;refine Calls.callWith_builtin (by show(false||(backTo cpos (starEach es X.env)).any (·.1))=false;rw[hplain]<;>rfl) (Calls.evalArgs_plain ?_);exact thn hA λus s2 ⟨vs,H2,I2,r2,q2⟩=>hm pins s2 σ H2 x vs v us Q I2 r1 r2 q2
end
def MtM(X:Cx)(id:String)(r:V->List V->Hp->VK->Prop):Prop:=
 ∀(pins:List (Addr×Obj)) (s:Shared) (σ:St) (H:Hp) (x:V) (xs:List V) (v:Value) (us:List Value) (Q:VK),Inv X pins σ H s->RelV x v->Vals xs us->r x xs H Q ->
   wpAny (model X.prog X.w) X.A (call (.builtin id) (v::us)) (EP X pins σ Q) X.xe s
def Vals.one:∀{x:V} {us:List Value},Vals [x] us->∃u,us=[u]/\RelV x u
 |_,_,.cons r .nil=>⟨_,rfl,r⟩
def Vals.eraseIdx:∀{xs:List V} {us:List Value} (i:Nat),Vals xs us->Vals (xs.eraseIdx i) (us.eraseIdx i)
 |_,_,_,.nil=>.nil
 |_,_,0,.cons _ t=>t
 |_,_,i+1,.cons r t=>.cons r (Vals.eraseIdx i t)
def Jt{α:Type}:∀(l:List α) (i:Nat),(l.eraseIdx i).length<=l.length
 |[],_=>le_refl _
 |_::_,0=>Nat.le_succ _
 |_::r,i+1=>Nat.succ_le_succ (Jt r i)
section
variable{X:Cx}{pins:List (Addr×Obj)}{σ:St}{H:Hp}{s:Shared}{l b:Addr}{xs ys zs:List V}
def Inv.lset{its its':List Value}{n:Nat}{f:Array Value->Array Value}{t':Nat}(I:Inv X pins σ H s)(hH:H l=some (.lst xs))
 (e:s.heap.get? l=some { cls:=.type "list",data:=.seq its.toArray n }) (hf:f its.toArray=its'.toArray) (hv:Vals ys its') (hz:ys.length<=sizeLine):
 Inv X pins σ (upd H l (.lst ys)) { s with heap:=s.heap.update l (Obj.mapSeq f),toks:=t' }:=by
 have q:=PySem.IsL.update e f;rw[hf]at q;refine I.write (x:=l) (e:=l) (by rw[hH];exact trivial) (.inl rfl) (λb' u hb hu=>(Heap.get?_update_other s.heap (Obj.mapSeq f) (Ne.symm hb)).trans hu) ⟨_,q⟩ ?_;exact⟨hz,its',_,hv,q⟩
def Inv.lnew{its:List Value}{t':Nat}(I:Inv X pins σ H s)(hv:Vals ys its)(hz:ys.length<=sizeLine):
 Inv X pins σ (upd H s.heap.objs.size (.lst ys)) { s with heap:=s.heap.push { cls:=.type "list",data:=.seq its.toArray },toks:=t' }:=
 I.laid (λ_ _ q=>Heap.get?_push_of_some _ q) (le_refl _) ⟨hz,its,0,hv,Heap.get?_push_size _ rfl⟩
def Inv.fresh(I:Inv X pins σ H s):H s.heap.objs.size=none:=I.hok.fresh (le_refl _)
def Inv.lstM(I:Inv X pins σ H s)(hH:H l=some (.lst xs)):xs.length<=sizeLine/\∃(its:List Value) (n:Nat),Vals xs its/\xs.length=its.length/\s.heap.get? l=some { cls:=.type "list",data:=.seq its.toArray n }:=by
 obtain⟨z,its,n,r,e⟩:=I.hok l _ hH;exact⟨z,its,n,r,r.length,e⟩
def SN{n:Nat}(h:n<=sizeLine):Builtin.List.listTooLong n=false:=by
 unfold Builtin.List.listTooLong;exact decide_eq_false (by omega)
end
section
variable{X:Cx}
def Mt:V->List V->Hp->VK->Prop:=λx vs H Q=>∃l xs y,x=.ref l/\vs=[y]/\H l=some (.lst xs)/\xs.length<sizeLine/\Q .non (upd H l (.lst (xs++[y])))
def Js:MtM X "list.append" Mt:=by
 intro pins s σ H x vs v us Q I rx rv h;obtain⟨l,xs,y,rfl,rfl,hH,hz,q⟩:=h;cases rx;obtain⟨u,rfl,ru⟩:=rv.one;obtain⟨z,its,n,r,hl,e⟩:=I.lstM hH;refine call_meets F.slot_list_append ⟨_,e,rfl⟩ F.entry_list_append (F.args_list_append_2 _ _) (PySem.list_append l its.toArray n u (by rw[size_toArray];omega)) ⟨e,?_⟩;refine⟨.non,_,I.lset (its':=its++[u]) hH e (by simp) (r.append (.cons ru .nil)) ?_,rfl,q⟩;rw[length_append,length_singleton];omega
def Ms:V->List V->Hp->VK->Prop:=λx vs H Q=>∃l b xs zs,x=.ref l/\vs=[.ref b]/\H l=some (.lst xs)/\H b=some (.lst zs)/\xs.length+zs.length<=sizeLine/\Q .non (upd H l (.lst (xs++zs)))
def Po:MtM X "list.extend" Ms:=by
 intro pins s σ H x vs v us Q I rx rv h;obtain⟨l,b,xs,zs,rfl,rfl,hH,hB,hz,q⟩:=h;cases rx;obtain⟨u,rfl,ru⟩:=rv.one;cases ru;obtain⟨z,its,n,r,hl,e⟩:=I.lstM hH;obtain⟨z2,its2,n2,r2,hl2,e2⟩:=I.lstM hB;have hsz:its.toArray.size+its2.toArray.size<=sizeLine:=by rw[size_toArray,size_toArray];omega
 have hlong:¬ (!its.toArray.isEmpty&&Builtin.List.listTooLong (its.toArray.size+its2.toArray.size))=true:=by
  rw[SN hsz,Bool.and_false];exact Bool.false_ne_true
 refine call_meets F.slot_list_extend ⟨_,e,rfl⟩ F.entry_list_extend (F.args_list_extend_2 _ _)
  (AutoSeq1.list_extend_list_list_0 l its.toArray n b its2.toArray n2 hlong (by rw[size_toArray];omega) (by omega)) ⟨e,e2,?_⟩
 refine⟨.non,_,I.lset (its':=its++its2) hH e (by simp) (r.append r2) ?_,rfl,q⟩;rw[length_append];omega
def PQ:V->List V->Hp->VK->Prop:=λx vs H Q=>∃l xs i k y,x=.ref l/\vs=[.int i]/\H l=some (.lst xs)/\-(2^63)<=i/\i<2^63/\seqIndex? i xs.length=some k/\xs[k]?=some y/\Q y (upd H l (.lst (xs.eraseIdx k)))
def SO:MtM X "list.pop" PQ:=by
 intro pins s σ H x vs v us Q I rx rv h;obtain⟨l,xs,i,k,y,rfl,rfl,hH,h1,h2,hk,hy,q⟩:=h;cases rx;obtain⟨u,rfl,ru⟩:=rv.one;obtain⟨t,rfl⟩:=ru;obtain⟨z,its,n,r,hl,e⟩:=I.lstM hH;obtain⟨w,hw,rw'⟩:=r.get hy;refine call_meets F.slot_list_pop ⟨_,e,rfl⟩ F.entry_list_pop (F.args_list_pop_2 _ _)
  (MeetsSeq.list_pop_at l its.toArray n i t k w (fitsIndex_both h1 h2) (by rw[size_toArray,<- hl];exact hk) (by rw[<- Array.getElem?_toList];exact hw) (by rw[size_toArray];omega)) ⟨e,?_⟩
 refine⟨y,_,I.lset (its':=its.eraseIdx k) hH e ?_ (r.eraseIdx k) ?_,rw',q⟩
 .show its.toArray.eraseIdxIfInBounds k=(its.eraseIdx k).toArray;rw[List.eraseIdxIfInBounds_toArray]
 .have:=Jt xs k;omega
def Rs:R2:=λx y H Q=>∃l b xs zs,x=.ref l/\y=.ref b/\H l=some (.lst xs)/\H b=some (.lst zs)/\xs.length+zs.length<=sizeLine/\∀p,H p=none->Q (.ref p) (upd H p (.lst (xs++zs)))
def Ys:OpR X (binaryOp .Add) Rs:=by
 intro pins s σ H x y v u Q I rx ry h;obtain⟨l,b,xs,zs,rfl,rfl,hH,hB,hz,q⟩:=h;cases rx;cases ry;obtain⟨z,its,n,r,hl,e⟩:=I.lstM hH;obtain⟨z2,its2,n2,r2,hl2,e2⟩:=I.lstM hB;refine PySem.P.add_list e e2 ?_ (by rw[size_toArray,size_toArray];omega);have ea:its.toArray++its2.toArray=(its++its2).toArray:=by simp
 rw[ea];exact⟨.ref _,_,I.lnew (t':=s.toks) (r.append r2) (by rw[length_append];omega),rfl,q _ I.fresh⟩
end
end L2
namespace Att
open PySem PySem.W PySem.Calls PyProof.Rows
def Ir{P:Params}{h:Heap}:∀(ns:List Int) (vs:List Value),WellAll P h vs (ns.map WData.int)->IntsAre vs ns:=by
 intro ns
 induction ns with
 |nil=>
  intro vs w;rw[map_nil]at w;cases w;exact .nil
 |cons n ns ih=>
  intro vs w;rw[map_cons]at w;cases w with
  |cons a b=>
   cases a;exact .cons _ _ (ih _ b)
def Ox{l:OpenLaw}{n:Nat}(hn:l.most=some n){P:Params}{h:Heap}{args:List WData}{vals:List Value}
 (hpre:l.row.toRowW.claim.pre args=true) (hwl:WellAll P h vals args):
 ∃a vs ns,vals=[Value.ref a]/\args=[WData.list (ns.map WData.int)]/\h.get? a=some { cls:=.type "list",data:=.seq vs.toArray }/\IntsAre vs ns/\ns.length<=n:=by
 have hsh:WShape.hasAll [] args [.list .int]=true:=(pre_splitW hpre).1;have hc:l.pre.holds [] { args:=args }=true:=(pre_splitW hpre).2;obtain⟨d,r,rfl,h1,h2⟩:=hasAllW_cons hsh;obtain rfl:=hasAllW_nil h2;obtain⟨xs,rfl,h3⟩:=hasW_list h1;obtain⟨ns,rfl⟩:=items_int h3;have hlen:ns.length<=n:=by
  unfold OpenLaw.pre at hc;have h4:(WTm.not (.lt (.lit (.int (n:Int))) (.len (.arg 0)))).holds [] { args:=[.list (ns.map .int)] }=true:=by
   have h4:=(holds_andW hc).1;rw[hn]at h4;exact h4
  have h5:=condW_of h4 (w_not (w_lt w_lit (w_len_list (w_arg rfl))));rw[length_map]at h5;refine Nat.le_of_not_lt λq=>?_;have q':(n:Int)<((ns.length:Nat):Int):=by omega
  first
   |(rw[decide_eq_true q']at h5;exact absurd h5 (by decide))
   |(simp at h5;omega)
 cases hwl with
 |cons w1 w2=>
  cases w2;cases w1 with
  |list ho hall=>exact⟨_,_,ns,rfl,rfl,ho,Ir ns _ hall,hlen⟩
def PV(l:OpenLaw)(args:List WData):l.row.toRowW.claim.post args (.bool true) args=true:=
 postW_of (r:=l.row.toRowW) (X:=(true==true))
  (show WShape.has [] (.bool true) .bool=true by first|rfl|decide|simp[WShape.has,WShape.arms,WShape.armsAll])
  (show(WTm.eq .res (.lit (.bool true))).value [] { args:=args,res:=some (.bool true),after:=args }=some (.bool (true==true))from w_eq_bool (w_res rfl) w_lit) rfl
def attach_call{l:OpenLaw}{n:Nat}{q:Program}{loose:List Str}{XP:(Str->Option Value)->Heap->Prop}{YP:World->Heap->Prop}{d:DefRec}
 (hn:l.most=some n) (hdf:d.params.defaults=[])
 (call:∀(w:World) (s₀ s₁:Shared) (mg mb:Str->Option Value) (fa:Addr) (o:Obj) (pm cd doc:Value) (a:Addr) (vs:List Value) (ns:List Int),
  Ground q loose [] XP w s₀ mg mb s₁.heap->YP w s₁.heap ->
  s₁.heap.get? fa=some o->o.data=.func (docDef d.name d.params d.body d.scope pm cd doc)->s₁.heap.CodeRec cd d.name->mg d.name=some (.ref fa) ->
  s₁.heap.get? a=some { cls:=.type "list",data:=.seq vs.toArray }->IntsAre vs ns->ns.length<=n->s₁.gens=#[] ->
  codeAny (model l.prog w) callerA (.call (.ref fa) ⟨[.ref a],[]⟩) (λr s'=>r=.ok (.ret (.bool true))/\OldK s₁.heap s'.heap/\s'.os=s₁.os/\AllBare s'.gens) s₁):
 WalkO q loose XP YP l.row.toRowW d [] (λf vs=>PySem.call f vs):=by
 intro w s₀ s₁ mg mb G Y fa o pm cd doc dV kV ho hd hcd hD hmg hg args vals as hpre hlay hrd hwl hlo;obtain rfl:dV=.none:=Dflts.none hD hdf;obtain rfl:kV=.none:=Dflts.noKw hD;obtain⟨a,vs,ns,rfl,rfl,hobj,hints,hlen⟩:=Ox hn hpre hwl;refine enter_call (codeAny_mono (call w s₀ s₁ mg mb fa o pm cd doc a vs ns G Y ho (fd_plain hd) hcd hmg hobj hints hlen hg) λr s' hq=>?_);obtain⟨rfl,h2,h3,h4⟩:=hq;exact⟨.inl ⟨.bool true,.bool true,[],rfl,λ_=>rfl,.bool true,PV l _,λ_=>⟨List.Pairwise.nil,λ_ hm=>(nomatch hm)⟩⟩,h2,h3,h4⟩
end Att
namespace L2
open PySem PySem.Spec PyProof.Rows
def Jj:∀{vs:List Value} {ns:List Int},IntsAre vs ns->Vals (ns.map V.int) vs
 |_,_,.nil=>.nil
 |_,_,.cons n t h=>.cons ⟨t,rfl⟩ (Jj h)
def CT(s:Stmt):Arguments:=match s with
 |.FunctionDef _ a _ _ _ _ _ _ _ _=>a
 |_=>{ posonlyargs:=[],args:=[],vararg:=none,kwonlyargs:=[],kw_defaults:=[],kwarg:=none,defaults:=[] }
def Bl(s:Stmt):List Stmt:=match s with
 |.FunctionDef _ _ b _ _ _ _ _ _ _=>b
 |_=>[]
def AM(s:Stmt):Scope:=match s with
 |.FunctionDef _ _ _ _ _ _ sc _ _ _=>sc
 |_=>{ kind:=.function,names:=[],isGenerator:=false,isCoroutine:=false }
abbrev CX0:CXT:=λ_ _ _ _ _ _=>False
abbrev E0:XK:=λ_ _ _=>False
def aP{X:Cx}:MH CX0 X E0:=λ_ _ _ _ _ _ _ h=>h.elim
structure Fun(K:PySem.W.Frag)(x qual:Str)(st:Stmt)(f:Addr)(fd:FuncData):Prop where
 ex:∃(oc:Value) (od:Option Addr) (kV doc pm:Value) (an:Option Addr) (cdv ct:Value) (osl:Array (Option Value)),
  fd=PySem.W.fnOf x qual (CT st) (Bl st) (AM st) .none kV doc pm an cdv ct/\K.lookup f=some ⟨oc,od,.func fd,osl⟩/\PySem.W.codeIn K cdv qual=true
 kp:PySem.W.keepIn K (.ref f)=true
section
variable{P:Program}{w:World}{K:PySem.W.Frag}{mg:Str->Option Value}{base:Heap}
def Fun.ok{x qual:Str}{st:Stmt}{f:Addr}{fd:FuncData}{N ps:List Str}{k:Nat}{sp:Sp}(F:Fun K x qual st f fd)(S:FnScope N ps (AM st))(len:∀vs H Q E,sp vs H Q E->vs.length=ps.length)
 (hbody:∀(cdv:Value) (A:Around) (outer:List Env) (s:Shared) (H:Hp) (vs:List V) (Q:VK) (E:XK),Room k (A.deeper (envOfC qual (AM st) s.heap.objs.size f cdv))->sp vs H Q E ->
  ∃t,PSs (Gk CX0 P w K mg base N qual (AM st) f cdv A outer s H E).nox (Bl st) t/\t { nx:=λ_ H'=>Q .non H',rt:=Q } (D6 N vs) H):FnOk P w K mg base CX0 (k+1) f fd ps sp:=by
 obtain⟨oc,od,kV,doc,pm,an,cdv,ct,osl,rfl,lk,hcd⟩:=F.ex;refine ad lk hcd S len λA outer s H vs Q E hr hsp=>?_;obtain⟨t,h,q⟩:=hbody cdv A outer s H vs Q E hr hsp;exact⟨t,h.nox,q⟩
def Fun.binds{x qual:Str}{st:Stmt}{f:Addr}{fd:FuncData}{ps:List Str}(F:Fun K x qual st f fd)
 (h:∀(kV doc pm:Value) (an:Option Addr) (cdv ct:Value) (us:List Value),us.length=ps.length->bindArgs (PySem.W.fnOf x qual (CT st) (Bl st) (AM st) .none kV doc pm an cdv ct) ⟨us,[]⟩=pure (ps.zip us)):Binds K fd ps []:=by
 obtain⟨oc,od,kV,doc,pm,an,cdv,ct,osl,rfl,lk,hcd⟩:=F.ex;exact .all (h kV doc pm an cdv ct)
def ZF{x qual:Str}{st:Stmt}{f:Addr}{oc:Value}{od an:Option Addr}{osl:Array (Option Value)}{kV doc pm cdv ct:Value}(l:K.lookup f=some ⟨oc,od,.func (PySem.W.fnOf x qual (CT st) (Bl st) (AM st) .none kV doc pm an cdv ct),osl⟩)
 (c:PySem.W.codeIn K cdv qual=true) (k:PySem.W.keepIn K (.ref f)=true):Fun K x qual st f (PySem.W.fnOf x qual (CT st) (Bl st) (AM st) .none kV doc pm an cdv ct):=⟨⟨oc,od,kV,doc,pm,an,cdv,ct,osl,rfl,l,c⟩,k⟩
end
def OM{A:Around}{k:Nat}(hr:Room k A):A.units+1<cLine:=lt_of_le_of_lt (Nat.add_le_add_left (by decide:1<=64) _) hr.units
def Ov{n:Nat}(h:n<=1000):n<sizeLine:=lt_of_le_of_lt h (by decide)
section
variable{κ:Type}[DecidableEq κ]
def DW(kvs:List (κ×V))(k:κ):Option V:=(kvs.find? λkv=>decide (kv.1=k)).map (·.2)
def CJ(kvs:List (κ×V))(k:κ)(v:V):List (κ×V):=
 if(kvs.any λkv=>decide (kv.1=k))=true then kvs.map (λkv=>if kv.1=k then(kv.1,v)else kv)else kvs++[(k,v)]
def En{p:κ×V}{r:List (κ×V)}{k:κ}(e:p.1=k):DW (p::r) k=some p.2:=by simp[DW,find?_cons,e]
def Eo{p:κ×V}{r:List (κ×V)}{k:κ}(e:¬ p.1=k):DW (p::r) k=DW r k:=by simp[DW,find?_cons,e]
def Ks(k:κ):∀kvs:List (κ×V),(kvs.any λkv=>decide (kv.1=k))=(DW kvs k).isSome
 |[]=>rfl
 |p::r=>by
  rw[any_cons];by_cases e:p.1=k
  .simp only[En e,decide_eq_true e,Bool.true_or,Option.isSome_some]
  .rw[Eo e,decide_eq_false e,Bool.false_or];exact Ks k r
def FG(kvs:List (κ×V))(k:κ)(v:V):(CJ kvs k v).length<=kvs.length+1:=by
 unfold CJ;split
 .rw[length_map];omega
 .rw[length_append,length_cons,length_nil];omega
def RelO.isSome_eq{o:Option V}{u:Option Value}(r:RelO o u):o.isSome=u.isSome:=by
 cases o with
 |none=>cases u with
  |none=>rfl
  |some _=>exact(show False from r).elim
 |some _=>cases u with
  |none=>exact(show False from r).elim
  |some _=>rfl
def RelO.getD{o:Option V}{u:Option Value}{d:V}{d':Value}(r:RelO o u)(rd:RelV d d'):RelV (o.getD d) (u.getD d'):=by
 cases o with
 |none=>cases u with
  |none=>exact rd
  |some _=>exact(show False from r).elim
 |some _=>cases u with
  |none=>exact(show False from r).elim
  |some _=>exact r
def KV.val{kvs:List (κ×V)}{vs:List (κ×Value)}(r:KV kvs vs)(k:κ):RelO (DW kvs k) (valueAt vs k):=by
 unfold KV at r
 induction r with
 |nil=>exact True.intro
 |@cons p q ps qs h t ih=>
  obtain⟨h1,h2⟩:=h;by_cases e:p.1=k
  .have e':q.1=k:=h1.symm.trans e;have b:valueAt (q::qs) k=some q.2:=by simp[valueAt,find?_cons,e']
   rw[En e,b];exact h2
  .have e':¬ q.1=k:=λz=>e (h1.trans z);have b:valueAt (q::qs) k=valueAt qs k:=by simp[valueAt,find?_cons,e']
   rw[Eo e,b];exact ih
def KV.any{kvs:List (κ×V)}{vs:List (κ×Value)}(r:KV kvs vs)(k:κ):(kvs.any λkv=>decide (kv.1=k))=vs.any λkv=>decide (kv.1=k):=by
 unfold KV at r
 induction r with
 |nil=>rfl
 |cons h t ih=>rw[any_cons,any_cons,ih,h.1]
def KV.repl{kvs:List (κ×V)}{vs:List (κ×Value)}(r:KV kvs vs)(k:κ){y:V}{u:Value}(ry:RelV y u):
 KV (kvs.map λkv=>if kv.1=k then(kv.1,y)else kv) (vs.map λkv=>if kv.1=k then(kv.1,u)else kv):=by
 unfold KV at r ⊢
 induction r with
 |nil=>exact .nil
 |@cons p q ps qs h t ih=>
  rw[map_cons,map_cons];refine .cons ?_ ih;obtain⟨h1,h2⟩:=h;by_cases e:p.1=k
  .rw[if_pos e,if_pos (h1.symm.trans e)];exact⟨h1,ry⟩
  .rw[if_neg e,if_neg (λz=>e (h1.trans z))];exact⟨h1,h2⟩
def KV.put{kvs:List (κ×V)}{vs:List (κ×Value)}(r:KV kvs vs)(k:κ){y:V}{u:Value}(ry:RelV y u):KV (CJ kvs k y) (stored vs k u):=by
 unfold CJ stored;rw[r.any k];by_cases e:(vs.any λkv=>decide (kv.1=k))=true
 .rw[if_pos e,if_pos e];exact r.repl k ry
 .rw[if_neg e,if_neg e];exact Paired.snoc r ⟨rfl,ry⟩
def KV.length{kvs:List (κ×V)}{vs:List (κ×Value)}(r:KV kvs vs):kvs.length=vs.length:=Paired.length r
end
def Ip{P:Program}{w:World}{k:Key}{u:Value}(r:RelV (kV k) u):(BF P w).is k u=true:=by
 cases k with
 |inl i=>obtain⟨t,e⟩:=(show ∃t,u=Value.int i t from r);subst e;exact MN P w i t
 |inr x=>obtain⟨t,e⟩:=(show ∃t,u=Value.str x t from r);subst e;exact MM P w x t
def Jw{P:Program}{w:World}:∀{ks:List Key} {us:List Value},Vals (ks.map kV) us->ItemsAre (BF P w) ks us
 |[],_,r=>by rw[map_nil]at r;cases r;exact .nil
 |k::ks,_,r=>by
  rw[map_cons]at r;cases r with
  |cons h t=>exact .cons (Ip h) (Jw t)
abbrev KT(H:Hp):List (List Key×V)->List (List Key×Addr×Value)->Prop:=Paired λp q=>p.1=q.1/\H q.2.1=some (.tup (p.1.map kV))/\RelV p.2 q.2.2
def KT.val{H:Hp}{kvs:List (List Key×V)}{xs:List (List Key×Addr×Value)}(r:KT H kvs xs)(k:List Key):RelO (DW kvs k) ((atKey xs k).map (·.2)):=by
 induction r with
 |nil=>exact True.intro
 |@cons p q ps qs h t ih=>
  obtain⟨h1,_,h2⟩:=h;by_cases e:p.1=k
  .have e':q.1=k:=h1.symm.trans e;have b:atKey (q::qs) k=some q.2:=by simp[atKey,find?_cons,e']
   rw[En e,b];exact h2
  .have e':¬ q.1=k:=λz=>e (h1.trans z);have b:atKey (q::qs) k=atKey qs k:=by simp[atKey,find?_cons,e']
   rw[Eo e,b];exact ih
def KT.repl{H:Hp}{kvs:List (List Key×V)}{xs:List (List Key×Addr×Value)}(r:KT H kvs xs)(k:List Key){y:V}{u:Value}(ry:RelV y u):
 KT H (kvs.map λkv=>if kv.1=k then(kv.1,y)else kv) (xs.map (putAt k u)):=by
 induction r with
 |nil=>exact .nil
 |@cons p q ps qs h t ih=>
  rw[map_cons,map_cons];refine .cons ?_ ih;obtain⟨h1,h2,h3⟩:=h;unfold putAt;by_cases e:p.1=k
  .rw[if_pos e,if_pos (h1.symm.trans e)];exact⟨h1,h2,ry⟩
  .rw[if_neg e,if_neg (λz=>e (h1.trans z))];exact⟨h1,h2,h3⟩
def KT.put{H:Hp}{kvs:List (List Key×V)}{xs:List (List Key×Addr×Value)}(r:KT H kvs xs)(k:List Key){b:Addr}{y:V}{u:Value}(hb:H b=some (.tup (k.map kV)))(ry:RelV y u):
 KT H (CJ kvs k y) (storedH xs k b u):=by
 have e:(kvs.any λkv=>decide (kv.1=k))=(atKey xs k).isSome:=by
  rw[Ks,(r.val k).isSome_eq,Option.isSome_map]
 unfold CJ storedH;rw[e];by_cases q:(atKey xs k).isSome=true
 .rw[if_pos q,if_pos q];exact r.repl k ry
 .rw[if_neg q,if_neg q];exact Paired.snoc r ⟨rfl,hb,ry⟩
def KT.keeps{H H':Hp}{kvs:List (List Key×V)}{xs:List (List Key×Addr×Value)}(r:KT H kvs xs)(ht:∀b ys,H b=some (.tup ys)->H' b=some (.tup ys)):KT H' kvs xs:=
 Paired.mapP r λ_ _ z=>⟨z.1,ht _ _ z.2.1,z.2.2⟩
section
variable{P:Program}{w:World}{H:Hp}{h:Heap}{a:Addr}
def T6{u:HO}(ok:HOk P w H h)(e:Rd H a u):ObjOk P w H h a u:=e.ok ok
def Iv{kvs:List (Key×V)}(ok:HOk P w H h)(e:Rd H a (.dK kvs)):kvs.length<=sizeLine/\(a==sysModules)=false/\∃vs,KV kvs vs/\h.DictOf (BF P w) a vs:=
 show ObjOk P w H h a (.dK kvs)from T6 ok e
def TX{kvs:List (Key×V)}(ok:HOk P w H h)(e:H a=some (.dK kvs)):kvs.length<=sizeLine/\(a==sysModules)=false/\∃vs,KV kvs vs/\h.DictOf (BF P w) a vs:=Iv ok (.inl e)
def Io{ks:List Key}(ok:HOk P w H h)(e:H a=some (.tup (ks.map kV))):(tupleKind (BF P w)).is h ks a:=by
 obtain⟨_,its,r,o,h1,h2,⟨n,h3⟩,_⟩:=(show ObjOk P w H h a (.tup (ks.map kV))from ok a _ e)
 exact⟨o,its.toArray,n,h1,h2,h3,by simpa using Jw r⟩
def Iu{kvs:List (List Key×V)}(ok:HOk P w H h)(e:Rd H a (.dT kvs)):kvs.length<=sizeLine/\(a==sysModules)=false /\
 ∃xs,KT H kvs xs/\h.DictOfH (tupleKind (BF P w)) a xs:=by
 obtain⟨z,y,xs,r,o,es,ep,h1,h2,h3,h4,h5⟩:=(show ObjOk P w H h a (.dT kvs)from T6 ok e)
 refine⟨z,y,xs,r,o,es,ep,h1,h2,h3,h4,λx hx=>?_,h5⟩;have all:∀{l:List (List Key×V)} {m:List (List Key×Addr×Value)},KT H l m->∀x∈m,(tupleKind (BF P w)).is h x.1 x.2.1:=by
  intro l m q
  induction q with
  |nil=>intro x hx;exact nomatch hx
  |@cons p q ps qs hq t ih=>
   intro x hx;rcases mem_cons.mp hx with e|hx
   .subst e;exact Io ok (by rw[<- hq.1];exact hq.2.1)
   .exact ih x hx
 exact all r x hx
def am{kvs:List (List Key×V)}(ok:HOk P w H h)(e:H a=some (.dT kvs)):kvs.length<=sizeLine/\(a==sysModules)=false /\
 ∃xs,KT H kvs xs/\h.DictOfH (tupleKind (BF P w)) a xs:=Iu ok (.inl e)
end
def DGet(H:Hp)(a:Addr)(y:V)(r:Option V):Prop:=
 (∃kvs k,Rd H a (.dK kvs)/\y=kV k/\r=DW kvs k)∨∃kvs k b,Rd H a (.dT kvs)/\y=.ref b/\H b=some (.tup (k.map kV))/\r=DW kvs k
def DPut(H:Hp)(a:Addr)(y v:V)(H':Hp):Prop:=
 (∃kvs k,H a=some (.dK kvs)/\y=kV k/\kvs.length<sizeLine/\H'=upd H a (.dK (CJ kvs k v))) ∨
 ∃kvs k b,H a=some (.dT kvs)/\y=.ref b/\H b=some (.tup (k.map kV))/\kvs.length<sizeLine/\H'=upd H a (.dT (CJ kvs k v))
def DGet.k{H:Hp}{a:Addr}{kvs:List (Key×V)}{k:Key}(e:H a=some (.dK kvs)):DGet H a (kV k) (DW kvs k):=.inl ⟨kvs,k,.inl e,rfl,rfl⟩
def DPut.k{H:Hp}{a:Addr}{kvs:List (Key×V)}{k:Key}{v:V}(e:H a=some (.dK kvs))(hl:kvs.length<sizeLine):DPut H a (kV k) v (upd H a (.dK (CJ kvs k v))):=.inl ⟨kvs,k,e,rfl,hl,rfl⟩
section
variable{X:Cx}{pins:List (Addr×Obj)}{σ:St}{H:Hp}{s:Shared}{a:Addr}{y v:V}{u r:Value}{o:Option V}{A:Around}{E:Value->Shared->Prop}
def Inv.big(I:Inv X pins σ H s):sysModules<s.heap.objs.size:=by
 have h:mainGlobals<s.heap.objs.size:=(I.mod.glob.keeps I.bk).lt;exact lt_trans (by decide) h
def QL{Q:Value->Shared->Prop}(hu:A.units+1<cLine)(I:Inv X pins σ H s)(g:DGet H a y (some v))(ry:RelV y u)(h:∀w' s',Inv X pins σ H s'->RelV v w'->Q w' s'):
 wpAny (model X.prog X.w) A (getItem (.ref a) u) Q E s:=by
 rcases g with⟨kvs,k,e,ey,l⟩|⟨kvs,k,b,e,ey,eb,l⟩
 .subst ey;obtain⟨z,hd,vs,rel,dd⟩:=Iv I.hok e;obtain⟨w',hw,rw'⟩:=RelO.some_of (v:=v) (o:=valueAt vs k) (by rw[l];exact rel.val k);exact wpAny_getItem_of (Ip ry) dd.mapOf hw (h w' _ (I.tok _) rw')
 .subst ey;cases(show u=Value.ref b from ry);obtain⟨z,hd,xs,rel,dd⟩:=Iu I.hok e;obtain⟨w',hw,rw'⟩:=RelO.some_of (v:=v) (o:=(atKey xs k).map (·.2)) (by rw[l];exact rel.val k);obtain⟨p,hp,hp2⟩:=dG hw;refine wpAny_getItem_heap (tupleKind_room_in1 hu) (Io I.hok eb) dd hp ?_;rw[hp2];exact h w' _ (I.tok _) rw'
def Ja{h':Heap}{t':Nat}{ob:HO}(I:Inv X pins σ H s)(mu:Mut (H a))(hs:Heap.SameBut a s.heap h')(he:∃q,h'.get? a=some q)(new:ObjOk X.prog X.w (upd H a ob) h' a ob):
 Inv X pins σ (upd H a ob) { s with heap:=h',toks:=t' }:=
 I.write (x:=a) (e:=a) mu (.inl rfl) (λb q hb z=>(hs.2 b hb).trans z) he new
def QH{P:Program}{w:World}{H':Hp}{h':Heap}{kvs:List (Key×V)}{vs:List (Key×Value)}(z:kvs.length<=sizeLine)(hd:(a==sysModules)=false)(rel:KV kvs vs)(dd:h'.DictOf (BF P w) a vs):
 ObjOk P w H' h' a (.dK kvs):=⟨z,hd,vs,rel,dd⟩
def QK{H':Hp}{Q:Unit->Shared->Prop}(hu:A.units+1<cLine)(I:Inv X pins σ H s)(g:DPut H a y v H')(ry:RelV y u)(rv:RelV v r)(h:∀s',Inv X pins σ H' s'->Q () s'):
 wpAny (model X.prog X.w) A (setItem (.ref a) u r) Q E s:=by
 rcases g with⟨kvs,k,e,ey,l,eH⟩|⟨kvs,k,b,e,ey,eb,l,eH⟩
 .subst ey eH;obtain⟨z,hd,vs,rel,dd⟩:=TX I.hok e;have hz:vs.length<=sizeLine:=by rw[<- rel.length];exact z
  have hl:(CJ kvs k v).length<=sizeLine:=by have:=FG kvs k v;omega
  refine wpAny_setItem_pairs (hsz:=hz) (Ip ry) dd λh' dd' hs=>h _ ?_;have he:∃q,h'.get? a=some q:=let ⟨q,_,_,hq,_⟩:=dd';⟨q,hq⟩
  exact Ja I (by rw[e];exact True.intro) hs he (QH hl hd (rel.put k rv) dd')
 .subst ey eH;cases(show u=Value.ref b from ry);obtain⟨z,hd,xs,rel,dd⟩:=am I.hok e;have hz:xs.length<=sizeLine:=by rw[<- Paired.length rel];exact z
  have hl:(CJ kvs k v).length<=sizeLine:=by have:=FG kvs k v;omega
  refine wpAny_setItem_heap (hsz:=hz) (tupleKind_room_in1 hu) (Io I.hok eb) dd λh' dd' hs=>h _ ?_;obtain⟨q,es,ep,hq,h2,h3,h4,_,h5⟩:=dd';refine Ja I (by rw[e];exact True.intro) hs ⟨q,hq⟩ ⟨hl,hd,_,(rel.put k eb rv).keeps λc ys ec=>?_,q,es,ep,hq,h2,h3,h4,h5⟩;rw[AW (aS ec e (λz=>nomatch z))];exact ec
end
def Sq(i:Expr):Prop:=∀ov iv,subscripted i false ov iv=operate [ov,iv] (getItem ov iv)
def Tz{prog:Program}{w:World}{A:Around}{E:Value->Shared->Prop}{s:Shared}{env:Env}{value slice:Expr}{pos:Pos}{T id:String}{Q:Value->Shared->Prop}
 (hl:typeLookup (.type T) "__getitem__"=pure (some (.builtin id))) (hs:Sq slice)
 (h:wpAny (model prog w) A (eval value env) (λo s₁=>wpAny (model prog w) A (eval slice env) (λi s₂=>s₂.TypeIs o T/\wpAny (model prog w) A (getItem o i) Q E s₂) E s₁) E s):
 wpAny (model prog w) A (eval (.Subscript value slice pos) env) Q E s:=by
 refine Subscript_ (wpAny_mono h (λo s₁ h₁=>wpAny_mono h₁ (λi s₂ h₂=>?_) λ_ _ x=>x) λ_ _ x=>x);obtain⟨hT,h₂⟩:=h₂;unfold subscriptTail;refine wpAny_bind ?_;rw[getitemInPython_of_ne hT.not_modules];refine wpAny_bind (wpAny_specialOf hT hl ?_);have fin:wpAny (model prog w) A (subscripted slice false o i) (λr s₃=>wpAny (model prog w) A (letTemporaryGo value o r >>= λ_=>pure r) Q E s₃) E s₂:=by
  rw[hs o i];exact wpAny_operating (wpAny_mono h₂ (λr s₃ h₃=>wpAny_bind (wpAny_letTemporaryGo (wpAny_pure h₃))) λ_ _ x=>x)
 first
  |exact wpAny_pure (wpAny_bind fin)
  |exact wpAny_bind (wpAny_pure (wpAny_bind fin))
  |exact wpAny_bind fin
def MR{X:Cx}{pins:List (Addr×Obj)}{σ:St}{H:Hp}{s:Shared}{a:Addr}{y:V}{o:Option V}(I:Inv X pins σ H s)(g:DGet H a y o):s.TypeIs (.ref a) "dict":=by
 rcases g with⟨kvs,k,e,_,_⟩|⟨kvs,k,b,e,_,_,_⟩
 .obtain⟨_,_,vs,_,dd⟩:=Iv I.hok e;exact dd.typeIs
 .obtain⟨_,_,xs,_,dd⟩:=Iu I.hok e;exact dd.typeIs
def Nb(td ty:TE):TE:=λσ H Q=>td σ H λx H1=>ty σ H1 λy H2=>∃a v,x=.ref a/\DGet H2 a y (some v)/\Q v H2
def Nl(td ty tv:TE):TS:=λD σ H=>tv σ H λv H1=>td σ H1 λx H2=>ty σ H2 λy H3=>∃a H4,x=.ref a/\DPut H3 a y v H4/\D.nx σ H4
section
variable{X:Cx}{o i e value:Expr}{pos pos' tpos:Pos}{td ty tv:TE}
def VY(hu:X.A.units+1<cLine)(ho:PE X o td)(hi:PE X i ty)(hs:Sq i):PE X (.Subscript o i pos) (Nb td ty):=by
 intro pins s σ H Q I h;refine Tz PySem.F.slot_dict_getitem.lookup hs (thn (ho pins s σ H _ I h) λu s1 ⟨x,H1,I1,rx,q1⟩=>thn (hi pins s1 σ H1 _ I1 q1) λiv s2 ⟨y,H2,I2,ry,a,v,ex,g,q2⟩=>?_);subst ex;obtain rfl:u=Value.ref a:=rx;exact⟨MR I2 g,QL hu I2 g ry λw' s3 I3 rw'=>⟨v,H2,I3,rw',q2⟩⟩
def VH(hu:X.A.units+1<cLine)(ho:PE X o td)(hi:PE X i ty)(hv:PE X value tv)(hs:swapsWith value (some (.Subscript o i pos')) pos.line X.env=pure false):
 PS X (.Assign [.Subscript o i pos'] value pos) (Nl td ty tv):=by
 intro pins s σ H D I h;refine wpAny_Assign_Subscript (thn (hv pins s σ H _ I h) λr s1 ⟨v,H1,I1,rv,q1⟩=>thn (ho pins s1 σ H1 _ I1 q1) λu s2 ⟨x,H2,I2,rx,q2⟩=>thn (hi pins s2 σ H2 _ I2 q2) λiv s3 ⟨y,H3,I3,ry,a,H4,ex,g,q3⟩=>?_) hs;subst ex;obtain rfl:u=Value.ref a:=rx;exact QK hu I3 g ry rv λs4 I4=>⟨σ,H4,I4,q3⟩
end
def Ly{P:Program}{w:World}{H:Hp}(h:Heap)(hb:sysModules<h.objs.size):ObjOk P w H (h.push { cls:=.type "dict",data:=.dict #[] }) h.objs.size (.dK []):=
 ⟨zero_le _,beq_eq_false_iff_ne.mpr (Ne.symm (ne_of_lt hb)),[],.nil,Heap.DictOf.new h⟩
def Kx:TE:=λ_ H Q=>∀p,H p=none->Q (.ref p) (upd H p (.dK []))
section
variable{X:Cx}{pos:Pos}
def SH:PE X (.Dict [] [] pos) Kx:=λpins s σ H Q I h=>
 wpAny_Dict_empty ⟨.ref s.heap.objs.size,_,I.laid (a:=s.heap.objs.size) (o:=.dK []) (t':=s.toks) (λ_ _ q=>Heap.get?_push_of_some _ q) (le_refl _) (Ly s.heap I.big),rfl,h _ (I.hok.fresh (le_refl _))⟩
end
def GP:List (TE×TE)->St->Hp->(List (V×V)->Hp->Prop)->Prop
 |[],_,H,Q=>Q [] H
 |(tk,tv)::r,σ,H,Q=>tk σ H λx H1=>tv σ H1 λy H2=>GP r σ H2 λps H3=>Q ((x,y)::ps) H3
abbrev VV:List (V×V)->List (Value×Value)->Prop:=Paired λp q=>RelV p.1 q.1/\RelV p.2 q.2
def PPs(X:Cx)(pos:Pos)(keys:List (Option Expr))(values:List Expr)(trs:List (TE×TE)):Prop:=
 ∀(pins:List (Addr×Obj)) (s:Shared) (σ:St) (H:Hp) (Q:List (V×V)->Hp->Prop),Inv X pins σ H s->GP trs σ H Q ->
   wpAny (model X.prog X.w) X.A (evalPairs (pairTrees keys values X.env pos)) (λvs s'=>∃ps H',Inv X pins σ H' s'/\VV ps vs/\Q ps H') X.xe s
def VJ{X:Cx}{pos:Pos}:PPs X pos [] [] []:=λpins s σ H Q I h=>pairTrees_nil_walk ⟨[],H,I,.nil,h⟩
def SC{X:Cx}{pos:Pos}{k v:Expr}{ks:List (Option Expr)}{vs:List Expr}{tk tv:TE}{trs:List (TE×TE)}(hk:PE X k tk)(hv:PE X v tv)(hr:PPs X pos ks vs trs):
 PPs X pos (some k::ks) (v::vs) ((tk,tv)::trs):=λpins s σ H Q I h=>
 pairTrees_cons_walk (thn (hk pins s σ H _ I h) λu s1 ⟨x,H1,I1,rx,q1⟩=>thn (hv pins s1 σ H1 _ I1 q1) λw2 s2 ⟨y,H2,I2,ry,q2⟩=>
  thn (hr pins s2 σ H2 _ I2 q2) λws s3 ⟨ps,H3,I3,rel,q3⟩=>⟨(x,y)::ps,H3,I3,.cons ⟨rx,ry⟩ rel,q3⟩)
def EE(kvs more:List (Key×V)):List (Key×V):=more.foldl (λacc kv=>CJ acc kv.1 kv.2) kvs
def KV.merge:∀{more:List (Key×V)} {rs:List (Key×Value)} {kvs:List (Key×V)} {vs:List (Key×Value)},KV more rs->KV kvs vs->KV (EE kvs more) (merged vs rs):=by
 intro more rs kvs vs r;unfold KV at r
 induction r generalizing kvs vs with
 |nil=>intro q;exact q
 |@cons p q ps qs h t ih=>
  intro r0;have e:KV (CJ kvs p.1 p.2) (stored vs q.1 q.2):=by
   have:=r0.put p.1 h.2;rw[<- h.1];exact this
  exact ih e
def GM:∀(more kvs:List (Key×V)),(EE kvs more).length<=kvs.length+more.length
 |[],kvs=>by show kvs.length<=kvs.length+0;omega
 |p::r,kvs=>by
  have h1:=GM r (CJ kvs p.1 p.2);have h2:=FG kvs p.1 p.2;show(EE (CJ kvs p.1 p.2) r).length<=_;rw[length_cons];omega
def Iy{P:Program}{w:World}:∀{kvs:List (Key×V)} {ws:List (Value×Value)},VV (kvs.map λkv=>(kV kv.1,kv.2)) ws->∃rs,Carries (BF P w) ws rs/\KV kvs rs
 |[],_,r=>by rw[map_nil]at r;cases r;exact⟨[],True.intro,.nil⟩
 |p::kvs,_,r=>by
  rw[map_cons]at r;cases r with
  |@cons a b as bs h t=>
   obtain⟨rs,c,q⟩:=Iy (P:=P) (w:=w) t;obtain⟨b1,b2⟩:=b;exact⟨(p.1,b2)::rs,⟨Ip h.1,rfl,c⟩,.cons ⟨rfl,h.2⟩ q⟩
def Na(trs:List (TE×TE)):TE:=λσ H Q=>∀p,H p=none->GP trs σ (upd H p (.dK [])) λps H2=>H2 p=some (.dK [])/\∃kvs:List (Key×V),ps=kvs.map (λkv=>(kV kv.1,kv.2))/\kvs.length<=15/\Q (.ref p) (upd H2 p (.dK (EE [] kvs)))
def VX{X:Cx}{pos:Pos}{keys:List (Option Expr)}{values:List Expr}{trs:List (TE×TE)}(h:PPs X pos keys values trs)(hall:keys.all (·.isSome)=true)(hl:keys.length=values.length)(h0:keys≠[])
 (h15:keys.length<=15):PE X (.Dict keys values pos) (Na trs):=by
 intro pins s σ H Q I q;have hn:=I.hok.fresh (le_refl s.heap.objs.size);have I1:=I.laid (a:=s.heap.objs.size) (o:=.dK []) (h':=s.heap.push { cls:=.type "dict",data:=.dict #[] }) (t':=s.toks) (λ_ _ q=>Heap.get?_push_of_some _ q) (le_refl _) (Ly s.heap I.big);refine wpAny_Dict_walk (knd:=BF X.prog X.w) hall hl h0 h15 (thn (h pins _ σ _ _ I1 (q _ hn)) λws s2 ⟨ps,H2,I2,rel,e,kvs,ep,lk,q2⟩=>?_);subst ep;obtain⟨rs,c,rk⟩:=Iy (P:=X.prog) (w:=X.w) rel;obtain⟨z,hd,vs0,r0,dd⟩:=TX I2.hok e;cases r0;refine⟨rs,c,dd,λh' dd' hs=>⟨.ref s.heap.objs.size,_,?_,rfl,q2⟩⟩;have hz:(EE [] kvs).length<=sizeLine:=by
  have h1:=GM kvs [];rw[length_nil]at h1;rw[sizeLine_eq];omega
 have he:∃q,h'.get? s.heap.objs.size=some q:=let ⟨q,_,_,hq,_⟩:=dd';⟨q,hq⟩
 exact Ja I2 (by rw[e];exact True.intro) hs he (QH hz hd (rk.merge .nil) dd')
structure M2(X:Cx)(o:Expr)(m:Str)(apos:Pos)(e f:Expr)(cpos:Pos):Prop where
 base:attributeBase o m X.env (eval o X.env)=eval o X.env
 few:((backTo cpos (starEach [e,f] X.env)).all (λx=>!x.1)&&(backToKw cpos (keywordEach [] X.env)).all (λx=>x.1.isSome)
  && decide (([e,f]:List Expr).length+([]:List Keyword).length+(if([]:List Keyword).isEmpty then 0 else 1)<30))=true
 line:(apos.endLine==cpos.line)=true
 trees:backTo cpos (starEach [e,f] X.env)=[(false,eval e X.env),(false,eval f X.env)]
def IsD(H:Hp)(a:Addr):Prop:=(∃kvs,Rd H a (.dK kvs))∨∃kvs,Rd H a (.dT kvs)
def ZD{X:Cx}{pins:List (Addr×Obj)}{σ:St}{H:Hp}{s:Shared}{a:Addr}(I:Inv X pins σ H s)(d:IsD H a):
 s.TypeIs (.ref a) "dict"/\(∀b,Value.ref a=.ref b->∃ob,s.heap.get? b=some ob/\ob.dict=none)/\(a==sysModules)=false:=by
 rcases d with⟨kvs,e⟩|⟨kvs,e⟩
 .obtain⟨_,hd,vs,_,dd⟩:=Iv I.hok e;refine⟨dd.typeIs,λb q=>?_,hd⟩;cases q;obtain⟨ob,_,_,h1,h2,_⟩:=dd;exact⟨ob,h1,h2.2.1⟩
 .obtain⟨_,hd,xs,_,dd⟩:=Iu I.hok e;refine⟨dd.typeIs,λb q=>?_,hd⟩;cases q;obtain⟨ob,_,_,h1,h2,_⟩:=dd;exact⟨ob,h1,h2.2.1⟩
section
variable{X:Cx}{pins:List (Addr×Obj)}{σ:St}{H:Hp}{s:Shared}{a:Addr}{y d:V}{u r:Value}{o:Option V}{A:Around}{E:Value->Shared->Prop}
def Za{Q:Value->Shared->Prop}(hu:A.units+1<cLine)(I:Inv X pins σ H s)(g:DGet H a y o)(ry:RelV y u)(rd:RelV d r)(h:∀w' s',Inv X pins σ H s'->RelV (o.getD d) w'->Q w' s'):
 wpAny (model X.prog X.w) A (call (.builtin "dict.get") [.ref a,u,r]) Q E s:=by
 rcases g with⟨kvs,k,e,ey,l⟩|⟨kvs,k,b,e,ey,eb,l⟩
 .subst ey;obtain⟨z,hd,vs,rel,dd⟩:=Iv I.hok e;refine call_meetsIn PySem.F.slot_dict_get dd.typeIs PySem.F.entry_dict_get (PySem.F.args_dict_get_3 _ _ _) (meets_dict_get_default (BF X.prog X.w) a (Ip ry) hd r) ⟨_,dd.mapOf,h _ _ (I.tok _) ?_⟩;rw[l];exact(rel.val k).getD rd
 .subst ey;cases(show u=Value.ref b from ry);obtain⟨z,hd,xs,rel,dd⟩:=Iu I.hok e;refine call_meetsIn PySem.F.slot_dict_get dd.typeIs PySem.F.entry_dict_get (PySem.F.args_dict_get_3 _ _ _) (meetsH_dict_get_default (tupleKind (BF X.prog X.w)) a b hd r) ⟨tupleKind_room_in1 hu,k,xs,Io I.hok eb,dd,h _ _ (I.tok _) ?_⟩;rw[l];exact(rel.val k).getD rd
end
def Ky(td ty tx:TE):TE:=λσ H Q=>td σ H λx H1=>∃a,x=.ref a/\IsD H1 a/\ty σ H1 λy H2=>tx σ H2 λz H3=>∃o,DGet H3 a y o/\Q (o.getD z) H3
section
variable{X:Cx}{o e f:Expr}{apos cpos:Pos}{td ty tx:TE}
def SI(hu:X.A.units+1<cLine)(ho:PE X o td)(he:PE X e ty)(hf:PE X f tx)(m:M2 X o "get" apos e f cpos):PE X (.Call (.Attribute o "get" apos) [e,f] [] cpos) (Ky td ty tx):=by
 intro pins s σ H Q I h;refine wpAny_Call_method m.base m.few m.line PySem.F.plainAttrs_dict PySem.F.slot_dict_get PySem.F.type_dict_get (thn (ho pins s σ H _ I h) λu s1 ⟨x,H1,I1,rx,a,ex,d,q1⟩=>?_);subst ex;obtain rfl:u=Value.ref a:=rx;obtain⟨t1,t2,_⟩:=ZD I1 d;refine⟨t1,t2,?_⟩;rw[m.trees];refine Calls.callWith_builtin rfl (Calls.evalArgs_plain (Calls.spliced_cons (thn (he pins s1 σ H1 _ I1 q1) λiv s2 ⟨y,H2,I2,ry,q2⟩=>
  Calls.spliced_cons (thn (hf pins s2 σ H2 _ I2 q2) λfv s3 ⟨z,H3,I3,rz,ov,g,q3⟩=>Calls.spliced_nil ?_))))
 exact Za hu I3 g ry rz λw' s4 I4 rw'=>⟨_,H3,I4,rw',q3⟩
end
def BG(cells:List (Str×Addr)):List (Str×NameKind)->List (Str×Addr)->List (Str×Addr)
 |[],acc=>acc
 |(n,k)::r,acc=>if k==.free then BG cells r ((n,(cells.lookup n).getD 0)::acc)else BG cells r acc
def Fg{env:Env}(f:Str×NameKind->List (Str×Addr)->Sem (ForInStep (List (Str×Addr))))
 (hf:∀name kind cs,f (name,kind) cs=if(kind==NameKind.free)=true then(do let a <- cellOf env name;pure (ForInStep.yield ((name,a)::cs)))else pure (ForInStep.yield cs)):
 ∀(names:List (Str×NameKind)) (acc:List (Str×Addr)),(∀y∈names,y.2=.free->∃c,env.cells.lookup y.1=some c)->forIn names acc f=pure (BG env.cells names acc)
 |[],acc,_=>rfl
 |(n,k)::r,acc,hy=>by
   rw[List.forIn_cons,hf];have ih:=λa=>Fg f hf r a λz hz=>hy z (mem_cons_of_mem _ hz);by_cases hk:(k==NameKind.free)=true
   .obtain⟨c,hc⟩:=hy (n,k) mem_cons_self (by simpa using hk);have hc:env.cells.lookup n=some c:=hc;have e1:cellOf env n=pure c:=by unfold cellOf;rw[hc]
    rw[if_pos hk,e1];show forIn r ((n,c)::acc) f=_;have e2:BG env.cells ((n,k)::r) acc=BG env.cells r ((n,c)::acc):=by
     rw[BG,if_pos hk,hc];rfl
    rw[ih,e2]
   .rw[if_neg hk];show forIn r acc f=_;have e2:BG env.cells ((n,k)::r) acc=BG env.cells r acc:=by
     rw[BG,if_neg hk]
    rw[ih,e2]
def DB{scope:Scope}{env:Env}(h:∀y∈scope.names,y.2=.free->∃c,env.cells.lookup y.1=some c):closureFor scope env=pure (BG env.cells scope.names []):=by
 unfold closureFor;dsimp only;rw[Fg _ (λname kind cs=>rfl) scope.names [] h];rfl
def Eb{cells:List (Str×Addr)}:∀{names:List (Str×NameKind)} {acc:List (Str×Addr)},(∀y∈names,y.2=.free->∃c,cells.lookup y.1=some c)->(∀x c,acc.lookup x=some c->cells.lookup x=some c) ->
 ∀x c,(BG cells names acc).lookup x=some c->cells.lookup x=some c
 |[],_,_,ha,x,c,e=>ha x c e
 |(n,k)::r,acc,hy,ha,x,c,e=>by
   unfold BG at e;have hr:∀y∈r,y.2=.free->∃c,cells.lookup y.1=some c:=λz hz=>hy z (mem_cons_of_mem _ hz);by_cases hk:(k==NameKind.free)=true
   .rw[if_pos hk]at e;refine Eb hr (λz d q=>?_) x c e;obtain⟨c0,hc0⟩:=hy (n,k) mem_cons_self (by simpa using hk);have hc0:cells.lookup n=some c0:=hc0;rw[lookup_cons]at q;by_cases hz:(z==n)=true
    .rw[hz,hc0]at q;have:z=n:=by simpa using hz
     subst this;simpa [hc0]using q
    .have hz':(z==n)=false:=by simpa using hz
     rw[hz']at q;exact ha z d q
   .rw[if_neg hk]at e;exact Eb hr ha x c e
def Ec{cells:List (Str×Addr)}:∀{names:List (Str×NameKind)} {acc:List (Str×Addr)} {x:Str},((acc.lookup x).isSome=true∨(x,NameKind.free)∈names)->((BG cells names acc).lookup x).isSome=true
 |[],_,_,h=>h.elim id λz=>by cases z
 |(n,k)::r,acc,x,h=>by
   unfold BG;by_cases hk:(k==NameKind.free)=true
   .rw[if_pos hk];refine Ec ?_;by_cases hx:(x==n)=true
    .exact .inl (by rw[lookup_cons,hx];rfl)
    .have hx':(x==n)=false:=by simpa using hx
     rcases h with h|h
     .exact .inl (by rw[lookup_cons,hx'];exact h)
     .rcases mem_cons.mp h with h|h
      .cases h;simp at hx
      .exact .inr h
   .rw[if_neg hk];refine Ec ?_;rcases h with h|h
    .exact .inl h
    .rcases mem_cons.mp h with h|h
     .cases h;simp at hk
     .exact .inr h
def CW:Nat->List (Str×NameKind)->List (Str×Addr)
 |_,[]=>[]
 |n,(x,k)::r=>if k==.cell then CW (n+1) r++[(x,n)]else CW n r
def C2:∀(names:List (Str×NameKind)) (n:Nat) (acc:List (Str×Addr)),cellsFrom n names acc=CW n names++acc
 |[],_,_=>rfl
 |(x,k)::r,n,acc=>by
   unfold cellsFrom CW;by_cases hk:(k==NameKind.cell)=true
   .rw[if_pos hk,if_pos hk,C2 r (n+1),append_assoc];rfl
   .rw[if_neg hk,if_neg hk,C2 r n]
def Hu:∀(names:List (Str×NameKind)) (n:Nat) (x:Str) (c:Addr),(CW n names).lookup x=some c->(x,NameKind.cell)∈names
 |[],_,_,_,e=>by cases e
 |(y,k)::r,n,x,c,e=>by
   unfold CW at e;by_cases hk:(k==NameKind.cell)=true
   .rw[if_pos hk]at e;have hk':k=.cell:=by simpa using hk
    rw[lookup_append]at e;cases q:(CW (n+1) r).lookup x with
    |some d=>exact mem_cons_of_mem _ (Hu r _ x d q)
    |none=>
     rw[q]at e;simp only[none_or,lookup_cons]at e;by_cases hx:(x==y)=true
     .have:x=y:=by simpa using hx
      subst this;subst hk';exact mem_cons_self
     .have hx':(x==y)=false:=by simpa using hx
      rw[hx']at e;cases e
   .rw[if_neg hk]at e;exact mem_cons_of_mem _ (Hu r n x c e)
def Hv:∀(names:List (Str×NameKind)) (n:Nat) (x:Str),(x,NameKind.cell)∈names->∃c,(CW n names).lookup x=some c
 |[],_,_,h=>by cases h
 |(y,k)::r,n,x,h=>by
   unfold CW;by_cases hk:(k==NameKind.cell)=true
   .rw[if_pos hk,lookup_append];rcases mem_cons.mp h with h|h
    .obtain⟨rfl,rfl⟩:=Prod.mk.inj h;cases q:(CW (n+1) r).lookup x with
     |some d=>exact⟨d,rfl⟩
     |none=>exact⟨n,by simp[lookup_cons]⟩
    .obtain⟨c,hc⟩:=Hv r (n+1) x h;exact⟨c,by rw[hc];rfl⟩
   .rw[if_neg hk];rcases mem_cons.mp h with h|h
    .cases h;simp at hk
    .exact Hv r n x h
def Ob(scope:Scope)(C:Addr)(env:Env):Env:=
 { scope:=relabel scope env,locals:=C,globals:=env.globals,cells:=cellsFrom (C+1) scope.names (BG env.cells scope.names []),qual:=env.qual,func:=none,code:=env.code,frame:=env.frame,builtins:=env.builtins }
def JL{M:Model}{A:Around}{E:Value->Shared->Prop}{s:Shared}{scope:Scope}{cl:List (Str×Addr)}{env:Env}{Q:Env->Shared->Prop}
 (hQ:∀h',(∀b o,s.heap.get? b=some o->h'.get? b=some o)->h'.Ns s.heap.objs.size (λ_=>none)->(∀x c,(CW (s.heap.objs.size+1) scope.names).lookup x=some c->h'.IsCell c none/\s.heap.objs.size<c) ->
  ((CW (s.heap.objs.size+1) scope.names).Pairwise λx y=>x.2≠y.2) ->
  Q { scope:=scope,locals:=s.heap.objs.size,globals:=env.globals,cells:=cellsFrom (s.heap.objs.size+1) scope.names cl,qual:=env.qual,func:=none,code:=env.code,frame:=env.frame,builtins:=env.builtins } { s with heap:=h' }):
 wpAny M A (newFunctionEnv scope env.globals cl [] env.qual none .none (some env)) Q E s:=by
 simp only[newFunctionEnv,Option.isSome_some,if_true];refine wpAny_bind (wpAny_alloc ?_);refine wpAny_bind (wpAny_layCells _ (λname kind cells=>by cases hkc:kind==NameKind.cell<;>simp[hkc]) _ _ _ _ ?_);have ok:=cellsFrom_ok scope.names (s.heap.push { cls:=.type "dict",data:=.dict #[] }) (s.heap.objs.size+1) [] ⟨λ_ _ hm=>(nomatch hm),List.Pairwise.nil⟩ (by rw[Heap.size_push];exact le_refl _);rw[Heap.size_push,C2,append_nil]at ok;rw[show({ s with heap:=s.heap.push { cls:=.type "dict",data:=.dict #[] } }:Shared).heap.objs.size=s.heap.objs.size+1 from Heap.size_push ..];refine wpAny_bind (wpAny_pure (wpAny_pure ?_));exact hQ _ (λb o e=>pushCells_keeps _ _ b o (Heap.get?_push_of_some _ e)) ((Heap.Ns.new s.heap (.type "dict")).keeps (pushCells_keeps _ _)) (λx c hc=>⟨(ok.empty x c (mem_of_lookup hc)).1,(ok.empty x c (mem_of_lookup hc)).2⟩) ok.apart
def Jr:∀{names:List (Str×NameKind)} {x:Str} {k k':NameKind},(names.map (·.1)).Nodup->(x,k)∈names->(x,k')∈names->k=k'
 |[],_,_,_,_,h,_=>by cases h
 |(y,q)::r,x,k,k',nd,h,h'=>by
   have nd:(y::r.map (·.1)).Nodup:=nd;obtain⟨n1,n2⟩:=nodup_cons.mp nd;have out:∀{z:NameKind},(y,z)∈r->False:=λm=>n1 (mem_map.mpr ⟨_,m,rfl⟩);rcases mem_cons.mp h with e|e<;>rcases mem_cons.mp h' with e'|e'
   .cases e;cases e';rfl
   .cases e;exact(out e').elim
   .cases e';exact(out e).elim
   .exact Jr n2 e e'
def GL{env:Env}{x:Str}:∀{names:List (Str×NameKind)},names.lookup x=some .free ->
 (names.map λ(n,k)=>if(k==NameKind.free&&env.scope.kind==.function&&env.kindOf n==some .cell)then(n,NameKind.cell)else(n,k)).lookup x=some .cell ∨
 (names.map λ(n,k)=>if(k==NameKind.free&&env.scope.kind==.function&&env.kindOf n==some .cell)then(n,NameKind.cell)else(n,k)).lookup x=some .free
 |[],h=>by simp at h
 |(n,k)::r,h=>by
   have ih:=@GL env x r;show List.lookup x ((if(k==NameKind.free&&env.scope.kind==.function&&env.kindOf n==some .cell)=true then(n,NameKind.cell)else(n,k))::_)=_∨List.lookup x ((if(k==NameKind.free&&env.scope.kind==.function&&env.kindOf n==some .cell)=true then(n,NameKind.cell)else(n,k))::_)=_;cases hx:x==n with
   |true=>
    simp only[lookup_cons,hx]at h;cases h;by_cases hc:(NameKind.free==NameKind.free&&env.scope.kind==.function&&env.kindOf n==some .cell)=true
    .rw[if_pos hc];exact .inl (by simp only[lookup_cons,hx])
    .rw[if_neg hc];exact .inr (by simp only[lookup_cons,hx])
   |false=>
    simp only[lookup_cons,hx]at h;by_cases hc:(k==NameKind.free&&env.scope.kind==.function&&env.kindOf n==some .cell)=true
    .rw[if_pos hc];simp only[lookup_cons,hx];exact ih h
    .rw[if_neg hc];simp only[lookup_cons,hx];exact ih h
def GV{env:Env}{x:Str}:∀{names:List (Str×NameKind)},
 ((names.map λ(n,k)=>if(k==NameKind.free&&env.scope.kind==.function&&env.kindOf n==some .cell)then(n,NameKind.cell)else(n,k)).lookup x=some .cell ∨
 (names.map λ(n,k)=>if(k==NameKind.free&&env.scope.kind==.function&&env.kindOf n==some .cell)then(n,NameKind.cell)else(n,k)).lookup x=some .free) ->
 names.lookup x=some .cell∨names.lookup x=some .free
 |[],h=>by simp at h
 |(n,k)::r,h=>by
   have ih:=@GV env x r;have h:List.lookup x ((if(k==NameKind.free&&env.scope.kind==.function&&env.kindOf n==some .cell)=true then(n,NameKind.cell)else(n,k))::_)=_∨List.lookup x ((if(k==NameKind.free&&env.scope.kind==.function&&env.kindOf n==some .cell)=true then(n,NameKind.cell)else(n,k))::_)=_:=h;cases hx:x==n with
   |true=>
    by_cases hc:(k==NameKind.free&&env.scope.kind==.function&&env.kindOf n==some .cell)=true
    .have hk:k=.free:=by
      have:=(Bool.and_eq_true _ _ ▸ (Bool.and_eq_true _ _ ▸ hc).1:(k==NameKind.free)=true/\_).1;simpa using this
     exact .inr (by simp only[lookup_cons,hx,hk])
    .rw[if_neg hc]at h;simp only[lookup_cons,hx]at h ⊢;exact h
   |false=>
    simp only[lookup_cons,hx];refine ih ?_;by_cases hc:(k==NameKind.free&&env.scope.kind==.function&&env.kindOf n==some .cell)=true
    .rw[if_pos hc]at h;simp only[lookup_cons,hx]at h;exact h
    .rw[if_neg hc]at h;simp only[lookup_cons,hx]at h;exact h
def cCx(X:Cx)(N':List Str)(scope:Scope)(s:Shared)(H:Hp)(ex:List Addr):Cx:=
 { X with N:=N',s₀:=s,H₀:=H,env:=Ob scope s.heap.objs.size X.env,outer:=X.stack,ex:=ex,fn:=λx=>decide ((x,NameKind.cell)∈scope.names),pn:=[],xe:=λ_ _=>False }
structure CSc(X:Cx)(scope:Scope)(fr:List Str)(ix:List Nat):Prop where
 kind:scope.kind=.function
 nd:(scope.names.map (·.1)).Nodup
 free:(scope.names.all λy=>y.2 != .free||X.env.kindOf y.1==some .cell||X.env.kindOf y.1==some .free)=true
 frs:(fr.all λx=>scope.names.lookup x==some .free)=true
 ixs:fr.map some=ix.map λi=>X.N[i]?
 loc:(scope.names.all λy=>y.2 != .local||scope.names.lookup y.1==some .local)=true
def FK(n:Nat)(ix:List Nat)(σ:St):St:=List.replicate n none++ix.map λi=>(σ[i]?).join
section
variable{X:Cx}{scope:Scope}{fr loc:List Str}{ix:List Nat}{pins:List (Addr×Obj)}{σ:St}{H:Hp}{s:Shared}
def CSc.outer(S:CSc X scope fr ix){y:Str×NameKind}(hy:y∈scope.names)(e:y.2=.free):X.env.kindOf y.1=some .cell∨X.env.kindOf y.1=some .free:=by
 have h:=all_eq_true.mp S.free y hy;rw[e]at h;simpa using h
def CSc.clos(S:CSc X scope fr ix)(ok:X.Ok):∀y∈scope.names,y.2=.free->∃c,X.env.cells.lookup y.1=some c:=λy hy e=>ok.has y.1 (S.outer hy e)
def D5(S:CSc X scope fr ix)(ok:X.Ok){n:Nat}{x:Str}{c:Addr}(e:(cellsFrom n scope.names (BG X.env.cells scope.names [])).lookup x=some c):
 (CW n scope.names).lookup x=some c∨X.env.cells.lookup x=some c:=by
 rw[C2,lookup_append]at e;cases q:(CW n scope.names).lookup x with
 |some d=>rw[q]at e;exact .inl e
 |none=>
  rw[q]at e;exact .inr (Eb (S.clos ok) (λ_ _ z=>by simp at z) x c e)
def IC(S:CSc X scope fr ix)(I:Inv X pins σ H s){ex:List Addr}(hex:∀b∈ex,C1 X pins H b){h':Heap}(hk:∀b o,s.heap.get? b=some o->h'.get? b=some o)(hn:h'.Ns s.heap.objs.size λ_=>none)
 (ho:∀x c,(CW (s.heap.objs.size+1) scope.names).lookup x=some c->h'.IsCell c none/\s.heap.objs.size<c) (ha:(CW (s.heap.objs.size+1) scope.names).Pairwise λx y=>x.2≠y.2) (hlt:∀b∈ex,b<s.heap.objs.size):
 Inv (cCx X (loc++fr) scope s H ex) [] (FK loc.length ix σ) H { s with heap:=h' }:=by
 have old:∀x c,X.env.cells.lookup x=some c->c<s.heap.objs.size:=λx c e=>let ⟨v,z⟩:=I.cell x c e;z.lt
 have lenix:fr.length=ix.length:=by simpa using congrArg List.length S.ixs
 refine⟨⟨I.ok.mod,?_,I.ok.glob,I.ok.blt,le_refl _,?_,?_,?_,I.ok.hd,I.ok.frames,.inl rfl,?_,I.bs,le_trans I.ok.bsz I.sz,?_,?_,I.stack,I.stkFree⟩,rfl,I.bare,Un.kept hk,⟨_,hn,?_⟩,?_,I.hok.fresh (le_refl _),?_,?_,I.hok.kept hk,?_⟩
 .exact S.kind
 .intro x y c e1 e2;rcases D5 S I.ok e1 with a|a<;>rcases D5 S I.ok e2 with b|b
  .exact name_of_addr ha (PySem.mem_of_lookup a) (PySem.mem_of_lookup b)
  .exact absurd (lt_trans (ho x c a).2 (old y c b)) (lt_irrefl _)
  .exact absurd (lt_trans (ho y c b).2 (old x c a)) (lt_irrefl _)
  .exact I.ok.inj x y c a b
 .intro x hx;rcases GV hx with e|e
  .exact isSome_iff_exists.mp (PySem.W.cellsFrom_some _ _ _ (.inl e))
  .exact isSome_iff_exists.mp (PySem.W.cellsFrom_some _ _ _ (.inr (Ec (.inr (PySem.mem_of_lookup e)))))
 .intro x c hf e;have hf:(x,NameKind.cell)∈scope.names:=of_decide_eq_true hf;obtain⟨d,hd⟩:=Hv scope.names (s.heap.objs.size+1) x hf;have e':(cellsFrom (s.heap.objs.size+1) scope.names (BG X.env.cells scope.names [])).lookup x=some c:=e;rw[C2,lookup_append,hd]at e';cases e';exact le_of_lt (ho x _ hd).2
 .intro b hb;refine⟨ne_of_lt (hlt b hb),λx c e z=>?_⟩;rcases D5 S I.ok e with a|a
  .exact absurd (lt_trans (ho x c a).2 (by rw[z];exact hlt b hb)) (lt_irrefl _)
  .exact(hex b hb).2.2.2.2.1 x c a z
 .intro b o e hb;rcases(hex b hb).2.2.2.1 with z|z
  .exact I.ok.noex b o e z
  .exact absurd (lt_of_lt_of_le (Heap.lt_size (I.ok.bs b o e).1) z) (lt_irrefl _)
 .intro b hb hf;rcases mem_cons.mp (I.stkSub b hf)with z|z
  .exact(hex b hb).2.1 z
  .exact(hex b hb).2.2.1 z
 .intro i x v e1 e2 e3;have e1:(loc++fr)[i]?=some x:=e1;unfold FK at e2;by_cases hi:i<loc.length
  .rw[List.getElem?_append_left (by simpa using hi),List.getElem?_replicate]at e2;split at e2<;>cases e2
  .have hi':loc.length<=i:=Nat.not_lt.mp hi;rw[List.getElem?_append_right (by simpa using hi')]at e2;rw[List.getElem?_append_right hi']at e1;rw[List.length_replicate,List.getElem?_map]at e2;generalize hj:i-loc.length=j at e1 e2;have e4:(fr.map some)[j]?=some (some x):=by rw[List.getElem?_map,e1];rfl
   rw[S.ixs,List.getElem?_map]at e4;cases q:ix[j]? with
   |none=>rw[q]at e2;cases e2
   |some k=>
    rw[q]at e2 e4;have e2:(σ[k]?).join=some v:=Option.some.inj e2;have e4:X.N[k]?=some x:=Option.some.inj e4;have e5:σ[k]?=some (some v):=by
     cases w:σ[k]? with
     |none=>rw[w]at e2;cases e2
     |some z=>rw[w]at e2;simpa using e2
    have hfx:=all_eq_true.mp S.frs x (mem_of_getElem? e1);have hfx:scope.names.lookup x=some .free:=by simpa using hfx
    have hmem:=PySem.mem_of_lookup hfx;have hout:=S.outer hmem rfl;obtain⟨m,hm,hl⟩:=I.loc;obtain⟨u,r,l⟩:=hl k x v e4 e5 (.inr hout);refine⟨u,r,.inr ⟨GL hfx,?_⟩⟩;rcases l with⟨kk,_⟩|⟨kk,c,ec,z⟩
    .rcases hout with w|w
     .rw[kk]at w;cases w
     .rw[kk]at w;cases w
    .have own0:(CW (s.heap.objs.size+1) scope.names).lookup x=none:=by
      cases w:(CW (s.heap.objs.size+1) scope.names).lookup x with
      |none=>rfl
      |some d=>exact absurd (Jr S.nd (Hu _ _ _ _ w) hmem) (by decide)
     have hc:(BG X.env.cells scope.names []).lookup x=some c:=by
      obtain⟨d,hd⟩:=isSome_iff_exists.mp (Ec (cells:=X.env.cells) (acc:=[]) (.inr hmem));have:=Eb (S.clos I.ok) (λ_ _ z=>by simp at z) x d hd;rw[ec]at this;cases this;exact hd
     refine⟨c,?_,z.keeps hk⟩;show(cellsFrom (s.heap.objs.size+1) scope.names (BG X.env.cells scope.names [])).lookup x=some c;rw[C2,lookup_append,own0,hc];rfl
 .intro x c e;rcases D5 S I.ok e with a|a
  .exact⟨_,(ho x c a).1⟩
  .obtain⟨v,z⟩:=I.cell x c a;exact⟨v,z.keeps hk⟩
 .intro x c e;rcases D5 S I.ok e with a|a
  .exact I.hok.fresh (le_of_lt (ho x c a).2)
  .exact I.freeC x c a
 .intro p hp;cases hp
 .unfold FK;show _=(loc++fr).length;simp[lenix]
end
section
variable{prog:Program}{w:World}{A:Around}{R:Result->Shared->Prop}{s:Shared}
def Gn{elt target iter:Expr}{ifs:List Expr}{scope:Scope}{pos:Pos}{it acc:Value}{env:Env}(I:Nat->Shared->Prop)
 (turn:∀n s,I n s->wpAny (model prog w) A (pyNext it) (λr s₁=>match r with
  |none=>R (.ok .next) s₁
  | some v=>wpAny (model prog w) A (letOwnedTupleGo target it v) (λ_ s₁=>wpAny (model prog w) A (assign target env v) (λ_ s₂=>
   wpAny (model prog w) A (forIn ifs true λc r=>if r=true then do let ok <- isTrue c env (eval c env);pure (ForInStep.yield ok)else pure (ForInStep.yield r)) (λok s₃=>
    if ok=true then wpAny (model prog w) A (eval elt env) (λx s₄=>
     wpAny (model prog w) A (call (.builtin "list.append") [acc,x]) (λ_ s₅=>∃m,m<n/\I m s₅) (λ_ _=>False) s₄) (λ_ _=>False) s₃
    else ∃m,m<n/\I m s₃) (λ_ _=>False) s₂) (λ_ _=>False) s₁) (λ_ _=>False) s₁) (λ_ _=>False) s)
 (n:Nat) (h:I n s):
 codeAny (model prog w) A (.compLoop (.ListComp elt [⟨target,iter,ifs,0⟩] scope pos) 0 it acc env) R s:=by
 refine codeAny_loop rfl I (λn s hI=>?_) n h;show wpAny _ A ((compTurn (.ListComp elt [⟨target,iter,ifs,0⟩] scope pos) 0 it acc env).onRaise (λx=>do noteFrame x env;theTreesLotGoes x)) _ _ s;refine wpAny_noted ?_;rw[compTurn_list];refine wpAny_bind (wpAny_standAt (wpAny_bind (wpAny_mono (turn n s hI) (λr s₁ h₁=>?_) λ_ _ h'=>h'.elim)));cases r with
 |none=>exact wpAny_pure h₁
 |some v=>
  refine wpAny_bind (wpAny_mono h₁ (λ_ s₁ h₁=>?_) λ_ _ h'=>h'.elim);refine wpAny_bind (wpAny_mono h₁ (λ_ s₂ h₂=>wpAny_bind (wpAny_mono h₂ (λok s₃ h₃=>?_) λ_ _ h'=>h'.elim)) λ_ _ h'=>h'.elim);cases ok with
  |false=>exact wpAny_pure ⟨rfl,h₃⟩
  |true=>
   exact wpAny_bind (wpAny_bind (wpAny_mono h₃ (λx s₄ h₄=>wpAny_bind (wpAny_mono h₄ (λ_ s₅ h₅=>wpAny_pure (wpAny_pure ⟨rfl,h₅⟩)) λ_ _ h'=>h'.elim)) λ_ _ h'=>h'.elim))
end
def PF(X:Cx)(ifs:List Expr)(t:TT):Prop:=
 ∀(pins:List (Addr×Obj)) (s:Shared) (σ:St) (H:Hp) (Q:Bool->Hp->Prop),Inv X pins σ H s->t σ H Q ->
   wpAny (model X.prog X.w) X.A (forIn ifs true λc r=>if r=true then do let ok <- isTrue c X.env (eval c X.env);pure (ForInStep.yield ok)else pure (ForInStep.yield r)) (TP X pins σ Q) X.xe s
def Qt:TT:=λ_ H Q=>Q true H
def YX{X:Cx}:PF X [] Qt:=λpins s σ H Q I h=>wpAny_tests_nil ⟨H,I,h⟩
def YW{X:Cx}{c:Expr}{t:TT}(h:PT X c t):PF X [c] t:=λpins s σ H Q I q=>wpAny_tests_one (h pins s σ H Q I q)
def TZ(J:It)(D:Addr)(σ0:St)(H0:Hp)(g:TG)(tf:TT)(te:TE)(Q:VK):Prop:=∃W:Nat->Nat->St->List V->Hp->Prop,
 (∃m,W 0 m σ0 [] (upd H0 D (.lst [])))/\∀i m σ ys H,W i m σ ys H->H D=some (.lst ys)/\
  ((J.stop i H/\Q (.ref D) H)∨(J.go i H/\ys.length<sizeLine/\∃N:St->List V->Hp->Prop,(∀σ' ys' H',N σ' ys' H'->∃m',m'<m/\W (i+1) m' σ' ys' H')/\
    ∀x H',J.yld i H x H'->g x σ H' λσ2 H2=>tf σ2 H2 λb H3=>
     if b=true then te σ2 H3 λv H4=>H4 D=some (.lst ys)/\N σ2 (ys++[v]) (upd H4 D (.lst (ys++[v])))
     else N σ2 ys H3))
def Fp(n:Nat)(ix:List Nat)(wi:TI)(g:TG)(tf:TT)(te:TE):TE:=λσ H Q=>wi σ H λJ H1=>∀D,H1 D=none->TZ J D (FK n ix σ) H1 g tf te Q
section
variable{X:Cx}
def MB{pins:List (Addr×Obj)}{σ:St}{H:Hp}{s:Shared}{D:Addr}{ys:List V}{x:V}{u:Value}{Q:Value->Shared->Prop}{E:Value->Shared->Prop}(I:Inv X pins σ H s)(hD:H D=some (.lst ys))(r:RelV x u)(hz:ys.length<sizeLine)
 (h:∀v s',Inv X pins σ (upd H D (.lst (ys++[x]))) s'->Q v s'):wpAny (model X.prog X.w) X.A (call (.builtin "list.append") [.ref D,u]) Q E s:=by
 have I':=I.wish λ_ _=>False;have q:=Js (X:=X.wish λ_ _=>False) pins s σ H (.ref D) [x] (.ref D) [u] (λv H'=>H'=upd H D (.lst (ys++[x]))) I' rfl (.cons r .nil) ⟨D,ys,x,rfl,rfl,hD,hz,rfl⟩;refine wpAny_mono q (λv s' ⟨v',H',I2,_,e⟩=>?_) λ_ _ z=>False.elim z;subst e;exact h v s' I2.unwish
def VZ{elt tg iter:Expr}{ifs:List Expr}{scope:Scope}{pos:Pos}{loc fr:List Str}{ix:List Nat}{wi:TI}{g:TG}{tf:TT}{te:TE}(hc:X.calm=true)(S:CSc X scope fr ix)(hi:PI X tg iter wi)
 (hg:∀s H ex,PG (cCx X (loc++fr) scope s H ex) tg g) (hf:∀s H ex,PF (cCx X (loc++fr) scope s H ex) ifs tf) (he:∀s H ex,PE (cCx X (loc++fr) scope s H ex) elt te)
 (hs:∀x,foldedSetIterable iter X.env x=pure x:=by intro _;rfl):PE X (.ListComp elt [⟨tg,iter,ifs,0⟩] scope pos) (Fp loc.length ix wi g tf te):=by
 intro pins s σ H Q I h;rw[eval_ListComp];have hnames:∀y∈scope.names,y.2=.local->scope.names.lookup y.1=some .local:=λy hy e=>by
  have:=all_eq_true.mp S.loc y hy;rw[e]at this;simpa using this
 refine wpAny_comprehension_free (use:=none) rfl hs (DB (S.clos I.ok)) S.kind hnames (thn (hi pins s σ H _ I h) λv s1 h1=>thn h1 λitv s2 h2=>?_);obtain⟨it,fp,tn,J,H2,rfl,I2,T,st2,f2,hW⟩:=h2;refine wpAny_newObj_type ?_;have fresh2:H2 s2.heap.objs.size=none:=I2.hok.fresh (le_refl _);have I3:=I2.lnew (its:=[]) (ys:=[]) (t':=s2.toks) .nil (zero_le _);obtain⟨W,⟨m0,w0⟩,turn⟩:=hW s2.heap.objs.size fresh2;have lt2:∀b∈fp,b<s2.heap.objs.size:=λb hb=>let ⟨o,e,_⟩:=T.obj 0 _ st2 b hb;Heap.lt_size e
 have f3:∀b∈fp,C1 X pins (upd H2 s2.heap.objs.size (.lst [])) b:=λb hb=>⟨by rw[AW (ne_of_lt (lt2 b hb))];exact(f2 b hb).1,(f2 b hb).2⟩
 have lt3:∀b∈fp,b<(s2.heap.push { cls:=.type "list",data:=.seq ([]:List Value).toArray }).objs.size:=λb hb=>by rw[Heap.size_push];exact lt_succ_of_lt (lt2 b hb)
 generalize hs3:({ s2 with heap:=s2.heap.push { cls:=.type "list",data:=.seq ([]:List Value).toArray } }:Shared)=s3 at *;have lt3:∀b∈fp,b<s3.heap.objs.size:=by rw[<- hs3];exact lt3
 have st3:tn 0 s3.heap:=T.keep _ _ _ st2 λb hb o e=>by rw[<- hs3];exact Heap.get?_push_of_some _ e
 refine JL λh' hk hn ho ha=>?_;have I4:=IC (loc:=loc) S I3 f3 hk hn ho ha lt3;have fpX:∀{H':Hp},(∀b∈fp,H' b=none)->∀b∈fp,C1 (cCx X (loc++fr) scope s3 (upd H2 s2.heap.objs.size (.lst [])) fp) [] H' b:=λhn b hb=>
  ⟨hn b hb,(I4.ok.exf b hb).1,I4.ok.exfs b hb,.inl hb,(I4.ok.exf b hb).2,λp hp=>by cases hp⟩
 have loop:codeAny (model X.prog X.w) X.A (.compLoop (.ListComp elt [⟨tg,iter,ifs,0⟩] scope pos) 0 (.ref it) (.ref s2.heap.objs.size) (Ob scope s3.heap.objs.size X.env))
  (compPost (model X.prog X.w) X.A X.xe none (EP X pins σ Q) (.ref s2.heap.objs.size) s3.heap.objs.size) { s3 with heap:=h' }:=by
  refine Gn (λn s'=>∃i σ' ys H',Inv (cCx X (loc++fr) scope s3 (upd H2 s2.heap.objs.size (.lst [])) fp) [] σ' H' s'/\tn i s'.heap/\(∀b∈fp,H' b=none)/\W i n σ' ys H') ?_ m0
   ⟨0,_,[],_,I4,T.keep _ _ _ st3 λb hb o e=>hk b o e,λb hb=>(f3 b hb).1,w0⟩
  rintro n s5 ⟨i,σ5,ys,H5,I5,st5,fr5,w5⟩;obtain⟨hD,w5⟩:=turn i n σ5 ys H5 w5;rcases w5 with⟨stop,qn⟩|⟨go,hz,N,hN,step⟩
  .refine thn (T.done (cCx X (loc++fr) scope s3 (upd H2 s2.heap.objs.size (.lst [])) fp) rfl rfl rfl hc i [] s5 σ5 H5 _ I5 (fpX fr5) st5 stop) λr s6 ⟨hr,I6⟩=>?_;subst hr;obtain⟨m,hm,_⟩:=I6.loc;refine⟨m,hm,λh'' hs=>?_⟩;have neC:∀b o,s3.heap.get? b=some o->b≠s3.heap.objs.size:=λb o e=>ne_of_lt (Heap.lt_size e);have un:=I6.base;refine⟨.ref s2.heap.objs.size,H5,I3.call' (s':={ s6 with heap:=h'' }) (ch:=fp) I6.os ⟨λb o e n hb hx=>?_,λb o e n hb hx=>?_,un.free,λb o e hx=>?_,un.tups,un.frzs,un.tbls⟩ ?_ I6.bare ?_,rfl,qn⟩
   .exact(hs.2 b (neC b o e)).trans (un.keep b o e n hb hx)
   .obtain⟨sl,q⟩:=un.slot b o e n hb hx;exact⟨sl,(hs.2 b (neC b o e)).trans q⟩
   .obtain⟨o',q⟩:=un.there b o e hx;exact⟨o',(hs.2 b (neC b o e)).trans q⟩
   .intro b ob e;have hfree:H5 s3.heap.objs.size=none:=I6.free;refine(I6.hok b ob e).stay (λc w' hc q=>(hs.2 c ?_).trans q) (λ_ q=>q) λ_ _ q=>q;intro z;rcases hc with hc|hc
    .rw[<- hc,z,hfree]at e;cases e
    .rw[z,hfree]at hc;cases hc
   .intro b hb;obtain⟨_,a2,_,a4,a5,a6⟩:=f3 b hb;exact⟨a4,a2,a5,a6⟩
  .refine thn (T.item (cCx X (loc++fr) scope s3 (upd H2 s2.heap.objs.size (.lst [])) fp) rfl rfl rfl hc i [] s5 σ5 H5 _ I5 (fpX fr5) st5 go) λr s6 ⟨u,hr,h6⟩=>?_;subst hr;refine thn h6 λ_ s7 ⟨x,H7,I7,r7,y7,st7,fr7⟩=>?_;have I7':=I7.pinned (fpX fr7) (T.obj _ _ st7);have keepI:∀{σ8:St} {H8:Hp} {s8:Shared},Inv (cCx X (loc++fr) scope s3 (upd H2 s2.heap.objs.size (.lst [])) fp) ([]++EB fp s7.heap) σ8 H8 s8->tn (i+1) s8.heap/\∀b∈fp,H8 b=none:=λ{σ8 H8 s8} I8=>by
    refine⟨T.keep _ _ _ st7 λb hb o e=>(I8.pin (b,o) (mem_append_right _ (mem_append_right _ (BW hb e)))).1,λb hb=>?_⟩;obtain⟨o,e,d⟩:=T.obj _ _ st7 b hb;exact(I8.pin (b,o) (mem_append_right _ (mem_append_right _ (BW hb e)))).2.1
   refine thn (hg s3 (upd H2 s2.heap.objs.size (.lst [])) fp _ s7 σ5 H7 x u _ I7' r7 (step x H7 y7)) λ_ s8 ⟨σ8,H8,I8,q8⟩=>?_;refine thn (hf s3 (upd H2 s2.heap.objs.size (.lst [])) fp _ s8 σ8 H8 _ I8 q8) λb s9 ⟨H9,I9,q9⟩=>?_;cases b with
   |false=>
    rw[if_neg Bool.false_ne_true]at q9 ⊢;obtain⟨m',hm,w9⟩:=hN _ _ _ q9;exact⟨m',hm,i+1,σ8,ys,H9,I9.unpinned,(keepI I9).1,(keepI I9).2,w9⟩
   |true=>
    rw[if_pos rfl]at q9 ⊢;refine thn (he s3 (upd H2 s2.heap.objs.size (.lst [])) fp _ s9 σ8 H9 _ I9 q9) λe10 s10 ⟨v10,H10,I10,r10,hD10,n10⟩=>?_;obtain⟨m',hm,w10⟩:=hN _ _ _ n10;refine MB (X:=cCx X (loc++fr) scope s3 (upd H2 s2.heap.objs.size (.lst [])) fp) I10 hD10 r10 hz λ_ s11 I11=>?_;exact⟨m',hm,i+1,σ8,_,_,I11.unpinned,(keepI I11).1,(keepI I11).2,w10⟩
 exact codeAny_compStart_list loop (T.self X.A 0 _ _ _ (T.keep _ _ _ st3 λb hb o e=>hk b o e) loop)
end
section
variable{X:Cx}
def OX{elt tg iter:Expr}{ifs:List Expr}{scope:Scope}{pos:Pos}{loc fr:List Str}{ix:List Nat}{g:TG}{tf:TT}{te:TE}{pins:List (Addr×Obj)}{σ:St}{Q:VK}{it:Addr}{fp:List Addr}{tn:Nat->Heap->Prop}{J:It}{H2:Hp}{s2:Shared}{E:Value->Shared->Prop}
 {RR:Value->Addr->Result->Shared->Prop} (hc:X.calm=true) (S:CSc X scope fr ix)
 (hg:∀s H ex,PG (cCx X (loc++fr) scope s H ex) tg g) (hf:∀s H ex,PF (cCx X (loc++fr) scope s H ex) ifs tf) (he:∀s H ex,PE (cCx X (loc++fr) scope s H ex) elt te)
 (I2:Inv X pins σ H2 s2) (T:Turn X.prog X.w X.K tg J fp it tn) (st2:tn 0 s2.heap) (f2:∀b∈fp,C1 X pins H2 b) (hW:∀D,H2 D=none->TZ J D (FK loc.length ix σ) H2 g tf te Q)
 (hfin:∀(s3 s6:Shared) (H5:Hp) (σ5:St) (D:Addr),Inv X pins σ (upd H2 D (.lst [])) s3->Inv (cCx X (loc++fr) scope s3 (upd H2 D (.lst [])) fp) [] σ5 H5 s6->(∀b∈fp,C1 X pins (upd H2 D (.lst [])) b)->Q (.ref D) H5->RR (.ref D) s3.heap.objs.size (.ok .next) s6):
 wpAny (model X.prog X.w) X.A (newList []) (λacc s₃=>wpAny (model X.prog X.w) X.A (newFunctionEnv scope X.env.globals (BG X.env.cells scope.names []) [] X.env.qual none .none (some X.env)) (λcenv s₄=>
  codeAny (model X.prog X.w) X.A (.compStart (.ListComp elt [⟨tg,iter,ifs,0⟩] scope pos) 0 (.ref it) acc { cenv with scope:=relabel scope X.env }) (RR acc cenv.locals) s₄) E s₃) E s2:=by
 refine wpAny_newObj_type ?_;have fresh2:H2 s2.heap.objs.size=none:=I2.hok.fresh (le_refl _);have I3:=I2.lnew (its:=[]) (ys:=[]) (t':=s2.toks) .nil (zero_le _);obtain⟨W,⟨m0,w0⟩,turn⟩:=hW s2.heap.objs.size fresh2;have lt2:∀b∈fp,b<s2.heap.objs.size:=λb hb=>let ⟨o,e,_⟩:=T.obj 0 _ st2 b hb;Heap.lt_size e
 have f3:∀b∈fp,C1 X pins (upd H2 s2.heap.objs.size (.lst [])) b:=λb hb=>⟨by rw[AW (ne_of_lt (lt2 b hb))];exact(f2 b hb).1,(f2 b hb).2⟩
 have lt3:∀b∈fp,b<(s2.heap.push { cls:=.type "list",data:=.seq ([]:List Value).toArray }).objs.size:=λb hb=>by rw[Heap.size_push];exact lt_succ_of_lt (lt2 b hb)
 generalize hs3:({ s2 with heap:=s2.heap.push { cls:=.type "list",data:=.seq ([]:List Value).toArray } }:Shared)=s3 at *;have lt3:∀b∈fp,b<s3.heap.objs.size:=by rw[<- hs3];exact lt3
 have st3:tn 0 s3.heap:=T.keep _ _ _ st2 λb hb o e=>by rw[<- hs3];exact Heap.get?_push_of_some _ e
 refine JL λh' hk hn ho ha=>?_;have I4:=IC (loc:=loc) S I3 f3 hk hn ho ha lt3;have fpX:∀{H':Hp},(∀b∈fp,H' b=none)->∀b∈fp,C1 (cCx X (loc++fr) scope s3 (upd H2 s2.heap.objs.size (.lst [])) fp) [] H' b:=λhn b hb=>
  ⟨hn b hb,(I4.ok.exf b hb).1,I4.ok.exfs b hb,.inl hb,(I4.ok.exf b hb).2,λp hp=>by cases hp⟩
 have loop:codeAny (model X.prog X.w) X.A (.compLoop (.ListComp elt [⟨tg,iter,ifs,0⟩] scope pos) 0 (.ref it) (.ref s2.heap.objs.size) (Ob scope s3.heap.objs.size X.env))
  (RR (.ref s2.heap.objs.size) s3.heap.objs.size) { s3 with heap:=h' }:=by
  refine Gn (λn s'=>∃i σ' ys H',Inv (cCx X (loc++fr) scope s3 (upd H2 s2.heap.objs.size (.lst [])) fp) [] σ' H' s'/\tn i s'.heap/\(∀b∈fp,H' b=none)/\W i n σ' ys H') ?_ m0
   ⟨0,_,[],_,I4,T.keep _ _ _ st3 λb hb o e=>hk b o e,λb hb=>(f3 b hb).1,w0⟩
  rintro n s5 ⟨i,σ5,ys,H5,I5,st5,fr5,w5⟩;obtain⟨hD,w5⟩:=turn i n σ5 ys H5 w5;rcases w5 with⟨stop,qn⟩|⟨go,hz,N,hN,step⟩
  .refine thn (T.done (cCx X (loc++fr) scope s3 (upd H2 s2.heap.objs.size (.lst [])) fp) rfl rfl rfl hc i [] s5 σ5 H5 _ I5 (fpX fr5) st5 stop) λr s6 ⟨hr,I6⟩=>?_;subst hr;exact hfin s3 s6 H5 σ5 s2.heap.objs.size I3 I6 f3 qn
  .refine thn (T.item (cCx X (loc++fr) scope s3 (upd H2 s2.heap.objs.size (.lst [])) fp) rfl rfl rfl hc i [] s5 σ5 H5 _ I5 (fpX fr5) st5 go) λr s6 ⟨u,hr,h6⟩=>?_;subst hr;refine thn h6 λ_ s7 ⟨x,H7,I7,r7,y7,st7,fr7⟩=>?_;have I7':=I7.pinned (fpX fr7) (T.obj _ _ st7);have keepI:∀{σ8:St} {H8:Hp} {s8:Shared},Inv (cCx X (loc++fr) scope s3 (upd H2 s2.heap.objs.size (.lst [])) fp) ([]++EB fp s7.heap) σ8 H8 s8->tn (i+1) s8.heap/\∀b∈fp,H8 b=none:=λ{σ8 H8 s8} I8=>by
    refine⟨T.keep _ _ _ st7 λb hb o e=>(I8.pin (b,o) (mem_append_right _ (mem_append_right _ (BW hb e)))).1,λb hb=>?_⟩;obtain⟨o,e,d⟩:=T.obj _ _ st7 b hb;exact(I8.pin (b,o) (mem_append_right _ (mem_append_right _ (BW hb e)))).2.1
   refine thn (hg s3 (upd H2 s2.heap.objs.size (.lst [])) fp _ s7 σ5 H7 x u _ I7' r7 (step x H7 y7)) λ_ s8 ⟨σ8,H8,I8,q8⟩=>?_;refine thn (hf s3 (upd H2 s2.heap.objs.size (.lst [])) fp _ s8 σ8 H8 _ I8 q8) λb s9 ⟨H9,I9,q9⟩=>?_;cases b with
   |false=>
    rw[if_neg Bool.false_ne_true]at q9 ⊢;obtain⟨m',hm,w9⟩:=hN _ _ _ q9;exact⟨m',hm,i+1,σ8,ys,H9,I9.unpinned,(keepI I9).1,(keepI I9).2,w9⟩
   |true=>
    rw[if_pos rfl]at q9 ⊢;refine thn (he s3 (upd H2 s2.heap.objs.size (.lst [])) fp _ s9 σ8 H9 _ I9 q9) λe10 s10 ⟨v10,H10,I10,r10,hD10,n10⟩=>?_;obtain⟨m',hm,w10⟩:=hN _ _ _ n10;refine MB (X:=cCx X (loc++fr) scope s3 (upd H2 s2.heap.objs.size (.lst [])) fp) I10 hD10 r10 hz λ_ s11 I11=>?_;exact⟨m',hm,i+1,σ8,_,_,I11.unpinned,(keepI I11).1,(keepI I11).2,w10⟩
 exact codeAny_compStart_list loop (T.self X.A 0 _ _ _ (T.keep _ _ _ st3 λb hb o e=>hk b o e) loop)
def FL{scope:Scope}{N':List Str}{fp:List Addr}{pins:List (Addr×Obj)}{σ σ5:St}{H3 H5:Hp}{s3 s6:Shared}{h'':Heap}(I3:Inv X pins σ H3 s3)(I6:Inv (cCx X N' scope s3 H3 fp) [] σ5 H5 s6)(f3:∀b∈fp,C1 X pins H3 b)
 (hs:Heap.SameBut s3.heap.objs.size s6.heap h''):Inv X pins σ H5 { s6 with heap:=h'' }:=by
 have neC:∀b o,s3.heap.get? b=some o->b≠s3.heap.objs.size:=λb o e=>ne_of_lt (Heap.lt_size e);have un:=I6.base;refine I3.call' (s':={ s6 with heap:=h'' }) (ch:=fp) I6.os ⟨λb o e n hb hx=>?_,λb o e n hb hx=>?_,un.free,λb o e hx=>?_,un.tups,un.frzs,un.tbls⟩ ?_ I6.bare ?_
 .exact(hs.2 b (neC b o e)).trans (un.keep b o e n hb hx)
 .obtain⟨sl,q⟩:=un.slot b o e n hb hx;exact⟨sl,(hs.2 b (neC b o e)).trans q⟩
 .obtain⟨o',q⟩:=un.there b o e hx;exact⟨o',(hs.2 b (neC b o e)).trans q⟩
 .intro b ob e;have hfree:H5 s3.heap.objs.size=none:=I6.free;refine(I6.hok b ob e).stay (λc w' hc q=>(hs.2 c ?_).trans q) (λ_ q=>q) λ_ _ q=>q;intro z;rcases hc with hc|hc
  .rw[<- hc,z,hfree]at e;cases e
  .rw[z,hfree]at hc;cases hc
 .intro b hb;obtain⟨_,a2,_,a4,a5,a6⟩:=f3 b hb;exact⟨a4,a2,a5,a6⟩
def VD{i:Nat}{y:Str}{elt tg iter:Expr}{ifs:List Expr}{scope:Scope}{pos spos py:Pos}{loc fr:List Str}{ix:List Nat}{wi:TI}{g:TG}{tf:TT}{te:TE}(hN:X.N.Nodup)(hiN:X.N[i]?=some y)(hy:X.env.scope.names.lookup y=some .local)
 (hc:X.calm=true) (S:CSc X scope fr ix) (hi:PI X tg iter wi)
 (hg:∀s H ex,PG (cCx X (loc++fr) scope s H ex) tg g) (hf:∀s H ex,PF (cCx X (loc++fr) scope s H ex) ifs tf) (he:∀s H ex,PE (cCx X (loc++fr) scope s H ex) elt te)
 (hsw:swapsWith (.ListComp elt [⟨tg,iter,ifs,0⟩] scope pos) (some (.Name y py)) spos.line X.env=pure true:=by rfl) (hs:∀x,foldedSetIterable iter X.env x=pure x:=by intro _;rfl):
 PS X (.Assign [.Name y py] (.ListComp elt [⟨tg,iter,ifs,0⟩] scope pos) spos) (DZ (Fp loc.length ix wi g tf te) (Cl i)):=by
 intro pins s σ H D I h;have hnames:∀y∈scope.names,y.2=.local->scope.names.lookup y.1=some .local:=λy hy e=>by
  have:=all_eq_true.mp S.loc y hy;rw[e]at this;simpa using this
 rw[exec_Assign_Name_used _ _ _ _ hsw];refine wpAny_bind (wpAny_standAt (wpAny_bind ?_));show wpAny _ _ (do let _ <- comprehension (.ListComp elt [⟨tg,iter,ifs,0⟩] scope pos) scope X.env _ (newList []) false (eval iter X.env) (some (assign (.Name y py) X.env))) _ _ s;refine wpAny_bind (wpAny_mono (wpAny_comprehension_free (use:=some (assign (.Name y py) X.env)) (Q:=λ_ s'=>SP X pins D .next s') rfl hs (DB (S.clos I.ok)) S.kind hnames
  (thn (hi pins s σ H _ I h) λv s1 h1=>thn h1 λitv s2 h2=>?_)) (λ_ s' hq=>wpAny_pure (wpAny_pure hq)) λ_ _ e=>e)
 obtain⟨it,fp,tn,J,H2,rfl,I2,T,st2,f2,hW⟩:=h2;refine OX (RR:=λacc C=>compPost (model X.prog X.w) X.A X.xe (some (assign (.Name y py) X.env)) (λ_ s'=>SP X pins D .next s') acc C) hc S hg hf he I2 T st2 f2 hW λs3 s6 H5 σ5 L I3 I6 f3 q=>?_;have J6:Inv X pins σ H5 s6:=FL (h'':=s6.heap) I3 I6 f3 (.refl ..);obtain⟨m,hm,_⟩:=I6.loc;have hm:s6.heap.Ns s3.heap.objs.size m:=hm;have hL:s3.heap.objs.size≠X.env.locals:=Ne.symm (ne_of_lt I3.lt);show wpAny _ _ (assign (.Name y py) X.env (.ref L)) _ _ s6;refine wpAny_assign_Name (GQ (v:=.ref L) J6 hN hiN (.inl hy) rfl (λs7 I7 ⟨a,sb,ha⟩=>?_) (.inr hy));have hca:s3.heap.objs.size≠a:=by
  rcases ha with rfl|ha
  .exact hL
  .obtain⟨v,z⟩:=I3.cell y a ha;exact Ne.symm (ne_of_lt z.lt)
 refine⟨m,hm.sameBut sb hca,λh' hs'=>?_⟩;refine⟨_,H5,I7.turned (t':=s7.toks) (it:=s3.heap.objs.size) (λb o hb e=>(hs'.2 b hb).trans e) I6.free hL (.inr I3.sz) (λx c e z=>?_) (λp hp z=>?_),q⟩
 .obtain⟨v,w⟩:=I3.cell x c e;exact absurd w.lt (by rw[z];exact lt_irrefl _)
 .exact absurd (Heap.lt_size (I3.pin p hp).1) (by rw[z];exact lt_irrefl _)
end
mutual
def Rep(K:PySem.W.Frag)(H:Hp):PyData->V->Prop
 |.none,v=>v=.non
 |.bool b,v=>v=.bl b
 |.int i,v=>v=.int i
 |.str x,v=>v=.str x
 |.list ds,v=>∃a xs,v=.ref a/\SqL K H a xs/\Bq K H ds xs
 |.tuple ds,v=>∃a xs,v=.ref a/\SqT K H a xs/\Bq K H ds xs
 |.dict _,_=>False
def Bq(K:PySem.W.Frag)(H:Hp):List PyData->List V->Prop
 |[],xs=>xs=[]
 |d::ds,xs=>∃x r,xs=x::r/\Rep K H d x/\Bq K H ds r
end
section
variable{X:Cx}{pins:List (Addr×Obj)}{σ:St}{H:Hp}{s:Shared}
mutual
def DN(I:Inv X pins σ H s):∀(d:PyData) (v:V) (u:Value),Rep X.K H d v->RelV v u->∃as,Reads s.heap u d as
 |.none,v,u,h,r=>by
  have h:v=.non:=by simpa only[Rep]using h
  subst h;cases r;exact⟨_,.none⟩
 |.bool b,v,u,h,r=>by
  have h:v=.bl b:=by simpa only[Rep]using h
  subst h;cases r;exact⟨_,.bool b⟩
 |.int i,v,u,h,r=>by
  have h:v=.int i:=by simpa only[Rep]using h
  subst h;obtain⟨t,rfl⟩:=r;exact⟨_,.int i t⟩
 |.str x,v,u,h,r=>by
  have h:v=.str x:=by simpa only[Rep]using h
  subst h;obtain⟨t,rfl⟩:=r;exact⟨_,.str x t⟩
 |.list ds,v,u,h,r=>by
  have h:∃a xs,v=.ref a/\SqL X.K H a xs/\Bq X.K H ds xs:=by simpa only[Rep]using h
  obtain⟨a,xs,rfl,hq,ha⟩:=h;cases r;obtain⟨its,rv,⟨o,n,e,c,_,dd⟩,hz⟩:=I.list hq;obtain⟨as,q⟩:=Eu I ds xs its ha rv;exact⟨_,.list e c dd (by simpa using q)⟩
 |.tuple ds,v,u,h,r=>by
  have h:∃a xs,v=.ref a/\SqT X.K H a xs/\Bq X.K H ds xs:=by simpa only[Rep]using h
  obtain⟨a,xs,rfl,hq,ha⟩:=h;cases r;obtain⟨its,rv,⟨o,e,c,n,dd⟩,hz⟩:=I.tuple hq;obtain⟨as,q⟩:=Eu I ds xs its ha rv;exact⟨_,.tuple e c dd (by simpa using q)⟩
 |.dict _,v,u,h,r=>by
  have h:False:=by simpa only[Rep]using h
  exact h.elim
def Eu(I:Inv X pins σ H s):∀(ds:List PyData) (xs:List V) (us:List Value),Bq X.K H ds xs->Vals xs us->∃as,ReadsAll s.heap us ds as
 |[],xs,us,h,r=>by
  have h:xs=[]:=by simpa only[Bq]using h
  subst h;cases r;exact⟨_,.nil⟩
 |d::ds,xs,us,h,r=>by
  have h:∃x r,xs=x::r/\Rep X.K H d x/\Bq X.K H ds r:=by simpa only[Bq]using h
  obtain⟨x,rr,rfl,h1,h2⟩:=h;cases r with
  |cons r1 r2=>
   obtain⟨as,q1⟩:=DN I d _ _ h1 r1;obtain⟨bs,q2⟩:=Eu I ds _ _ h2 r2;exact⟨_,.cons q1 q2⟩
end
end
structure Grow(H H':Hp):Prop where
 tup:∀b xs,H b=some (.tup xs)->H' b=some (.tup xs)
 frz:∀b o u,H b=some (.frz o u)->H' b=some (.frz o u)
def Grow.refl{H:Hp}:Grow H H:=⟨λ_ _ h=>h,λ_ _ _ h=>h⟩
def Chg(H:Hp)(p:Addr):Prop:=(∀xs,H p≠some (.tup xs))/\∀o u,H p≠some (.frz o u)
def Grow.put{H H':Hp}{p:Addr}{o:HO}(a:Grow H H')(h:Chg H' p):Grow H (upd H' p o):=⟨λc xs e=>by
 have q:=a.tup c xs e;have n:c≠p:=λz=>h.1 xs (by rw[<- z];exact q);rw[AW n];exact q,λc z u e=>by
 have q:=a.frz c z u e;have n:c≠p:=λw=>h.2 z u (by rw[<- w];exact q);rw[AW n];exact q⟩
def Chg.lst{H:Hp}{p:Addr}{xs:List V}(h:H p=some (.lst xs)):Chg H p:=⟨(λ_ e=>by rw[h]at e;cases e),(λ_ _ e=>by rw[h]at e;cases e)⟩
def Grow.sq{K:PySem.W.Frag}{H H':Hp}{a:Addr}{xs:List V}(g:Grow H H')(h:SqT K H a xs):SqT K H' a xs:=by
 rcases h with(h|⟨o,h⟩)|h
 .exact .inl (.inl (g.tup _ _ h))
 .exact .inl (.inr ⟨o,g.frz _ _ _ h⟩)
 .exact .inr h
section
variable{X:Cx}
def Nx(K:PySem.W.Frag):List V->Hp->VK->Prop:=λxs H Q=>∃x d,xs=[x]/\Rep K H d x/\d.showable=true/\d.hasDict=false/\isDisplay d=true/\d.depth<=30/\d.shown.length<=sizeLine/\Q (.str d.shown) H
def OY(hg:X.A.guards=some [])(hu:X.A.units+64<cLine):CallR X (.builtin "repr") (Nx X.K):=by
 intro pins s σ H xs us Q I r h;obtain⟨x,d,rfl,hr,hs,hd,hi,hdep,hsz,q⟩:=h;obtain⟨u,rfl,ru⟩:=C9 r;obtain⟨as,hR⟩:=DN I d x u hr ru;obtain⟨a,rfl⟩:=isRef_of_reads hR hi;exact repr_of_reads' hR hs (PyData.noDict_hsm hd) hg (by omega) (λ_ _ e=>e) (λh' u tk hk=>⟨.str d.shown,H,I.kept hk,⟨_,rfl⟩,q⟩) hsz
def Ny(K:PySem.W.Frag):R2:=λx y H Q=>∃d e,Rep K H d x/\Rep K H e y/\d.canLay0=true/\e.canLay0=true/\min d.depth e.depth<=60/\Q (.bl (!PyData.eqv d e)) H
def Rr(K:PySem.W.Frag):R2:=λx y H Q=>∃d e,Rep K H d x/\Rep K H e y/\d.canLay0=true/\e.canLay0=true/\min d.depth e.depth<=60/\Q (.bl (PyData.eqv d e)) H
def Yn(hu:X.A.units+64<cLine):OpR X (compareOp .NotEq) (Ny X.K):=by
 intro pins s σ H x y v u Q I rx ry h;obtain⟨d,e,h1,h2,c1,c2,hm,q⟩:=h;obtain⟨as,q1⟩:=DN I d x v h1 rx;obtain⟨bs,q2⟩:=DN I e y u h2 ry;exact PySem.SeqAt.compareNe_reads q1 q2 c1 c2 (by omega) ⟨.bl _,H,I,rfl,q⟩
def Yr(hu:X.A.units+64<cLine):OpR X (compareOp .Eq) (Rr X.K):=by
 intro pins s σ H x y v u Q I rx ry h;obtain⟨d,e,h1,h2,c1,c2,hm,q⟩:=h;obtain⟨as,q1⟩:=DN I d x v h1 rx;obtain⟨bs,q2⟩:=DN I e y u h2 ry;exact PySem.SeqAt.compareEq_reads q1 q2 c1 c2 (by omega) ⟨.bl _,H,I,rfl,q⟩
def JU:∀{ns:List Int} {us:List Value},Vals (ns.map V.int) us->IntsAre us ns
 |[],_,.nil=>.nil
 |n::ns,_,.cons r t=>by obtain⟨k,rfl⟩:=r;exact .cons _ _ (JU t)
end
end L2
namespace L2
open PySem PySem.Spec PyProof.Rows
section
variable(K:PySem.W.Frag){X:Cx}
def Le(hK:X.K=K:=by rfl):IxR X (JI K):=by subst hK;exact W1
def N6(hK:X.K=K:=by rfl):IxR X (Rq K):=by subst hK;exact ZA
def RW(hK:X.K=K:=by rfl):SlR X (Nw K):=by subst hK;exact U4
def U2(hK:X.K=K:=by rfl):SlR X (LQ K):=by subst hK;exact Ow
def Yq(hK:X.K=K:=by rfl):OpR X (compareOp .In) (rIn K false):=by subst hK;exact Ph
def JK(hu:X.A.units+64<cLine)(hK:X.K=K:=by rfl):OpR X (compareOp .Eq) (Rr K):=by subst hK;exact Yr hu
def JJ(hu:X.A.units+64<cLine)(hK:X.K=K:=by rfl):OpR X (compareOp .NotEq) (Ny K):=by subst hK;exact Yn hu
def LY(hK:X.K=K:=by rfl):OpR X (binaryOp .Add) (Nz K):=by subst hK;exact Vd
def Xf:List V->Hp->VK->Prop:=λxs H Q=>∃p ys,xs=[.ref p]/\(SqL K H p ys∨SqT K H p ys)/\Q (.int ys.length) H
def QV(hK:X.K=K:=by rfl):CallR X (.builtin "len") (Xf K):=by subst hK;exact M6
def FP:List V->Hp->VK->Prop:=λxs H Q=>∃p ys,xs=[.ref p]/\(SqL K H p ys∨SqT K H p ys)/\∀l,H l=none->Q (.ref l) (upd H l (.lst ys))
def Iz(hK:X.K=K:=by rfl):CallR X (.type "list") (FP K):=by subst hK;exact M5
def LP:List V->Hp->VK->Prop:=λxs H Q=>∃p ys,xs=[.ref p]/\((SqL K H p ys/\∀l,H l=none->Q (.ref l) (upd H l (.tup ys)))∨(SqT K H p ys/\Q (.ref p) H))
def Hi(hK:X.K=K:=by rfl):CallR X (.type "tuple") (LP K):=by subst hK;exact KG
def MV(hg:X.A.guards=some [])(hu:X.A.units+64<cLine)(hK:X.K=K:=by rfl):CallR X (.builtin "repr") (Nx K):=by subst hK;exact OY hg hu
def LW{tg l:Expr}{tl:TE}(hl:PE X l tl)(hK:X.K=K:=by rfl):PI X tg l (HN K tl):=by subst hK;exact VQ hl
def VP{tg l:Expr}{tl:TE}(hl:PE X l tl)(hK:X.K=K:=by rfl):PI X tg l (OJ K tl):=by subst hK;exact YT hl
def VS{pos:Pos}{es:List Expr}{k:Nat}{t:TGs}{n:Nat}(hc:X.calm=true)(h:PGs X es t)(hK:X.K=K:=by rfl)
 (hn:(assignEach es X.env).length=n:=by rfl) (hst:(assignEach es X.env).findIdx? (·.1)=none:=by rfl):PG X (.Tuple es k pos) (OO K n t):=by
 subst hK;exact YU hc h hn hst
end
section
variable(K:PySem.W.Frag){X:Cx}
def K6:∀{bs:List Bool} {us:List Value} {i:Nat} {v:Value},Vals (bs.map V.bl) us->us[i]?=some v->∃b,bs[i]?=some b/\v=.bool b
 |[],_,_,_,.nil,e=>by simp at e
 |b::bs,_,0,_,.cons r _,e=>by simp at e;subst e;exact⟨b,rfl,r⟩
 |b::bs,_,i+1,_,.cons _ t,e=>by
  obtain⟨c,h1,h2⟩:=K6 (i:=i) t (by simpa using e);exact⟨c,by simpa using h1,h2⟩
def Xg:List V->Hp->VK->Prop:=λxs H Q=>∃(a:Addr) (bs:List Bool),xs=[.ref a]/\SqL K H a (bs.map V.bl)/\Q (.bl (bs.all id)) H
def K5(hc:X.calm=true)(hK:X.K=K:=by rfl):CallR X (.builtin "all") (Xg K):=by
 subst hK;intro pins s σ H xs us Q I r h;obtain⟨a,bs,rfl,hq,q⟩:=h;obtain⟨u,rfl,ru⟩:=C9 r;cases ru;obtain⟨its,rv,p,hz⟩:=I.list hq;have hl:=p.isList;have hlen:=rv.length;have hlt:a<s.heap.objs.size:=by obtain⟨_,e,_⟩:=hl;exact Heap.lt_size e
 refine call_all_walk (wpAny_pyIter_list hl ?_);refine⟨s.heap.objs.size,[s.heap.objs.size,a],[s.heap.objs.size],its.toArray.size,_,_,λi=>(bs[i]?).getD true,rfl,Walks.list (A:=X.A.in1) (I.ok.hd hc) _ a (ne_of_lt hlt) its.toArray,
  ⟨⟨_,Heap.get?_push_size _ rfl,rfl,rfl⟩,hl.push _⟩,λi v s' Q' E' hP hQ=>?_,λh' tk hk=>?_⟩
 .obtain⟨b,e,rfl⟩:=K6 rv (by simpa using hP);simp only[e,getD_some]at hQ;exact wpAny_truthy_bool hQ
 .have e:((List.range its.toArray.size).all λi=>(bs[i]?).getD true)=bs.all id:=by
   rw[size_toArray,<- hlen,length_map];exact LSm.range_all bs
  rw[e];exact⟨.bl _,H,I.kept (LSm.kept_iter hk),rfl,q⟩
def aC:List V->Hp->VK->Prop:=λxs H Q=>∃(a:Addr) (ns:List Int),xs=[.ref a]/\SqL K H a (ns.map V.int)/\0<ns.length/\∀M:Int,M∈ns->(∀x∈ns,x<=M)->Q (.int M) H
def b0(hc:X.calm=true)(hK:X.K=K:=by rfl):CallR X (.builtin "max") (aC K):=by
 subst hK;intro pins s σ H xs us Q I r h;obtain⟨a,ns,rfl,hq,hne,q⟩:=h;obtain⟨u,rfl,ru⟩:=C9 r;cases ru;obtain⟨its,rv,p,hz⟩:=I.list hq;have hi:=JU rv;obtain⟨ys,e⟩:=hi.allInts.items;have hns:ns=ys.toList.map (·.1):=by
  rw[<- hi.numsOf,<- nums_intItems,<- e]
 have hsz:0<ys.size:=by
  have h3:=hne;rw[hns,length_map,Array.length_toList]at h3;exact h3
 have hl:=p.isList;rw[e]at hl;refine max_intList (I.ok.hd hc) hl hsz λv h' tk hv hk=>?_;obtain⟨t,rfl⟩:=intItems_at hv;obtain⟨h1,h2⟩:=argBest_gt (numAt ys) (ys.size-1);refine⟨.int _,H,I.kept hk,⟨t,rfl⟩,q _ ?_ λx hx=>?_⟩
 .rw[hns,numAt_eq];exact getD_mem (by rw[length_map,Array.length_toList];omega)
 .rw[hns]at hx;obtain⟨j,hj,rfl⟩:=mem_getD hx;rw[length_map,Array.length_toList]at hj;rw[<- numAt_eq];exact h2 j (by omega)
def T9:List V->Hp->VK->Prop:=λxs H Q=>∃(a:Addr) (ns:List Int),xs=[.ref a]/\SqL K H a (ns.map V.int)/\0<ns.length/\∀M:Int,M∈ns->(∀x∈ns,M<=x)->Q (.int M) H
def K4(hc:X.calm=true)(hK:X.K=K:=by rfl):CallR X (.builtin "min") (T9 K):=by
 subst hK;intro pins s σ H xs us Q I r h;obtain⟨a,ns,rfl,hq,hne,q⟩:=h;obtain⟨u,rfl,ru⟩:=C9 r;cases ru;obtain⟨its,rv,p,hz⟩:=I.list hq;have hi:=JU rv;obtain⟨ys,e⟩:=hi.allInts.items;have hns:ns=ys.toList.map (·.1):=by
  rw[<- hi.numsOf,<- nums_intItems,<- e]
 have hsz:0<ys.size:=by
  have h3:=hne;rw[hns,length_map,Array.length_toList]at h3;exact h3
 have hl:=p.isList;rw[e]at hl;refine min_intList (I.ok.hd hc) hl hsz λv h' tk hv hk=>?_;obtain⟨t,rfl⟩:=intItems_at hv;obtain⟨h1,h2⟩:=argBest_lt (numAt ys) (ys.size-1);refine⟨.int _,H,I.kept hk,⟨t,rfl⟩,q _ ?_ λx hx=>?_⟩
 .rw[hns,numAt_eq];exact getD_mem (by rw[length_map,Array.length_toList];omega)
 .rw[hns]at hx;obtain⟨j,hj,rfl⟩:=mem_getD hx;rw[length_map,Array.length_toList]at hj;rw[<- numAt_eq];exact h2 j (by omega)
end
structure DefAt(K:PySem.W.Frag)(mg:Str->Option Value)(x:Str)(st:Stmt)(f:Addr)(fd:FuncData)(ps:List Str):Prop where
 fn:Fun K x x st f fd
 mg:mg x=some (.ref f)
 bd:Binds K fd ps []
def TJ{X:Cx}{j k:Nat}{f:Addr}{fd:FuncData}{ps:List Str}{sp:Sp}{x:Str}{st:Stmt}{e:Expr}{es:List Expr}{t:TA}{p pos:Pos}(F:FnOk X.prog X.w X.K X.mg X.base CX0 j f fd ps sp)(hr:Room k X.A)(D:DefAt X.K X.mg x st f fd ps)(ha:PA X (e::es) t)
 (hjk:j<=k:=by decide) (hg:Gl X x:=by rfl) (hdb:(x==("__debug__":Str))=false:=by decide) (he:starEach (e::es) X.env=(false,eval e X.env)::starEach es X.env:=by rfl) (hpl:(backTo pos (starEach es X.env)).any (·.1)=false:=by rfl):
 PE X (.Call (.Name x p) (e::es) [] pos) (F5 sp [] E0 t):=
 Va (F.mono hjk) hr hg D.mg D.fn.kp D.bd .nil aP ha hdb he hpl
def NX(i j k:Nat)(ta:TA):TS:=λD σ H=>ta σ H λvs H1=>∃v w z,vs=[v,w,z]/\D.nx (((σ.set k (some z)).set j (some w)).set i (some v)) H1
def VF{X:Cx}{i j k:Nat}{x y z:Str}{a b c:Expr}{ta:TA}{px py pz pt pos:Pos}{kt k2 pt2}(hc:X.calm=true)(hN:X.N.Nodup)(hi:X.N[i]?=some x)(hj:X.N[j]?=some y)(hk:X.N[k]?=some z)
 (hx:X.env.scope.names.lookup x=some .local) (hy:X.env.scope.names.lookup y=some .local) (hz:X.env.scope.names.lookup z=some .local) (ha:PA X [a,b,c] ta)
 (hw:swappedStores [.Tuple [.Name x px,.Name y py,.Name z pz] kt pt] (.Tuple [a,b,c] k2 pt2) X.env=pure (some [x,y,z]))
 (hs:swapsWithSole [.Tuple [.Name x px,.Name y py,.Name z pz] kt pt] (.Tuple [a,b,c] k2 pt2) pos.line X.env=pure false:=by rfl):
 PS X (.Assign [.Tuple [.Name x px,.Name y py,.Name z pz] kt pt] (.Tuple [a,b,c] k2 pt2) pos) (NX i j k ta):=by
 intro pins s σ H D I h;rw[exec_Assign_arm];refine wpAny_bind (wpAny_standAt ?_);rw[hs];refine wpAny_bind (wpAny_pure ?_);rw[if_neg (by decide)];refine wpAny_bind (Tuple_ (thn (ha _ pins s σ H _ I h) λus s1 ⟨vs,H1,I1,r1,q1⟩=>?_));obtain⟨v,w,q,e1,q1⟩:=q1;subst e1;obtain⟨u1,u2,u3,rfl,rv,rw',rq⟩:∃u1 u2 u3,us=[u1,u2,u3]/\RelV v u1/\RelV w u2/\RelV q u3:=by
  cases r1 with
  |cons p1 q1=>
   cases q1 with
   |cons p2 q2=>
    cases q2 with
    |cons p3 q3=>
     cases q3;exact⟨_,_,_,rfl,p1,p2,p3⟩
 refine wpAny_newObj_type ?_ (by show 3<=sizeLine;decide);have I2:Inv X pins σ H1 { s1 with heap:=s1.heap.push { cls:=.type "tuple",data:=.seq [u1,u2,u3].toArray } }:=I1.kept (t':=s1.toks) λb o e=>Heap.get?_push_of_some _ e;rw[hw];refine wpAny_bind (wpAny_pure ?_);show wpAny (model X.prog X.w) X.A (do rule "assign.swapped-stores";let items <- unpackItems (.ref s1.heap.objs.size) 3 none;assignInOrder [λv=>bindName X.env z v,λv=>bindName X.env y v,λv=>bindName X.env x v] items.reverse;pure Flow.next) _ _ _;refine wpAny_bind (wpAny_rule (wpAny_bind (unpackItems_tuple (items:=#[u1,u2,u3]) (I.ok.hd hc) (IsTup.new s1.heap _) λh' hx'=>?_)));have I3:=I2.kept (h':=h') (t':=s1.toks) λb o e=>hx' b o (ne_of_lt (Heap.lt_size e)) e;show wpAny _ _ (assignInOrder [λv=>bindName X.env z v,λv=>bindName X.env y v,λv=>bindName X.env x v] [u3,u2,u1] >>= λ_=>pure Flow.next) _ _ _;refine wpAny_bind (assignInOrder_cons (wpAny_bindName (DE I3 hN hk (.inl hz) rq (λs2 I4=>?_) (.inr hz))));refine assignInOrder_cons (wpAny_bindName (DE I4 hN hj (.inl hy) rw' (λs3 I5=>?_) (.inr hy)));refine assignInOrder_cons (wpAny_bindName (DE I5 hN hi (.inl hx) rv (λs4 I6=>assignInOrder_nil (wpAny_pure ?_)) (.inr hx)));exact⟨_,H1,I6,q1⟩
def Jd:bootBuiltins "list"=some (.type "list"):=by decide +kernel
def bt_tuple:bootBuiltins "tuple"=some (.type "tuple"):=by decide +kernel
def bt_int:bootBuiltins "int"=some (.type "int"):=by decide +kernel
def bt_len:bootBuiltins "len"=some (.builtin "len"):=by decide +kernel
def bt_repr:bootBuiltins "repr"=some (.builtin "repr"):=by decide +kernel
def bt_min:bootBuiltins "min"=some (.builtin "min"):=by decide +kernel
def QZ:bootBuiltins "sorted"=some (.builtin "sorted"):=by decide +kernel
def bt_all:bootBuiltins "all"=some (.builtin "all"):=by decide +kernel
def KH:bootBuiltins "isinstance"=some (.builtin "isinstance"):=by decide +kernel
def ne1:¬ (("cells":Str)="next"):=by decide +kernel
def ne2:¬ (("cells":Str)="left"):=by decide +kernel
def ne3:¬ (("cells":Str)="turn"):=by decide +kernel
def ne4:¬ (("next":Str)="left"):=by decide +kernel
def ne5:¬ (("next":Str)="turn"):=by decide +kernel
def ne6:¬ (("left":Str)="turn"):=by decide +kernel
def bJ:¬ (("left":Str)="next"):=by decide +kernel
def bI:¬ (("turn":Str)="next"):=by decide +kernel
def bH:¬ (("turn":Str)="left"):=by decide +kernel
mutual
def Hh:∀ns:List Int,PyData.canLayAll0 (ns.map PyData.int)=true
 |[]=>by simp[PyData.canLayAll0]
 |n::ns=>by simp[PyData.canLayAll0,PyData.canLay0,Hh ns]
end
end L2
namespace L2
open PySem PySem.Spec PyProof.Rows PySem.W
def cdF(c:Addr)(q:Str):Heap->Prop:=λh=>h.CodeRec (.ref c) q
def aw(H:Hp)(q:Str)(pos:Pos)(ps:Array Value):Prop:=ps=#[]∨∃c,ps=#[rawInt pos.line,rawInt pos.col,.ref c]/\H c=some (.ext (cdF c q))
end L2
namespace L2
open PySem PySem.Spec PyProof.Rows
inductive I where
 |non|bl (b:Bool)|int (i:Int)|str (x:Str)|tup (ds:List I)
inductive D where
 |im (i:I)|mu (n:Nat)|tm (ds:List D)|ro (ns:List Int)
inductive MO where
 |lst (ds:List D)|dic (kvs:List (Key×D))
abbrev Hd:=List MO
abbrev Ls:=List (Option D)
def RoL(K:PySem.W.Frag)(H:Hp)(a:Addr)(xs:List V):Prop:=(∃o,H a=some (.frz o (.lst xs))) ∨
 ∃(o:Obj) (its:Array Value) (n:Nat),K.lookup a=some o/\o.cls=.type "list"/\o.dict=none/\o.data=.seq its n/\its.size<=sizeLine/\Vals xs its.toList
def RoL.sq{K:PySem.W.Frag}{H:Hp}{a:Addr}{xs:List V}(h:RoL K H a xs):SqL K H a xs:=by
 rcases h with⟨o,h⟩|h
 .exact .inl (.inr ⟨o,h⟩)
 .exact .inr h
def RoL.grow{K:PySem.W.Frag}{H H':Hp}{a:Addr}{xs:List V}(g:Grow H H')(h:RoL K H a xs):RoL K H' a xs:=by
 rcases h with⟨o,h⟩|h
 .exact .inl ⟨o,g.frz _ _ _ h⟩
 .exact .inr h
def Be(n:Nat):Prop:=n<=sizeLine
def D9(n:Nat):Prop:=n<sizeLine
def F9(i j:Int):Prop:=(-(2^64)<i/\i<2^64)∨(-(2^64)<j/\j<2^64)
def KQ(i j:Int):Prop:=0<=j/\j<=1000000/\i.natAbs<2^64
def GF(j:Int):Prop:=0<j/\j<1073741824
def D7(j:Int):Prop:=0<j
def Et(j:Int):Prop:=-(2^62)<=j/\j<2^62
def LK(i j:Int):Prop:=(-(2^62)<=i/\i<2^62)/\-(2^62)<=j/\j<2^62
def KN(j:Int):Prop:=j<2^24/\-(2^62)<=j
def T4(i j:Int):Prop:=(-(2^62)<=i/\i<2^62)/\(-(2^62)<=j/\j<2^62)/\(j-i).toNat<=2^24
def AL{n:Nat}(h:n<=1000000):Be n:=le_trans h (by rw[sizeLine_eq];decide)
def Bp{n:Nat}(h:n<1000000):D9 n:=lt_of_lt_of_le h (by rw[sizeLine_eq];decide)
def Eg{i j:Int}(a:-1000000000000<=i)(b:i<=1000000000000):F9 i j:=.inl ⟨by omega,by omega⟩
def Dt{j:Int}(a:-1000000000000<=j)(b:j<=1000000000000):Et j:=⟨by omega,by omega⟩
def UK{i j:Int}(a:-1000000000000<=i)(b:i<=1000000000000)(c:-1000000000000<=j)(d:j<=1000000000000):LK i j:=⟨⟨by omega,by omega⟩,by omega,by omega⟩
def Ra{j:Int}(a:-1000000000000<=j)(b:j<=1000000):KN j:=⟨by omega,by omega⟩
section
variable(K:PySem.W.Frag)
mutual
def RI(H:Hp):I->V->Prop
 |.non,v=>v=.non
 |.bl b,v=>v=.bl b
 |.int i,v=>v=.int i
 |.str x,v=>v=.str x
 |.tup ds,v=>∃a xs,v=.ref a/\SqT K H a xs/\RIs H ds xs
def RIs(H:Hp):List I->List V->Prop
 |[],xs=>xs=[]
 |d::ds,xs=>∃x r,xs=x::r/\RI H d x/\RIs H ds r
end
mutual
def RD(ρ:List Addr)(H:Hp):D->V->Prop
 |.im i,v=>RI K H i v
 |.mu n,v=>∃a,ρ[n]?=some a/\v=.ref a
 |.tm ds,v=>∃a xs,v=.ref a/\SqT K H a xs/\RDs ρ H ds xs
 |.ro ns,v=>∃a,v=.ref a/\RoL K H a (ns.map V.int)
def RDs(ρ:List Addr)(H:Hp):List D->List V->Prop
 |[],xs=>xs=[]
 |d::ds,xs=>∃x r,xs=x::r/\RD ρ H d x/\RDs ρ H ds r
end
def RKs(ρ:List Addr)(H:Hp):List (Key×D)->List (Key×V)->Prop
 |[],xs=>xs=[]
 |d::ds,xs=>∃x r,xs=x::r/\x.1=d.1/\RD K ρ H d.2 x.2/\RKs ρ H ds r
def RC(ρ:List Addr)(H:Hp):MO->HO->Prop
 |.lst ds,o=>∃xs,o=.lst xs/\RDs K ρ H ds xs
 |.dic kvs,o=>∃kv,o=.dK kv/\RKs K ρ H kvs kv
def KK:List Value->List (Addr×Str×Pos)
 |.ref P::.str q _::.int l _::.int c _::r=>(P,q,⟨l.toNat,c.toNat,0,0⟩)::KK r
 |_=>[]
def Zx(o:Obj):List (Addr×Str×Pos):=match o.cls,o.data with
 |.str _ _,.fields vs=>KK vs.toList
 |_,_=>[]
def IM(K:PySem.W.Frag):List (Addr×Str×Pos):=match K.getLast? with
 |some p=>Zx p.2
 |none=>[]
def TabsOk(K:PySem.W.Frag)(H:Hp):Prop:=∀x∈IM K,∃ps,H x.1=some (.tbl ps)/\aw H x.2.1 x.2.2 ps
structure RH(ρ:List Addr)(H:Hp)(hd:Hd):Prop where
 len:ρ.length=hd.length
 nd:ρ.Nodup
 tabs:TabsOk K H
 ob:∀(n:Nat) (o:MO) (a:Addr),hd[n]?=some o->ρ[n]?=some a->∃ho,H a=some ho/\RC K ρ H o ho
structure RL(ρ:List Addr)(H:Hp)(ls:Ls)(σ:St):Prop where
 len:ls.length=σ.length
 ob:∀(i:Nat) (d:D),ls[i]?=some (some d)->∃v,σ[i]?=some (some v)/\RD K ρ H d v
end
structure Ext(ρ:List Addr)(H:Hp)(ρ':List Addr)(H':Hp):Prop where
 pre:∃r,ρ'=ρ++r/\∀b∈r,H b=none
 keep:∀b o,H b=some o->b∉ρ->(∀ps,o≠.tbl ps)->H' b=some o
 tab:∀b ps,H b=some (.tbl ps)->∃ps',H' b=some (.tbl ps')
def nt{o:HO}(h:match o with|.tbl _=>False|_=>True:=by trivial):∀ps,o≠.tbl ps:=λps e=>by subst e;exact h
def TabsOk.upd{K:PySem.W.Frag}{H:Hp}(t:TabsOk K H){a:Addr}{ho:HO}(h1:∀ps,H a≠some (.tbl ps))(h2:∀φ,H a≠some (.ext φ)):TabsOk K (upd H a ho):=λx hx=>by
 obtain⟨ps,e,g⟩:=t x hx;have ne:x.1≠a:=λz=>h1 ps (by rw[<- z];exact e);refine⟨ps,by rw[AW ne];exact e,?_⟩;rcases g with g|⟨c,g1,g2⟩
 .exact .inl g
 .have nc:c≠a:=λz=>h2 _ (by rw[<- z];exact g2);exact .inr ⟨c,g1,by rw[AW nc];exact g2⟩
section
variable{K:PySem.W.Frag}{ρ ρ' ρ1 ρ2:List Addr}{H H' H1 H2:Hp}{hd hd' hd1:Hd}
mutual
def RI.grow(g:Grow H H'):∀{i:I} {v:V},RI K H i v->RI K H' i v
 |.non,v,h=>by simpa only[RI]using h
 |.bl b,v,h=>by simpa only[RI]using h
 |.int b,v,h=>by simpa only[RI]using h
 |.str b,v,h=>by simpa only[RI]using h
 |.tup ds,v,h=>by
  simp only[RI]at h ⊢;obtain⟨a,xs,e,q,r⟩:=h;exact⟨a,xs,e,g.sq q,RIs.grow g r⟩
def RIs.grow(g:Grow H H'):∀{i:List I} {v:List V},RIs K H i v->RIs K H' i v
 |[],v,h=>by simpa only[RIs]using h
 |d::ds,v,h=>by
  simp only[RIs]at h ⊢;obtain⟨x,r,e,q,z⟩:=h;exact⟨x,r,e,q.grow g,RIs.grow g z⟩
end
def RH.mut(h:RH K ρ H hd){a:Addr}(m:a∈ρ):(∃xs,H a=some (.lst xs))∨∃kv,H a=some (.dK kv):=by
 obtain⟨n,e⟩:=List.mem_iff_getElem?.mp m;have hn:n<hd.length:=by rw[<- h.len];exact(List.getElem?_eq_some_iff.mp e).1
 obtain⟨ho,e1,e2⟩:=h.ob n hd[n] a (by simp[hn]) e;cases q:hd[n]with
 |lst ds=>rw[q]at e2;obtain⟨xs,rfl,_⟩:=e2;exact .inl ⟨xs,e1⟩
 |dic ds=>rw[q]at e2;obtain⟨xs,rfl,_⟩:=e2;exact .inr ⟨xs,e1⟩
def RH.tup_out(h:RH K ρ H hd){a:Addr}{xs:List V}(e:H a=some (.tup xs)):a∉ρ:=λm=>by
 rcases h.mut m with⟨y,z⟩|⟨y,z⟩<;>(rw[e]at z;cases z)
def RH.frz_out(h:RH K ρ H hd){a:Addr}{o:Obj}{u:HO}(e:H a=some (.frz o u)):a∉ρ:=λm=>by
 rcases h.mut m with⟨y,z⟩|⟨y,z⟩<;>(rw[e]at z;cases z)
def Ext.grow(e:Ext ρ H ρ' H')(h:RH K ρ H hd):Grow H H':=⟨λb xs q=>e.keep b _ q (h.tup_out q) nt,λb o u q=>e.keep b _ q (h.frz_out q) nt⟩
def Ext.refl:Ext ρ H ρ H:=⟨⟨[],by simp,by simp⟩,λ_ _ h _ _=>h,λ_ ps h=>⟨ps,h⟩⟩
def Ext.trans(e:Ext ρ H ρ1 H1)(h0:RH K ρ1 H1 hd1)(e2:Ext ρ1 H1 ρ2 H2):Ext ρ H ρ2 H2:=by
 obtain⟨r1,rfl,f1⟩:=e.pre;obtain⟨r2,rfl,f2⟩:=e2.pre;refine⟨⟨r1++r2,by simp,λb m=>?_⟩,λb o q n t=>?_,λb ps q=>?_⟩
 .rcases mem_append.mp m with m|m
  .exact f1 b m
  .have z:=f2 b m;cases q:H b with
   |none=>rfl
   |some o=>
    by_cases n:b∈ρ
    .rcases h0.mut (mem_append_left r1 n)with⟨y,w⟩|⟨y,w⟩<;>(rw[z]at w;cases w)
    .by_cases t:∃ps,o=.tbl ps
     .obtain⟨ps,rfl⟩:=t;obtain⟨ps',this⟩:=e.tab b ps q;rw[z]at this;cases this
     .have:=e.keep b o q n λps y=>t ⟨ps,y⟩;rw[z]at this;cases this
 .refine e2.keep b o (e.keep b o q n t) (λm=>?_) t;rcases mem_append.mp m with m|m
  .exact n m
  .have:=f1 b m;rw[q]at this;cases this
 .obtain⟨ps',q'⟩:=e.tab b ps q;exact e2.tab b ps' q'
mutual
def RD.mono(g:Grow H H')(r:List Addr):∀{d:D} {v:V},RD K ρ H d v->RD K (ρ++r) H' d v
 |.im i,v,h=>by simp only[RD]at h ⊢;exact h.grow g
 |.mu n,v,h=>by
  simp only[RD]at h ⊢;obtain⟨a,e,q⟩:=h;exact⟨a,by rw[List.getElem?_append_left (List.getElem?_eq_some_iff.mp e).1];exact e,q⟩
 |.tm ds,v,h=>by
  simp only[RD]at h ⊢;obtain⟨a,xs,e,q,z⟩:=h;exact⟨a,xs,e,g.sq q,RDs.mono g r z⟩
 |.ro ns,v,h=>by
  simp only[RD]at h ⊢;obtain⟨a,e,q⟩:=h;exact⟨a,e,q.grow g⟩
def RDs.mono(g:Grow H H')(r:List Addr):∀{d:List D} {v:List V},RDs K ρ H d v->RDs K (ρ++r) H' d v
 |[],v,h=>by simpa only[RDs]using h
 |d::ds,v,h=>by
  simp only[RDs]at h ⊢;obtain⟨x,r',e,q,z⟩:=h;exact⟨x,r',e,q.mono g r,RDs.mono g r z⟩
end
def RKs.mono(g:Grow H H')(r:List Addr):∀{d:List (Key×D)} {v:List (Key×V)},RKs K ρ H d v->RKs K (ρ++r) H' d v
 |[],v,h=>by simpa only[RKs]using h
 |d::ds,v,h=>by
  simp only[RKs]at h ⊢;obtain⟨x,r',e,q1,q,z⟩:=h;exact⟨x,r',e,q1,q.mono g r,RKs.mono g r z⟩
def RC.mono(g:Grow H H')(r:List Addr){o:MO}{ho:HO}(h:RC K ρ H o ho):RC K (ρ++r) H' o ho:=by
 cases o with
 |lst ds=>obtain⟨xs,e,q⟩:=h;exact⟨xs,e,q.mono g r⟩
 |dic ds=>obtain⟨xs,e,q⟩:=h;exact⟨xs,e,q.mono g r⟩
def RD.ext(h:RH K ρ H hd)(e:Ext ρ H ρ' H'){d:D}{v:V}(q:RD K ρ H d v):RD K ρ' H' d v:=by
 obtain⟨r,rfl,_⟩:=e.pre;exact q.mono (e.grow h) r
def RDs.ext(h:RH K ρ H hd)(e:Ext ρ H ρ' H'){d:List D}{v:List V}(q:RDs K ρ H d v):RDs K ρ' H' d v:=by
 obtain⟨r,rfl,_⟩:=e.pre;exact q.mono (e.grow h) r
def RL.ext(h:RH K ρ H hd)(e:Ext ρ H ρ' H'){ls:Ls}{σ:St}(q:RL K ρ H ls σ):RL K ρ' H' ls σ:=
 ⟨q.len,λi d z=>let ⟨v,a,b⟩:=q.ob i d z;⟨v,a,b.ext h e⟩⟩
def RDs.len:∀{ds:List D} {xs:List V},RDs K ρ H ds xs->xs.length=ds.length
 |[],xs,h=>by simp only[RDs]at h;rw[h];rfl
 |d::ds,xs,h=>by
  simp only[RDs]at h;obtain⟨x,r,rfl,_,z⟩:=h;simp[RDs.len z]
def RDs.get:∀{ds:List D} {xs:List V} {i:Nat} {d:D},RDs K ρ H ds xs->ds[i]?=some d->∃x,xs[i]?=some x/\RD K ρ H d x
 |[],xs,i,d,h,e=>by simp at e
 |d::ds,xs,0,e,h,q=>by
  simp only[RDs]at h;obtain⟨x,r,rfl,z,_⟩:=h;simp at q;subst q;exact⟨x,rfl,z⟩
 |d::ds,xs,i+1,e,h,q=>by
  simp only[RDs]at h;obtain⟨x,r,rfl,_,z⟩:=h;obtain⟨y,a,b⟩:=RDs.get (i:=i) z (by simpa using q);exact⟨y,by simpa using a,b⟩
def RDs.nil:RDs K ρ H [] []:=by simp[RDs]
def RDs.cons{d:D}{v:V}{ds:List D}{vs:List V}(h:RD K ρ H d v)(t:RDs K ρ H ds vs):RDs K ρ H (d::ds) (v::vs):=by
 simp only[RDs];exact⟨v,vs,rfl,h,t⟩
def RDs.app:∀{ds es:List D} {xs ys:List V},RDs K ρ H ds xs->RDs K ρ H es ys->RDs K ρ H (ds++es) (xs++ys)
 |[],es,xs,ys,h,t=>by simp only[RDs]at h;subst h;simpa using t
 |d::ds,es,xs,ys,h,t=>by
  simp only[RDs]at h;obtain⟨x,r,rfl,z,q⟩:=h;simp only[cons_append];exact .cons z (q.app t)
def RDs.set:∀{ds:List D} {xs:List V} {d:D} {v:V} (i:Nat),RDs K ρ H ds xs->RD K ρ H d v->RDs K ρ H (ds.set i d) (xs.set i v)
 |[],xs,d,v,i,h,t=>by simp only[RDs]at h;subst h;simp[RDs]
 |d::ds,xs,e,v,0,h,t=>by
  simp only[RDs]at h;obtain⟨x,r,rfl,z,q⟩:=h;simpa using RDs.cons t q
 |d::ds,xs,e,v,i+1,h,t=>by
  simp only[RDs]at h;obtain⟨x,r,rfl,z,q⟩:=h;simpa using RDs.cons z (q.set i t)
def RDs.drop:∀{ds:List D} {xs:List V} (n:Nat),RDs K ρ H ds xs->RDs K ρ H (ds.drop n) (xs.drop n)
 |ds,xs,0,h=>by simpa using h
 |[],xs,n+1,h=>by simp only[RDs]at h;subst h;simp[RDs]
 |d::ds,xs,n+1,h=>by
  simp only[RDs]at h;obtain⟨x,r,rfl,z,q⟩:=h;simpa using q.drop n
def RDs.take:∀{ds:List D} {xs:List V} (n:Nat),RDs K ρ H ds xs->RDs K ρ H (ds.take n) (xs.take n)
 |ds,xs,0,h=>by simp[RDs]
 |[],xs,n+1,h=>by simp only[RDs]at h;subst h;simp[RDs]
 |d::ds,xs,n+1,h=>by
  simp only[RDs]at h;obtain⟨x,r,rfl,z,q⟩:=h;simpa using RDs.cons z (q.take n)
def RIs.ds:∀{is:List I} {xs:List V},RIs K H is xs->RDs K ρ H (is.map D.im) xs
 |[],xs,h=>by simpa only[RIs,RDs,map_nil]using h
 |i::is,xs,h=>by
  simp only[RIs]at h;obtain⟨x,r,rfl,z,q⟩:=h;exact .cons (by simpa only[RD]using z) q.ds
def RDs.is:∀{is:List I} {xs:List V},RDs K ρ H (is.map D.im) xs->RIs K H is xs
 |[],xs,h=>by simpa only[RIs,RDs,map_nil]using h
 |i::is,xs,h=>by
  simp only[map_cons,RDs]at h;obtain⟨x,r,rfl,z,q⟩:=h;simp only[RIs];exact⟨x,r,rfl,by simpa only[RD]using z,q.is⟩
def RH.new(h:RH K ρ H hd){a:Addr}(ha:H a=none){o:MO}{ho:HO}(c:RC K ρ H o ho):RH K (ρ++[a]) (upd H a ho) (hd++[o])/\Ext ρ H (ρ++[a]) (upd H a ho):=by
 have out:a∉ρ:=λm=>by rcases h.mut m with⟨y,z⟩|⟨y,z⟩<;>(rw[ha]at z;cases z)
 have ex:Ext ρ H (ρ++[a]) (upd H a ho):=⟨⟨[a],rfl,λb m=>by simp at m;subst m;exact ha⟩,λb o q n _=>by rw[AW (Am q ha)];exact q,λb ps q=>⟨ps,by rw[AW (Am q ha)];exact q⟩⟩
 refine⟨⟨by simp[h.len],?_,h.tabs.upd (by simp[ha]) (by simp[ha]),λn o' b e1 e2=>?_⟩,ex⟩
 .rw[List.nodup_append];refine⟨h.nd,by simp,λx hx y hy z=>?_⟩;simp at hy;subst hy;subst z;exact out hx
 .have gr:=ex.grow h;by_cases hn:n<ρ.length
  .rw[List.getElem?_append_left hn]at e2;rw[List.getElem?_append_left (by rw[<- h.len];exact hn)]at e1;obtain⟨ho',q1,q2⟩:=h.ob n o' b e1 e2;exact⟨ho',by rw[AW (Am q1 ha)];exact q1,q2.mono gr [a]⟩
  .have hn':n=ρ.length:=by
    have:=(List.getElem?_eq_some_iff.mp e2).1;simp at this;omega
   subst hn';simp at e2;rw[h.len]at e1;simp at e1;subst e1;subst e2;exact⟨ho,Ad,c.mono gr [a]⟩
def RH.put(h:RH K ρ H hd){n:Nat}{a:Addr}(hn:ρ[n]?=some a){o:MO}{ho:HO}(c:RC K ρ H o ho):RH K ρ (upd H a ho) (hd.set n o)/\Ext ρ H ρ (upd H a ho):=by
 have ha:=h.mut (mem_of_getElem? hn);have n1:∀ps,H a≠some (.tbl ps):=λps e=>by rcases ha with⟨y,z⟩|⟨y,z⟩<;>(rw[e]at z;cases z)
 have n2:∀φ,H a≠some (.ext φ):=λps e=>by rcases ha with⟨y,z⟩|⟨y,z⟩<;>(rw[e]at z;cases z)
 have ex:Ext ρ H ρ (upd H a ho):=⟨⟨[],by simp,by simp⟩,λb o q m _=>by
  have:b≠a:=λz=>m (by rw[z];exact mem_of_getElem? hn);rw[AW this];exact q,λb ps q=>⟨ps,(AW (show b≠a from λz=>n1 ps (by rw[<- z];exact q))).trans q⟩⟩
 have gr:=ex.grow h;refine⟨⟨by simp[h.len],h.nd,h.tabs.upd n1 n2,λm o' b e1 e2=>?_⟩,ex⟩;have hm:m<hd.length:=by rw[<- h.len];exact(List.getElem?_eq_some_iff.mp e2).1
 by_cases hmn:m=n
 .subst hmn;rw[hn]at e2;cases e2;rw[List.getElem?_set_self hm]at e1;cases e1;exact⟨ho,Ad,by simpa using c.mono gr []⟩
 .rw[List.getElem?_set_ne (λz=>hmn z.symm)]at e1;obtain⟨ho',q1,q2⟩:=h.ob m o' b e1 e2;have:b≠a:=λz=>by
   subst z;have l1:=(List.getElem?_eq_some_iff.mp e2).1;have l2:=(List.getElem?_eq_some_iff.mp hn).1;exact hmn ((List.getElem?_inj l1 h.nd).mp (e2.trans hn.symm))
  exact⟨ho',by rw[AW this];exact q1,by simpa using q2.mono gr []⟩
def RH.lst(h:RH K ρ H hd){n:Nat}{a:Addr}{ds:List D}(hn:ρ[n]?=some a)(e:hd[n]?=some (.lst ds)):∃xs,H a=some (.lst xs)/\RDs K ρ H ds xs:=by
 obtain⟨ho,q,xs,rfl,r⟩:=h.ob n _ a e hn;exact⟨xs,q,r⟩
def RH.dic(h:RH K ρ H hd){n:Nat}{a:Addr}{ds:List (Key×D)}(hn:ρ[n]?=some a)(e:hd[n]?=some (.dic ds)):∃xs,H a=some (.dK xs)/\RKs K ρ H ds xs:=by
 obtain⟨ho,q,xs,rfl,r⟩:=h.ob n _ a e hn;exact⟨xs,q,r⟩
def RH.hid(h:RH K ρ H hd){a:Addr}(ha:H a=none){ho:HO}:RH K ρ (upd H a ho) hd/\Ext ρ H ρ (upd H a ho):=by
 have out:a∉ρ:=λm=>by rcases h.mut m with⟨y,z⟩|⟨y,z⟩<;>(rw[ha]at z;cases z)
 have ex:Ext ρ H ρ (upd H a ho):=⟨⟨[],by simp,by simp⟩,λb o q n _=>by rw[AW (Am q ha)];exact q,λb ps q=>⟨ps,by rw[AW (Am q ha)];exact q⟩⟩
 have gr:=ex.grow h;refine⟨⟨h.len,h.nd,h.tabs.upd (by simp[ha]) (by simp[ha]),λm o' b e1 e2=>?_⟩,ex⟩;obtain⟨ho',q1,q2⟩:=h.ob m o' b e1 e2;exact⟨ho',by rw[AW (Am q1 ha)];exact q1,by simpa using q2.mono gr []⟩
def RH.hput(h:RH K ρ H hd){a:Addr}(out:a∉ρ){xs:List V}{ho:HO}(hl:H a=some (.lst xs)):RH K ρ (upd H a ho) hd:=by
 have gr:Grow H (upd H a ho):=Grow.refl.put (.lst hl);refine⟨h.len,h.nd,h.tabs.upd (by simp[hl]) (by simp[hl]),λm o' b e1 e2=>?_⟩;obtain⟨ho',q1,q2⟩:=h.ob m o' b e1 e2;have:b≠a:=λz=>out (by rw[<- z];exact mem_of_getElem? e2);exact⟨ho',by rw[AW this];exact q1,by simpa using q2.mono gr []⟩
end
end L2
namespace L2
open PySem PySem.Spec PyProof.Rows
abbrev ME:=Ls->Hd->Option (D×Hd)
abbrev MT:=Ls->Hd->Option (Bool×Hd)
abbrev MA:=Ls->Hd->Option (List D×Hd)
inductive Fl where
 |nx (ls:Ls)|rt (d:D)|bk (ls:Ls)|ct (ls:Ls)
abbrev MS:=Ls->Hd->Option (Fl×Hd)
section
variable(K:PySem.W.Frag)
def RE(t:TE)(m:ME):Prop:=∀(ρ:List Addr) (σ:St) (H:Hp) (hd:Hd) (ls:Ls) (Q:VK) (d:D) (hd':Hd),RH K ρ H hd->RL K ρ H ls σ->m ls hd=some (d,hd') ->
 (∀ρ' H' v,Ext ρ H ρ' H'->RH K ρ' H' hd'->RD K ρ' H' d v->Q v H')->t σ H Q
def RT(t:TT)(m:MT):Prop:=∀(ρ:List Addr) (σ:St) (H:Hp) (hd:Hd) (ls:Ls) (Q:Bool->Hp->Prop) (d:Bool) (hd':Hd),RH K ρ H hd->RL K ρ H ls σ->m ls hd=some (d,hd') ->
 (∀ρ' H',Ext ρ H ρ' H'->RH K ρ' H' hd'->Q d H')->t σ H Q
def RA(t:TA)(m:MA):Prop:=∀(ρ:List Addr) (σ:St) (H:Hp) (hd:Hd) (ls:Ls) (Q:List V->Hp->Prop) (d:List D) (hd':Hd),RH K ρ H hd->RL K ρ H ls σ->m ls hd=some (d,hd') ->
 (∀ρ' H' v,Ext ρ H ρ' H'->RH K ρ' H' hd'->RDs K ρ' H' d v->Q v H')->t σ H Q
def RN(t:TE)(m:MA):Prop:=∀(ρ:List Addr) (σ:St) (H:Hp) (hd:Hd) (ls:Ls) (Q:VK) (d:List D) (hd':Hd),RH K ρ H hd->RL K ρ H ls σ->m ls hd=some (d,hd') ->
 (∀ρ' H' a xs,Ext ρ H ρ' H'->RH K ρ' H' hd'->H a=none->a∉ρ'->H' a=some (.lst xs)->RDs K ρ' H' d xs->Q (.ref a) H')->t σ H Q
def av(E:Ends)(ρ:List Addr)(H:Hp):Fl->Prop
 |.nx ls=>∀σ,RL K ρ H ls σ->E.nx σ H
 |.bk ls=>∀σ,RL K ρ H ls σ->E.bk σ H
 |.ct ls=>∀σ,RL K ρ H ls σ->E.ct σ H
 |.rt d=>∀v,RD K ρ H d v->E.rt v H
def RS(t:TS)(m:MS):Prop:=∀(ρ:List Addr) (σ:St) (H:Hp) (hd:Hd) (ls:Ls) (E:Ends) (f:Fl) (hd':Hd),RH K ρ H hd->RL K ρ H ls σ->m ls hd=some (f,hd') ->
 (∀ρ' H',Ext ρ H ρ' H'->RH K ρ' H' hd'->av K E ρ' H' f)->t E σ H
def RB(r:R2)(f:D->D->Hd->Option (D×Hd)):Prop:=∀(ρ:List Addr) (H:Hp) (hd:Hd) (d e:D) (v u:V) (Q:VK) (z:D) (hd':Hd),RH K ρ H hd->RD K ρ H d v->RD K ρ H e u->f d e hd=some (z,hd') ->
 (∀ρ' H' w,Ext ρ H ρ' H'->RH K ρ' H' hd'->RD K ρ' H' z w->Q w H')->r v u H Q
def RF(r:List V->Hp->VK->Prop)(f:List D->Hd->Option (D×Hd)):Prop:=∀(ρ:List Addr) (H:Hp) (hd:Hd) (ds:List D) (vs:List V) (Q:VK) (z:D) (hd':Hd),RH K ρ H hd->RDs K ρ H ds vs->f ds hd=some (z,hd') ->
 (∀ρ' H' w,Ext ρ H ρ' H'->RH K ρ' H' hd'->RD K ρ' H' z w->Q w H')->r vs H Q
def RG(tp:Bool)(r:List V->Hp->VK->Prop)(g:List D->Option D):Prop:=∀(ρ:List Addr) (H:Hp) (hd:Hd) (a:Addr) (xs:List V) (ds:List D) (Q:VK) (z:D),RH K ρ H hd->(SqL K H a xs∨(tp=true/\SqT K H a xs))->RDs K ρ H ds xs->g ds=some z ->
 (∀H' w,Ext ρ H ρ H'->RH K ρ H' hd->RD K ρ H' z w->Q w H')->r [.ref a] H Q
end
structure QE(K:PySem.W.Frag)(X:Cx)(e:Expr)(t:TE)(m:ME):Prop where
 p:PE X e t
 r:RE K t m
structure QT(K:PySem.W.Frag)(X:Cx)(e:Expr)(t:TT)(m:MT):Prop where
 p:PT X e t
 r:RT K t m
structure QW(K:PySem.W.Frag)(X:Cx)(e:Expr)(t:TT)(m:MT):Prop where
 p:PW X e t
 r:RT K t m
structure QA(K:PySem.W.Frag)(X:Cx)(e:List Expr)(t:TA)(m:MA):Prop where
 p:PA X e t
 r:RA K t m
structure QN(K:PySem.W.Frag)(X:Cx)(e:Expr)(t:TE)(m:MA):Prop where
 p:PE X e t
 r:RN K t m
structure QS(K:PySem.W.Frag)(X:Cx)(e:Stmt)(t:TS)(m:MS):Prop where
 p:PS X e t
 r:RS K t m
structure QSs(K:PySem.W.Frag)(X:Cx)(e:List Stmt)(t:TS)(m:MS):Prop where
 p:PSs X e t
 r:RS K t m
def AN:D->Option (List D)
 |.im (.tup is)=>some (is.map .im)
 |.tm ds=>some ds
 |_=>none
def BL(hd:Hd):D->Option (List D)
 |.mu n=>match hd[n]? with
  |some (.lst ds)=>some ds
  |_=>none
 |.ro ns=>some (ns.map λn=>.im (.int n))
 |_=>none
def B9(hd:Hd)(d:D):Option (List D):=match AN d with
 |some ds=>some ds
 |none=>BL hd d
def B8:List D->Option (List I)
 |[]=>some []
 |.im i::r=>(B8 r).map (i::·)
 |_::_=>none
def AK(ds:List D):D:=match B8 ds with
 |some is=>.im (.tup is)
 |none=>.tm ds
def BZ:List D->Option (List Int)
 |[]=>some []
 |.im (.int i)::r=>(BZ r).map (i::·)
 |_::_=>none
def CM:List D->Option (List Bool)
 |[]=>some []
 |.im (.bl i)::r=>(CM r).map (i::·)
 |_::_=>none
section
variable{K:PySem.W.Frag}{ρ ρ':List Addr}{H H':Hp}{hd hd':Hd}
def DJ:∀{ds:List D} {is:List I},B8 ds=some is->ds=is.map .im
 |[],is,h=>by simp[B8]at h;subst h;rfl
 |.im i::r,is,h=>by
  simp only[B8,Option.map_eq_some_iff]at h;obtain⟨js,e,rfl⟩:=h;simp[DJ e]
 |.mu _::_,is,h=>by simp[B8]at h
 |.tm _::_,is,h=>by simp[B8]at h
 |.ro _::_,is,h=>by simp[B8]at h
def Lf:∀{ds:List D} {is:List Int},BZ ds=some is->ds=is.map λi=>.im (.int i)
 |[],is,h=>by simp[BZ]at h;subst h;rfl
 |.im (.int i)::r,is,h=>by
  simp only[BZ,Option.map_eq_some_iff]at h;obtain⟨js,e,rfl⟩:=h;simp[Lf e]
 |.im (.bl _)::_,is,h=>by simp[BZ]at h
 |.im (.str _)::_,is,h=>by simp[BZ]at h
 |.im .non::_,is,h=>by simp[BZ]at h
 |.im (.tup _)::_,is,h=>by simp[BZ]at h
 |.mu _::_,is,h=>by simp[BZ]at h
 |.tm _::_,is,h=>by simp[BZ]at h
 |.ro _::_,is,h=>by simp[BZ]at h
def NL:∀{ds:List D} {is:List Bool},CM ds=some is->ds=is.map λi=>.im (.bl i)
 |[],is,h=>by simp[CM]at h;subst h;rfl
 |.im (.bl i)::r,is,h=>by
  simp only[CM,Option.map_eq_some_iff]at h;obtain⟨js,e,rfl⟩:=h;simp[NL e]
 |.im (.int _)::_,is,h=>by simp[CM]at h
 |.im (.str _)::_,is,h=>by simp[CM]at h
 |.im .non::_,is,h=>by simp[CM]at h
 |.im (.tup _)::_,is,h=>by simp[CM]at h
 |.mu _::_,is,h=>by simp[CM]at h
 |.tm _::_,is,h=>by simp[CM]at h
 |.ro _::_,is,h=>by simp[CM]at h
@[simp] theorem KB(is:List I):B8 (is.map .im)=some is:=by induction is<;>simp_all [B8]
@[simp] theorem Q2(is:List Int):BZ (is.map λi=>.im (.int i))=some is:=by induction is<;>simp_all [BZ]
@[simp] theorem blsD_map(is:List Bool):CM (is.map λi=>.im (.bl i))=some is:=by induction is<;>simp_all [CM]
def Mo:∀{ns:List Int} {xs:List V},RDs K ρ H (ns.map λi=>.im (.int i)) xs->xs=ns.map V.int
 |[],xs,h=>by simpa [RDs]using h
 |n::ns,xs,h=>by
  simp only[map_cons,RDs,RD,RI]at h;obtain⟨x,r,rfl,rfl,z⟩:=h;rw[Mo z];rfl
def HM:∀{ns:List Int},RDs K ρ H (ns.map λi=>.im (.int i)) (ns.map V.int)
 |[]=>by simp[RDs]
 |n::ns=>by simp only[map_cons];exact .cons (by simp[RD,RI]) HM
def PD:∀{ns:List Bool} {xs:List V},RDs K ρ H (ns.map λi=>.im (.bl i)) xs->xs=ns.map V.bl
 |[],xs,h=>by simpa [RDs]using h
 |n::ns,xs,h=>by
  simp only[map_cons,RDs,RD,RI]at h;obtain⟨x,r,rfl,rfl,z⟩:=h;rw[PD z];rfl
def RD.tup{d:D}{v:V}{ds:List D}(h:RD K ρ H d v)(e:AN d=some ds):∃a xs,v=.ref a/\SqT K H a xs/\RDs K ρ H ds xs:=by
 cases d with
 |im i=>
  cases i with
  |tup is=>
   simp only[AN,Option.some.injEq]at e;subst e;simp only[RD,RI]at h;obtain⟨a,xs,rfl,q,r⟩:=h;exact⟨a,xs,rfl,q,r.ds⟩
  |_=>simp[AN]at e
 |tm es=>
  simp only[AN,Option.some.injEq]at e;subst e;simpa only[RD]using h
 |_=>simp[AN]at e
def RD.lst{d:D}{v:V}{ds:List D}(hR:RH K ρ H hd)(h:RD K ρ H d v)(e:BL hd d=some ds):∃a xs,v=.ref a/\SqL K H a xs/\RDs K ρ H ds xs:=by
 cases d with
 |mu n=>
  simp only[BL]at e;simp only[RD]at h;obtain⟨a,hn,rfl⟩:=h;split at e
  .next q=>
   cases e;obtain⟨xs,e1,e2⟩:=hR.lst hn q;exact⟨a,xs,rfl,SqL.of e1,e2⟩
  .cases e
 |ro ns=>
  simp only[BL,Option.some.injEq]at e;subst e;simp only[RD]at h;obtain⟨a,rfl,q⟩:=h;exact⟨a,_,rfl,q.sq,HM⟩
 |_=>simp[BL]at e
def RD.seq{d:D}{v:V}{ds:List D}(hR:RH K ρ H hd)(h:RD K ρ H d v)(e:B9 hd d=some ds):∃a xs,v=.ref a/\(SqL K H a xs∨SqT K H a xs)/\RDs K ρ H ds xs:=by
 unfold B9 at e;split at e
 .next q=>
  cases e;obtain⟨a,xs,e1,e2,e3⟩:=h.tup q;exact⟨a,xs,e1,.inr e2,e3⟩
 .obtain⟨a,xs,e1,e2,e3⟩:=h.lst hR e;exact⟨a,xs,e1,.inl e2,e3⟩
def Ba{ds:List D}{a:Addr}{xs:List V}(q:SqT K H a xs)(r:RDs K ρ H ds xs):RD K ρ H (AK ds) (.ref a):=by
 unfold AK;split
 .next e=>
  rw[DJ e]at r;simp only[RD,RI];exact⟨a,xs,rfl,q,r.is⟩
 .simp only[RD];exact⟨a,xs,rfl,q,r⟩
@[simp] theorem AF(ds:List D):AN (AK ds)=some ds:=by
 unfold AK;split
 .next e=>simp[AN,DJ e]
 .rfl
def A2(i:Nat):ME:=λls hd=>match ls[i]? with
 |some (some d)=>some (d,hd)
 |_=>none
def XJ{i:Nat}:RE K (Qu i) (A2 i):=by
 and_intros;unfold A2 at hm;split at hm
 .next e=>
  cases hm;obtain⟨v,e1,e2⟩:=hL.ob i _ e;exact⟨v,e1,hQ ρ H v .refl hR e2⟩
 .cases hm
def mC(i:I):ME:=λ_ hd=>some (.im i,hd)
def No{v:V}{i:I}(h:∀H,RI K H i v):RE K (tC v) (mC i):=by
 and_intros;cases hm;exact hQ ρ H v .refl hR (by simpa only[RD]using h H)
def mOp(f:D->D->Hd->Option (D×Hd))(ma mb:ME):ME:=λls hd=>(ma ls hd).bind λp=>(mb ls p.2).bind λq=>f p.1 q.1 q.2
def KO{r:R2}{f:D->D->Hd->Option (D×Hd)}{ta tb:TE}{ma mb:ME}(hr:RB K r f)(ha:RE K ta ma)(hb:RE K tb mb):RE K (tOp r ta tb) (mOp f ma mb):=by
 and_intros;obtain⟨⟨d1,h1⟩,e1,hm⟩:=dF hm;obtain⟨⟨d2,h2⟩,e2,hm⟩:=dF hm;refine ha ρ σ H hd ls _ d1 h1 hR hL e1 λρ1 H1 v1 x1 R1 r1=>?_;refine hb ρ1 σ H1 h1 ls _ d2 h2 R1 (hL.ext hR x1) e2 λρ2 H2 v2 x2 R2 r2=>?_;exact hr ρ2 H2 h2 d1 d2 v1 v2 Q d hd' R2 (r1.ext R1 x2) r2 hm λρ' H' w x3 R3 r3=>hQ ρ' H' w ((x1.trans R1 x2).trans R2 x3) R3 r3
def EQ(ta tb:MT):MT:=λls hd=>(ta ls hd).bind λp=>if p.1=true then tb ls p.2 else some (false,p.2)
def mOr(ta tb:MT):MT:=λls hd=>(ta ls hd).bind λp=>if p.1=true then some (true,p.2)else tb ls p.2
def Dx(ta:MT):MT:=λls hd=>(ta ls hd).bind λp=>some (!p.1,p.2)
def X0{ta tb:TT}{ma mb:MT}(ha:RT K ta ma)(hb:RT K tb mb):RT K (RP ta tb) (EQ ma mb):=by
 and_intros;obtain⟨⟨d1,h1⟩,e1,hm⟩:=dF hm;refine ha ρ σ H hd ls _ d1 h1 hR hL e1 λρ1 H1 x1 R1=>?_;cases d1 with
 |true=>
  rw[if_pos rfl]at hm ⊢;exact hb ρ1 σ H1 h1 ls Q d hd' R1 (hL.ext hR x1) hm λρ2 H2 x2 R2=>hQ ρ2 H2 (x1.trans R1 x2) R2
 |false=>
  rw[if_neg Bool.false_ne_true]at hm ⊢;cases hm;exact hQ ρ1 H1 x1 R1
def Zz{ta tb:TT}{ma mb:MT}(ha:RT K ta ma)(hb:RT K tb mb):RT K (tOr ta tb) (mOr ma mb):=by
 and_intros;obtain⟨⟨d1,h1⟩,e1,hm⟩:=dF hm;refine ha ρ σ H hd ls _ d1 h1 hR hL e1 λρ1 H1 x1 R1=>?_;cases d1 with
 |true=>
  rw[if_pos rfl]at hm ⊢;cases hm;exact hQ ρ1 H1 x1 R1
 |false=>
  rw[if_neg Bool.false_ne_true]at hm ⊢;exact hb ρ1 σ H1 h1 ls Q d hd' R1 (hL.ext hR x1) hm λρ2 H2 x2 R2=>hQ ρ2 H2 (x1.trans R1 x2) R2
def Wz{ta:TT}{ma:MT}(ha:RT K ta ma):RT K (Qz ta) (Dx ma):=by
 and_intros;obtain⟨⟨d1,h1⟩,e1,hm⟩:=dF hm;cases hm;exact ha ρ σ H hd ls _ d1 h1 hR hL e1 λρ1 H1 x1 R1=>hQ ρ1 H1 x1 R1
open Classical in
def DY(hd:Hd):D->Option Bool
 |.im .non=>some false
 |.im (.bl b)=>some b
 |.im (.int i)=>some (i != 0)
 |.im (.str x)=>if Be x.length then some ((x.length:Int) != 0)else none
 |.im (.tup is)=>some (!is.isEmpty)
 |.tm is=>some (!is.isEmpty)
 |.ro ns=>some (!ns.isEmpty)
 |.mu n=>match hd[n]? with
  |some (.lst ds)=>some (!ds.isEmpty)
  |some (.dic ds)=>some (!ds.isEmpty)
  |none=>none
def Cv{α β:Type}{xs:List α}{ys:List β}(h:xs.length=ys.length):xs.isEmpty=ys.isEmpty:=by
 cases xs<;>cases ys<;>simp_all
def RKs.len:∀{ds:List (Key×D)} {xs:List (Key×V)},RKs K ρ H ds xs->xs.length=ds.length
 |[],xs,h=>by simp only[RKs]at h;rw[h];rfl
 |d::ds,xs,h=>by
  simp only[RKs]at h;obtain⟨x,r,rfl,_,_,z⟩:=h;simp[RKs.len z]
def Tu{d:D}{v:V}{b:Bool}(hR:RH K ρ H hd)(h:RD K ρ H d v)(e:DY hd d=some b):MC K v H b:=by
 cases d with
 |im i=>
  cases i with
  |non=>simp only[RD,RI]at h;subst h;simp only[DY,Option.some.injEq]at e;subst e;exact rfl
  |bl c=>simp only[RD,RI]at h;subst h;simp only[DY,Option.some.injEq]at e;subst e;exact rfl
  |int c=>simp only[RD,RI]at h;subst h;simp only[DY,Option.some.injEq]at e;subst e;exact rfl
  |str c=>
   simp only[RD,RI]at h;subst h;simp only[DY]at e;split at e
   .next z=>cases e;exact⟨z,rfl⟩
   .cases e
  |tup is=>
   obtain⟨a,xs,rfl,q,r⟩:=h.tup (ds:=is.map .im) rfl;simp only[DY,Option.some.injEq]at e;subst e;exact .inr (.inl ⟨xs,q,by rw[Cv (show xs.length=is.length by simpa using r.len)]⟩)
 |tm ds=>
  obtain⟨a,xs,rfl,q,r⟩:=h.tup (ds:=ds) rfl;simp only[DY,Option.some.injEq]at e;subst e;exact .inr (.inl ⟨xs,q,by rw[Cv r.len]⟩)
 |ro ns=>
  obtain⟨a,xs,rfl,q,r⟩:=h.lst hR (hd:=hd) (ds:=ns.map λn=>.im (.int n)) rfl;simp only[DY,Option.some.injEq]at e;subst e;exact .inl ⟨xs,q,by rw[Cv (show xs.length=ns.length by simpa using r.len)]⟩
 |mu n=>
  simp only[RD]at h;obtain⟨a,hn,rfl⟩:=h;simp only[DY]at e;split at e
  .next q=>
   cases e;obtain⟨xs,e1,e2⟩:=hR.lst hn q;exact .inl ⟨xs,SqL.of e1,by rw[Cv e2.len]⟩
  .next q=>
   cases e;obtain⟨xs,e1,e2⟩:=hR.dic hn q;exact .inr (.inr ⟨xs,e1,by rw[Cv e2.len]⟩)
  .cases e
def Bg(ma:ME):MT:=λls hd=>(ma ls hd).bind λp=>(DY p.2 p.1).map (·,p.2)
def RY{ta:TE}{ma:ME}(ha:RE K ta ma):RT K (λσ H Q=>ta σ H λx H'=>∃k,MC K x H' k/\Q k H') (Bg ma):=by
 and_intros;obtain⟨⟨d1,h1⟩,e1,hm⟩:=dF hm;obtain⟨b,e2,e3⟩:=dG hm;cases e3;exact ha ρ σ H hd ls _ d1 h1 hR hL e1 λρ1 H1 v x1 R1 r1=>⟨_,Tu R1 r1 e2,hQ ρ1 H1 x1 R1⟩
def AR(ma:ME):MT:=λls hd=>(ma ls hd).bind λp=>match p.1 with
 |.im (.bl b)=>some (b,p.2)
 |_=>none
def Ee{ta:TE}{ma:ME}(ha:RE K ta ma):RT K (HB ta) (AR ma):=by
 and_intros;obtain⟨⟨d1,h1⟩,e1,hm⟩:=dF hm;dsimp only at hm;split at hm
 .cases hm;exact ha ρ σ H hd ls _ _ _ hR hL e1 λρ1 H1 v x1 R1 r1=>⟨_,by simpa only[RD,RI]using r1,hQ ρ1 H1 x1 R1⟩
 .cases hm
def mIf(c:MT)(ma mb:ME):ME:=λls hd=>(c ls hd).bind λp=>if p.1=true then ma ls p.2 else mb ls p.2
def aA{tc:TT}{c:MT}{ta tb:TE}{ma mb:ME}(hc:RT K tc c)(ha:RE K ta ma)(hb:RE K tb mb):RE K (tIf tc ta tb) (mIf c ma mb):=by
 and_intros;obtain⟨⟨d1,h1⟩,e1,hm⟩:=dF hm;refine hc ρ σ H hd ls _ d1 h1 hR hL e1 λρ1 H1 x1 R1=>?_;cases d1 with
 |true=>
  rw[if_pos rfl]at hm ⊢;exact ha ρ1 σ H1 h1 ls Q d hd' R1 (hL.ext hR x1) hm λρ2 H2 v x2 R2 r2=>hQ ρ2 H2 v (x1.trans R1 x2) R2 r2
 |false=>
  rw[if_neg Bool.false_ne_true]at hm ⊢;exact hb ρ1 σ H1 h1 ls Q d hd' R1 (hL.ext hR x1) hm λρ2 H2 v x2 R2 r2=>hQ ρ2 H2 v (x1.trans R1 x2) R2 r2
def Cb(ma mb:ME):ME:=λls hd=>(AR ma ls hd).bind λp=>if p.1=true then mb ls p.2 else some (.im (.bl false),p.2)
def bK(ma mb:ME):ME:=λls hd=>(AR ma ls hd).bind λp=>if p.1=true then some (.im (.bl true),p.2)else mb ls p.2
def EU(ma:ME):ME:=λls hd=>(AR ma ls hd).bind λp=>some (.im (.bl (!p.1)),p.2)
def UZ{ta tb:TE}{ma mb:ME}(ha:RE K ta ma)(hb:RE K tb mb):RE K (Nd ta tb) (Cb ma mb):=by
 and_intros;obtain⟨⟨d1,h1⟩,e1,hm⟩:=dF hm;refine Ee ha ρ σ H hd ls (λc H1=>if c=true then tb σ H1 Q else Q (.bl false) H1) d1 h1 hR hL e1 λρ1 H1 x1 R1=>?_;cases d1 with
 |true=>
  rw[if_pos rfl]at hm ⊢;exact hb ρ1 σ H1 h1 ls Q d hd' R1 (hL.ext hR x1) hm λρ2 H2 v x2 R2 r2=>hQ ρ2 H2 v (x1.trans R1 x2) R2 r2
 |false=>
  rw[if_neg Bool.false_ne_true]at hm ⊢;cases hm;exact hQ ρ1 H1 _ x1 R1 (by simp[RD,RI])
def UU{ta:TE}{ma:ME}(ha:RE K ta ma):RE K (NY ta) (EU ma):=by
 and_intros;obtain⟨⟨d1,h1⟩,e1,hm⟩:=dF hm;cases hm;exact Ee ha ρ σ H hd ls (λc H1=>Q (.bl (!c)) H1) d1 h1 hR hL e1 λρ1 H1 x1 R1=>hQ ρ1 H1 _ x1 R1 (by simp[RD,RI])
def A5:MA:=λ_ hd=>some ([],hd)
def A1(ma:ME)(mr:MA):MA:=λls hd=>(ma ls hd).bind λp=>(mr ls p.2).bind λq=>some (p.1::q.1,q.2)
def Xd:RA K Cp A5:=by
 and_intros;cases hm;exact hQ ρ H [] .refl hR .nil
def Ue{ta:TE}{tr:TA}{ma:ME}{mr:MA}(ha:RE K ta ma)(hr:RA K tr mr):RA K (Bs ta tr) (A1 ma mr):=by
 and_intros;obtain⟨⟨d1,h1⟩,e1,hm⟩:=dF hm;obtain⟨⟨d2,h2⟩,e2,hm⟩:=dF hm;cases hm;refine ha ρ σ H hd ls _ d1 h1 hR hL e1 λρ1 H1 v1 x1 R1 r1=>?_;exact hr ρ1 σ H1 h1 ls _ d2 _ R1 (hL.ext hR x1) e2 λρ2 H2 v2 x2 R2 r2=>hQ ρ2 H2 _ (x1.trans R1 x2) R2 (.cons (r1.ext R1 x2) r2)
open Classical in
def AI(ma:MA):ME:=λls hd=>(ma ls hd).bind λp=>if Be p.1.length then some (AK p.1,p.2)else none
def XN{t:TA}{m:MA}(h:RA K t m):RE K (Qv t) (AI m):=by
 and_intros;obtain⟨⟨d1,h1⟩,e1,hm⟩:=dF hm;dsimp only at hm;split at hm
 .next z=>
  cases hm;refine h ρ σ H hd ls _ d1 _ hR hL e1 λρ1 H1 v1 x1 R1 r1=>⟨by rw[r1.len];exact z,λp hp=>?_⟩
  obtain⟨R2,x2⟩:=R1.hid (ho:=.tup v1) hp;exact hQ ρ1 _ _ (x1.trans R1 x2) R2 (Ba (SqT.of Ad) (r1.ext R1 x2))
 .cases hm
open Classical in
def AV(ma:MA):MA:=λls hd=>(ma ls hd).bind λp=>if Be p.1.length then some (p.1,p.2)else none
def RH.out(hR:RH K ρ H hd){a:Addr}(h:H a=none):a∉ρ:=λm=>by rcases hR.mut m with⟨y,z⟩|⟨y,z⟩<;>(rw[h]at z;cases z)
def Ext.none(e:Ext ρ H ρ' H')(hR:RH K ρ H hd){a:Addr}(h:H' a=none)(hR':RH K ρ' H' hd'):H a=none:=by
 cases q:H a with
 |none=>rfl
 |some o=>
  by_cases m:a∈ρ
  .obtain⟨r,rfl,_⟩:=e.pre;exact absurd (mem_append_left r m) (hR'.out h)
  .by_cases t:∃ps,o=.tbl ps
   .obtain⟨ps,rfl⟩:=t;obtain⟨ps',this⟩:=e.tab a ps q;rw[h]at this;cases this
   .rw[e.keep a o q m λps y=>t ⟨ps,y⟩]at h;cases h
def XA{t:TA}{m:MA}(h:RA K t m):RN K (R8 t) (AV m):=by
 and_intros;obtain⟨⟨d1,h1⟩,e1,hm⟩:=dF hm;dsimp only at hm;split at hm
 .next z=>
  cases hm;refine h ρ σ H hd ls _ _ _ hR hL e1 λρ1 H1 v1 x1 R1 r1=>⟨by rw[r1.len];exact z,λp hp=>?_⟩
  obtain⟨R2,x2⟩:=R1.hid (ho:=.lst v1) hp;exact hQ ρ1 _ p v1 (x1.trans R1 x2) R2 (x1.none hR hp R1) (R1.out hp) Ad (r1.ext R1 x2)
 .cases hm
def AO(ml:MA):ME:=λls hd=>(ml ls hd).bind λp=>some (.mu p.2.length,p.2++[.lst p.1])
def RH.name(hR:RH K ρ H hd){a:Addr}{xs:List V}{ds:List D}(out:a∉ρ)(e:H a=some (.lst xs))(r:RDs K ρ H ds xs):RH K (ρ++[a]) H (hd++[.lst ds]):=by
 have mono:∀{o:MO} {ho:HO},RC K ρ H o ho->RC K (ρ++[a]) H o ho:=λc=>c.mono Grow.refl [a];refine⟨by simp[hR.len],?_,hR.tabs,λn o' b e1 e2=>?_⟩
 .rw[List.nodup_append];refine⟨hR.nd,by simp,λx hx y hy z=>?_⟩;simp at hy;subst hy;subst z;exact out hx
 .by_cases hn:n<ρ.length
  .rw[List.getElem?_append_left hn]at e2;rw[List.getElem?_append_left (by rw[<- hR.len];exact hn)]at e1;obtain⟨ho',q1,q2⟩:=hR.ob n o' b e1 e2;exact⟨ho',q1,mono q2⟩
  .have hn':n=ρ.length:=by
    have:=(List.getElem?_eq_some_iff.mp e2).1;simp at this;omega
   subst hn';simp at e2;rw[hR.len]at e1;simp at e1;subst e1;subst e2;exact⟨_,e,mono ⟨xs,rfl,r⟩⟩
def Ext.name(e:Ext ρ H ρ' H'){a:Addr}(h:H a=Option.none):Ext ρ H (ρ'++[a]) H':=by
 obtain⟨r,rfl,f⟩:=e.pre;refine⟨⟨r++[a],by simp,λb m=>?_⟩,e.keep,e.tab⟩;rcases mem_append.mp m with m|m
 .exact f b m
 .simp at m;subst m;exact h
def P9{t:TE}{m:MA}(h:RN K t m):RE K t (AO m):=by
 and_intros;obtain⟨⟨d1,h1⟩,e1,hm⟩:=dF hm;cases hm;refine h ρ σ H hd ls Q d1 h1 hR hL e1 λρ1 H1 a xs x1 R1 na oa ea r1=>?_;refine hQ (ρ1++[a]) H1 _ (x1.name na) (R1.name oa ea r1) ?_;simp only[RD];exact⟨a,by rw[<- R1.len];simp,rfl⟩
end
section
variable{K:PySem.W.Frag}{ρ ρ':List Addr}{H H':Hp}{hd hd':Hd}
def fI(g:Int->Int->Option I):D->D->Hd->Option (D×Hd)
 |.im (.int i),.im (.int j),hd=>(g i j).map (.im ·,hd)
 |_,_,_=>none
def Nr{C:Int->Int->Prop}{g:Int->Int->V}{f:Int->Int->Option I}(h:∀i j z,f i j=some z->C i j/\∀H,RI K H z (g i j)):RB K (rI C g) (fI f):=by
 intro ρ H hd d e v u Q z hd' hR h1 h2 hf hQ;unfold fI at hf;split at hf
 .simp only[RD,RI]at h1 h2;subst h1 h2;obtain⟨w,e1,e2⟩:=dG hf;cases e2;obtain⟨c,r⟩:=h _ _ _ e1;exact⟨_,_,rfl,rfl,c,hQ ρ H _ .refl hR (by simpa only[RD]using r H)⟩
 .cases hf
def HD{g:Int->Int->V}{f:Int->Int->I}(h:∀i j H,RI K H (f i j) (g i j)):RB K (rI0 g) (fI λi j=>some (f i j)):=by
 intro ρ H hd d e v u Q z hd' hR h1 h2 hf hQ;unfold fI at hf;split at hf
 .simp only[RD,RI]at h1 h2;subst h1 h2;cases hf;exact⟨_,_,rfl,rfl,hQ ρ H _ .refl hR (by simpa only[RD]using h _ _ H)⟩
 .cases hf
def CK(f g:D->D->Hd->Option (D×Hd)):D->D->Hd->Option (D×Hd):=λd e hd=>match f d e hd with
 |some z=>some z
 |none=>g d e hd
def Ef{r r':R2}{f g:D->D->Hd->Option (D×Hd)}(h:RB K r f)(h':RB K r' g):RB K (λx y H Q=>r x y H Q∨r' x y H Q) (CK f g):=by
 intro ρ H hd d e v u Q z hd' hR h1 h2 hf hQ;unfold CK at hf;split at hf
 .next q=>cases hf;exact .inl (h ρ H hd d e v u Q z hd' hR h1 h2 q hQ)
 .exact .inr (h' ρ H hd d e v u Q z hd' hR h1 h2 hf hQ)
abbrev JX:D->D->Hd->Option (D×Hd):=fI λi j=>some (.int (i+j))
abbrev B3:D->D->Hd->Option (D×Hd):=fI λi j=>some (.int (i-j))
def PK:RB K (rI0 λi j=>.int (i+j)) JX:=HD λ_ _ _=>by simp[RI]
def XW:RB K (rI0 λi j=>.int (i-j)) B3:=HD λ_ _ _=>by simp[RI]
open Classical in
abbrev Dl:D->D->Hd->Option (D×Hd):=fI λi j=>if F9 i j then some (.int (i*j))else none
def Xb:RB K (rI CMul λi j=>.int (i*j)) Dl:=Nr λi j z h=>by
 split at h
 .next q=>cases h;exact⟨q,λ_=>by simp[RI]⟩
 .cases h
open Classical in
abbrev CZ:D->D->Hd->Option (D×Hd):=fI λi j=>if D7 j then some (.int (i%j))else none
def Xc:RB K (rI (λ_ j=>0<j) λi j=>.int (i%j)) CZ:=Nr λi j z h=>by
 split at h
 .next q=>cases h;exact⟨q,λ_=>by simp[RI]⟩
 .cases h
open Classical in
abbrev Dm:D->D->Hd->Option (D×Hd):=fI λi j=>if GF j then some (.int (i/j))else none
def Ub:RB K (rI Zq λi j=>.int (i/j)) Dm:=Nr λi j z h=>by
 split at h
 .next q=>cases h;exact⟨q,λ_=>by simp[RI]⟩
 .cases h
open Classical in
abbrev Gg:D->D->Hd->Option (D×Hd):=fI λi j=>if KQ i j then some (.int (i^j.toNat))else none
def XX:RB K (rI Zp λi j=>.int (i^j.toNat)) Gg:=Nr λi j z h=>by
 split at h
 .next q=>cases h;exact⟨q,λ_=>by simp[RI]⟩
 .cases h
abbrev gLt:D->D->Hd->Option (D×Hd):=fI λi j=>some (.bl (decide (i<j)))
abbrev gLe:D->D->Hd->Option (D×Hd):=fI λi j=>some (.bl (decide (i<=j)))
abbrev gGt:D->D->Hd->Option (D×Hd):=fI λi j=>some (.bl (decide (j<i)))
abbrev gGe:D->D->Hd->Option (D×Hd):=fI λi j=>some (.bl (decide (j<=i)))
def Np:RB K (rI0 λi j=>.bl (decide (i<j))) gLt:=HD λ_ _ _=>by simp[RI]
def Nq:RB K (rI0 λi j=>.bl (decide (i<=j))) gLe:=HD λ_ _ _=>by simp[RI]
def T7:RB K (rI0 λi j=>.bl (decide (j<i))) gGt:=HD λ_ _ _=>by simp[RI]
def T8:RB K (rI0 λi j=>.bl (decide (j<=i))) gGe:=HD λ_ _ _=>by simp[RI]
def scI:I->Option V
 |.non=>some .non
 |.bl b=>some (.bl b)
 |.int i=>some (.int i)
 |.str x=>some (.str x)
 |.tup _=>none
def IT{i:I}{v w:V}(e:scI i=some w)(h:RI K H i v):v=w:=by
 cases i with
 |tup _=>simp[scI]at e
 |_=>simp only[scI,Option.some.injEq]at e;subst e;simpa only[RI]using h
def FH(neg:Bool):D->D->Hd->Option (D×Hd)
 |.im i,.im j,hd=>match scI i,scI j with
  |some x,some y=>if LD x y=true then some (.im (.bl (if neg then !decide (x=y)else decide (x=y))),hd)else none
  |_,_=>none
 |_,_,_=>none
def PH:RB K rEq (FH false):=by
 intro ρ H hd d e v u Q z hd' hR h1 h2 hf hQ;unfold FH at hf;split at hf
 .split at hf
  .next x y e1 e2=>
   split at hf
   .next s=>
    cases hf;simp only[RD]at h1 h2;rw[IT e1 h1,IT e2 h2];exact⟨s,hQ ρ H _ .refl hR (by simp[RD,RI])⟩
   .cases hf
  .cases hf
 .cases hf
def XY:RB K rNe (FH true):=by
 intro ρ H hd d e v u Q z hd' hR h1 h2 hf hQ;unfold FH at hf;split at hf
 .split at hf
  .next x y e1 e2=>
   split at hf
   .next s=>
    cases hf;simp only[RD]at h1 h2;rw[IT e1 h1,IT e2 h2];exact⟨s,hQ ρ H _ .refl hR (by simp[RD,RI])⟩
   .cases hf
  .cases hf
 .cases hf
mutual
def I.py:I->PyData
 |.non=>.none
 |.bl b=>.bool b
 |.int i=>.int i
 |.str x=>.str x
 |.tup ds=>.tuple (I.pys ds)
def I.pys:List I->List PyData
 |[]=>[]
 |d::ds=>I.py d::I.pys ds
end
mutual
def RI.rep:∀{i:I} {v:V},RI K H i v->Rep K H i.py v
 |.non,v,h=>by simpa only[RI,I.py,Rep]using h
 |.bl _,v,h=>by simpa only[RI,I.py,Rep]using h
 |.int _,v,h=>by simpa only[RI,I.py,Rep]using h
 |.str _,v,h=>by simpa only[RI,I.py,Rep]using h
 |.tup ds,v,h=>by
  simp only[RI]at h;obtain⟨a,xs,e,q,r⟩:=h;simp only[I.py,Rep];exact⟨a,xs,e,q,RIs.rep r⟩
def RIs.rep:∀{i:List I} {v:List V},RIs K H i v->Bq K H (I.pys i) v
 |[],v,h=>by simpa only[RIs,I.pys,Bq]using h
 |d::ds,v,h=>by
  simp only[RIs]at h;obtain⟨x,r,e,q,z⟩:=h;simp only[I.pys,Bq];exact⟨x,r,e,q.rep,RIs.rep z⟩
end
def pyD(hd:Hd):D->Option PyData
 |.im i=>some i.py
 |.mu n=>match hd[n]? with
  |some (.lst ds)=>(B8 ds).map λis=>.list (I.pys is)
  |_=>none
 |.ro ns=>some (.list (I.pys (ns.map I.int)))
 |_=>none
def Du{d:D}{v:V}{p:PyData}(hR:RH K ρ H hd)(h:RD K ρ H d v)(e:pyD hd d=some p):Rep K H p v:=by
 cases d with
 |im i=>simp only[pyD,Option.some.injEq]at e;subst e;simp only[RD]at h;exact h.rep
 |mu n=>
  simp only[pyD]at e;simp only[RD]at h;obtain⟨a,hn,rfl⟩:=h;split at e
  .next q=>
   obtain⟨is,e1,rfl⟩:=dG e;obtain⟨xs,e2,e3⟩:=hR.lst hn q;rw[DJ e1]at e3;simp only[Rep];exact⟨a,xs,rfl,SqL.of e2,e3.is.rep⟩
  .cases e
 |ro ns=>
  simp only[pyD,Option.some.injEq]at e;subst e;obtain⟨a,xs,rfl,q,r⟩:=h.lst hR (hd:=hd) (ds:=ns.map λn=>.im (.int n)) rfl;simp only[Rep];refine⟨a,xs,rfl,q,RIs.rep (RDs.is (ρ:=ρ) ?_)⟩;rw[map_map];exact r
 |tm _=>simp[pyD]at e
def JV(neg:Bool):D->D->Hd->Option (D×Hd):=λd e hd=>match pyD hd d,pyD hd e with
 |some x,some y=>if x.canLay0=true/\y.canLay0=true/\min x.depth y.depth<=60 then some (.im (.bl (if neg then !PyData.eqv x y else PyData.eqv x y)),hd)else none
 |_,_=>none
def PJ:RB K (Rr K) (JV false):=by
 intro ρ H hd d e v u Q z hd' hR h1 h2 hf hQ;unfold JV at hf;split at hf
 .next e1 e2=>
  split at hf
  .next c=>cases hf;exact⟨_,_,Du hR h1 e1,Du hR h2 e2,c.1,c.2.1,c.2.2,hQ ρ H _ .refl hR (by simp[RD,RI])⟩
  .cases hf
 .cases hf
def XZ:RB K (Ny K) (JV true):=by
 intro ρ H hd d e v u Q z hd' hR h1 h2 hf hQ;unfold JV at hf;split at hf
 .next e1 e2=>
  split at hf
  .next c=>cases hf;exact⟨_,_,Du hR h1 e1,Du hR h2 e2,c.1,c.2.1,c.2.2,hQ ρ H _ .refl hR (by simp[RD,RI])⟩
  .cases hf
 .cases hf
abbrev gEq:=CK (FH false) (JV false)
abbrev gNe:=CK (FH true) (JV true)
def gIx:D->D->Hd->Option (D×Hd)
 |d,.im (.int i),hd=>(B9 hd d).bind λds=>(atI ds i).map (·,hd)
 |_,_,_=>none
def NM{α β:Type}{xs:List α}{ys:List β}{i:Int}{y:β}(h:xs.length=ys.length)(e:atI ys i=some y):∃(j:Nat),ys[j]?=some y/\∀x,xs[j]?=some x->atI xs i=some x:=by
 unfold atI at e;obtain⟨j,e1,e2⟩:=dF e;exact⟨j,e2,λx q=>by unfold atI;rw[h,e1];exact q⟩
def KP(K:PySem.W.Frag):R2:=λx y H Q=>JI K x y H Q∨Rq K x y H Q
def aB:RB K (KP K) gIx:=by
 intro ρ H hd d e v u Q z hd' hR h1 h2 hf hQ;unfold gIx at hf;split at hf
 .obtain⟨ds,e1,hf⟩:=dF hf;obtain⟨w,e2,e3⟩:=dG hf;cases e3;obtain⟨a,xs,rfl,q,r⟩:=h1.seq hR e1;simp only[RD,RI]at h2;subst h2;obtain⟨j,j1,j2⟩:=NM r.len e2;obtain⟨x,x1,x2⟩:=r.get j1;rcases q with q|q
  .exact .inl ⟨a,xs,_,x,rfl,rfl,q,j2 x x1,hQ ρ H x .refl hR x2⟩
  .exact .inr ⟨a,xs,_,x,rfl,rfl,q,j2 x x1,hQ ρ H x .refl hR x2⟩
 .cases hf
def Bj(xs:List D)(lo hi:Option Int):List D:=(xs.drop (HT.sIx xs.length 0 lo)).take (HT.sIx xs.length xs.length hi-HT.sIx xs.length 0 lo)
def Jc{ds:List D}{xs:List V}{lo hi:Option Int}(r:RDs K ρ H ds xs):RDs K ρ H (Bj ds lo hi) (F2 xs lo hi):=by
 unfold Bj F2;rw[r.len];exact(r.drop _).take _
abbrev MO1:=Ls->Hd->Option (Option Int×Hd)
def RO1(K:PySem.W.Frag)(t:TO)(m:MO1):Prop:=∀(ρ:List Addr) (σ:St) (H:Hp) (hd:Hd) (ls:Ls) (Q:Option Int->Hp->Prop) (d:Option Int) (hd':Hd),RH K ρ H hd->RL K ρ H ls σ->m ls hd=some (d,hd') ->
 (∀ρ' H',Ext ρ H ρ' H'->RH K ρ' H' hd'->Q d H')->t σ H Q
def AJ:MO1:=λ_ hd=>some (none,hd)
def AQ(m:ME):MO1:=λls hd=>(m ls hd).bind λp=>match p.1 with
 |.im (.int i)=>some (some i,p.2)
 |_=>none
def UJ:RO1 K JE AJ:=by
 and_intros;cases hm;exact hQ ρ H .refl hR
def UI{t:TE}{m:ME}(h:RE K t m):RO1 K (NW t) (AQ m):=by
 and_intros;obtain⟨⟨d1,h1⟩,e1,hm⟩:=dF hm;dsimp only at hm;split at hm
 .cases hm;exact h ρ σ H hd ls _ _ _ hR hL e1 λρ1 H1 v x1 R1 r1=>⟨_,by simpa only[RD,RI]using r1,hQ ρ1 H1 x1 R1⟩
 .cases hm
def Bh(m:ME)(ml mh:MO1):ME:=λls hd=>(m ls hd).bind λp=>(ml ls p.2).bind λl=>(mh ls l.2).bind λh=>(AN p.1).bind λds=>
 if ¬ (HT.sIx ds.length 0 l.1=0/\HT.sIx ds.length ds.length h.1=ds.length)then some (AK (Bj ds l.1 h.1),h.2)else none
def XO{t:TE}{tl th:TO}{m:ME}{ml mh:MO1}(h:RE K t m)(hl:RO1 K tl ml)(hh:RO1 K th mh):RE K (tSl (LQ K) t tl th) (Bh m ml mh):=by
 and_intros;obtain⟨⟨d1,h1⟩,e1,hm⟩:=dF hm;obtain⟨⟨d2,h2⟩,e2,hm⟩:=dF hm;obtain⟨⟨d3,h3⟩,e3,hm⟩:=dF hm;obtain⟨ds,e4,hm⟩:=dF hm;dsimp only at e2 e3 e4 hm;split at hm
 .next c=>
  cases hm;refine h ρ σ H hd ls _ d1 h1 hR hL e1 λρ1 H1 v1 x1 R1 r1=>?_;refine hl ρ1 σ H1 h1 ls _ d2 h2 R1 (hL.ext hR x1) e2 λρ2 H2 x2 R2=>?_;refine hh ρ2 σ H2 h2 ls _ d3 _ R2 (hL.ext hR (x1.trans R1 x2)) e3 λρ3 H3 x3 R3=>?_;obtain⟨a,xs,rfl,q,r⟩:=((r1.ext R1 x2).ext R2 x3).tup e4;refine⟨a,xs,rfl,q,by rw[r.len];exact c,λp hp=>?_⟩;obtain⟨R4,x4⟩:=R3.hid (ho:=.tup (F2 xs d2 d3)) hp;exact hQ ρ3 _ _ (((x1.trans R1 x2).trans R2 x3).trans R3 x4) R4 (Ba (SqT.of Ad) ((Jc r).ext R3 x4))
 .cases hm
def Gc(m:ME)(ml mh:MO1):MA:=λls hd=>(m ls hd).bind λp=>(ml ls p.2).bind λl=>(mh ls l.2).bind λh=>(BL h.2 p.1).bind λds=>some (Bj ds l.1 h.1,h.2)
def X9{t:TE}{tl th:TO}{m:ME}{ml mh:MO1}(h:RE K t m)(hl:RO1 K tl ml)(hh:RO1 K th mh):RN K (tSl (Nw K) t tl th) (Gc m ml mh):=by
 and_intros;obtain⟨⟨d1,h1⟩,e1,hm⟩:=dF hm;obtain⟨⟨d2,h2⟩,e2,hm⟩:=dF hm;obtain⟨⟨d3,h3⟩,e3,hm⟩:=dF hm;obtain⟨ds,e4,hm⟩:=dF hm;dsimp only at e2 e3 e4 hm;cases hm;refine h ρ σ H hd ls _ d1 h1 hR hL e1 λρ1 H1 v1 x1 R1 r1=>?_;refine hl ρ1 σ H1 h1 ls _ d2 h2 R1 (hL.ext hR x1) e2 λρ2 H2 x2 R2=>?_;refine hh ρ2 σ H2 h2 ls _ d3 _ R2 (hL.ext hR (x1.trans R1 x2)) e3 λρ3 H3 x3 R3=>?_;obtain⟨a,xs,rfl,q,r⟩:=RD.lst R3 ((r1.ext R1 x2).ext R2 x3) e4;refine⟨a,xs,rfl,q,λp hp=>?_⟩;obtain⟨R4,x4⟩:=R3.hid (ho:=.lst (F2 xs d2 d3)) hp;have x123:=(x1.trans R1 x2).trans R2 x3;exact hQ ρ3 _ p _ (x123.trans R3 x4) R4 (x123.none hR hp R3) (R3.out hp) Ad ((Jc r).ext R3 x4)
def mCB(f:List D->Hd->Option (D×Hd))(ma:MA):ME:=λls hd=>(ma ls hd).bind λp=>f p.1 p.2
def T5{r:List V->Hp->VK->Prop}{f:List D->Hd->Option (D×Hd)}{t:TA}{m:MA}(hr:RF K r f)(h:RA K t m):RE K (tCB r t) (mCB f m):=by
 and_intros;obtain⟨⟨d1,h1⟩,e1,hm⟩:=dF hm;refine h ρ σ H hd ls _ d1 h1 hR hL e1 λρ1 H1 v1 x1 R1 r1=>?_;exact hr ρ1 H1 h1 d1 v1 Q d hd' R1 r1 hm λρ' H' w x2 R2 r2=>hQ ρ' H' w (x1.trans R1 x2) R2 r2
def f1(tp:Bool)(g:List D->Option D):List D->Hd->Option (D×Hd)
 |[d],hd=>((if tp then B9 hd d else BL hd d)).bind λds=>(g ds).map (·,hd)
 |_,_=>none
def Nn{tp:Bool}{r:List V->Hp->VK->Prop}{g:List D->Option D}(h:RG K tp r g):RF K r (f1 tp g):=by
 intro ρ H hd ds vs Q z hd' hR h1 hf hQ;unfold f1 at hf;split at hf
 .next d hd'=>
  obtain⟨es,e1,hf⟩:=dF hf;obtain⟨w,e2,e3⟩:=dG hf;cases e3;simp only[RDs]at h1;obtain⟨x,r,rfl,rx,rfl⟩:=h1;cases tp with
  |true=>
   rw[if_pos rfl]at e1;obtain⟨a,xs,rfl,q,rr⟩:=rx.seq hR e1;exact h ρ H hd a xs es Q z hR (q.imp id λq=>⟨rfl,q⟩) rr e2 λH' w x R r=>hQ ρ H' w x R r
  |false=>
   rw[if_neg Bool.false_ne_true]at e1;obtain⟨a,xs,rfl,q,rr⟩:=rx.lst hR e1;exact h ρ H hd a xs es Q z hR (.inl q) rr e2 λH' w x R r=>hQ ρ H' w x R r
 .cases hf
def Dk(g:List D->Option D)(ml:MA):ME:=λls hd=>(ml ls hd).bind λp=>(g p.1).map (·,p.2)
def PC{tp:Bool}{r:List V->Hp->VK->Prop}{g:List D->Option D}{t:TE}{m:MA}(hr:RG K tp r g)(h:RN K t m):RE K (tCB r (Bs t Cp)) (Dk g m):=by
 and_intros;obtain⟨⟨d1,h1⟩,e1,hm⟩:=dF hm;obtain⟨w,e2,e3⟩:=dG hm;cases e3;refine h ρ σ H hd ls _ d1 _ hR hL e1 λρ1 H1 a xs x1 R1 na oa ea r1=>?_;exact hr ρ1 H1 _ a xs d1 Q d R1 (.inl (SqL.of ea)) r1 e2 λH' w x R r=>hQ ρ1 H' w (x1.trans R1 x) R r
def BI(ds:List D):Option D:=some (.im (.int ds.length))
def XG:RG K true (Xf K) BI:=by
 intro ρ H hd a xs ds Q z hR q r e hQ;cases e;refine⟨a,xs,rfl,q.imp id λq=>q.2,?_⟩;rw[r.len];exact hQ H _ .refl hR (by simp[RD,RI])
def BQ(ds:List D):Option D:=some (AK ds)
def LM:RG K true (LP K) BQ:=by
 intro ρ H hd a xs ds Q z hR q r e hQ;cases e;refine⟨a,xs,rfl,?_⟩;rcases q with q|⟨_,q⟩
 .refine .inl ⟨q,λp hp=>?_⟩;obtain⟨R2,x2⟩:=hR.hid (ho:=.tup xs) hp;exact hQ _ _ x2 R2 (Ba (SqT.of Ad) (r.ext hR x2))
 .exact .inr ⟨q,hQ H _ .refl hR (Ba q r)⟩
def G0(ds:List D):Option D:=(CM ds).map λbs=>.im (.bl (bs.all id))
def P8:RG K false (Xg K) G0:=by
 intro ρ H hd a xs ds Q z hR q r e hQ;obtain⟨ns,e1,rfl⟩:=dG e;rw[NL e1]at r;have:=PD r;subst this;rcases q with q|⟨q,_⟩
 .exact⟨a,ns,rfl,q,hQ H _ .refl hR (by simp[RD,RI])⟩
 .cases q
def JN:List Int->Int
 |[]=>0
 |[x]=>x
 |x::r=>if JN r>x then JN r else x
def Fx:List Int->Int
 |[]=>0
 |[x]=>x
 |x::r=>if Fx r<x then Fx r else x
def Pq:∀{xs:List Int},xs≠[]->JN xs∈xs/\∀x∈xs,x<=JN xs
 |[],h=>absurd rfl h
 |[x],_=>by simp[JN]
 |x::y::r,_=>by
  obtain⟨h1,h2⟩:=Pq (xs:=y::r) (by simp);rw[JN];split
  .next h=>exact⟨mem_cons_of_mem _ h1,λz m=>by rcases mem_cons.mp m with rfl|m;omega;exact h2 z m⟩
  .next h=>exact⟨mem_cons_self,λz m=>by rcases mem_cons.mp m with rfl|m;omega;exact Int.le_trans (h2 z m) (by omega)⟩
  .simp
def GZ:∀{xs:List Int},xs≠[]->Fx xs∈xs/\∀x∈xs,Fx xs<=x
 |[],h=>absurd rfl h
 |[x],_=>by simp[Fx]
 |x::y::r,_=>by
  obtain⟨h1,h2⟩:=GZ (xs:=y::r) (by simp);rw[Fx];split
  .next h=>exact⟨mem_cons_of_mem _ h1,λz m=>by rcases mem_cons.mp m with rfl|m;omega;exact h2 z m⟩
  .next h=>exact⟨mem_cons_self,λz m=>by rcases mem_cons.mp m with rfl|m;omega;exact Int.le_trans (by omega) (h2 z m)⟩
  .simp
def JR(ds:List D):Option D:=(BZ ds).bind λns=>if ns=[]then none else some (.im (.int (Fx ns)))
def HJ{α:Type}{xs:List α}(h:xs≠[]):0<xs.length:=by cases xs<;>simp_all
def P7:RG K false (T9 K) JR:=by
 intro ρ H hd a xs ds Q z hR q r e hQ;obtain⟨ns,e1,e⟩:=dF e;split at e
 .cases e
 .next hn=>
  cases e;rw[Lf e1]at r;have:=Mo r;subst this;have u:∀M:Int,M∈ns->(∀x∈ns,M<=x)->M=Fx ns:=λM m1 m2=>by
   obtain⟨n1,n2⟩:=GZ hn;have:=n2 M m1;have:=m2 _ n1;omega
  rcases q with q|⟨q,_⟩
  .exact⟨a,ns,rfl,q,HJ hn,λM m1 m2=>by rw[u M m1 m2];exact hQ H _ .refl hR (by simp[RD,RI])⟩
  .cases q
def ae:List D->Hd->Option (D×Hd)
 |[.im (.int i),.im (.int j)],hd=>some (.im (.int (if j>i then j else i)),hd)
 |_,_=>none
def HQ:List D->Hd->Option (D×Hd)
 |[.im (.int i),.im (.int j)],hd=>some (.im (.int (if j<i then j else i)),hd)
 |_,_=>none
def UQ:RF K (λxs H Q=>∃i j,xs=[.int i,.int j]/\Q (.int (if j<i then j else i)) H) HQ:=by
 intro ρ H hd ds vs Q z hd' hR h1 hf hQ;unfold HQ at hf;split at hf
 .cases hf;simp only[RDs,RD,RI]at h1;obtain⟨x,r,rfl,rfl,y,r2,rfl,rfl,rfl⟩:=h1;exact⟨_,_,rfl,hQ ρ H _ .refl hR (by simp[RD,RI])⟩
 .cases hf
def bR:List D->Hd->Option (D×Hd)
 |[.im (.int i)],hd=>some (.im (.int (if i<0 then -i else i)),hd)
 |_,_=>none
def EV(ma:ME):MA:=λls hd=>(ma ls hd).bind λp=>(B9 p.2 p.1).map (·,p.2)
def UL{t:TE}{m:ME}(h:RE K t m):RN K (tCB (FP K) (Bs t Cp)) (EV m):=by
 and_intros;obtain⟨⟨d1,h1⟩,e1,hm⟩:=dF hm;obtain⟨w,e2,e3⟩:=dG hm;cases e3;refine h ρ σ H hd ls _ d1 _ hR hL e1 λρ1 H1 v x1 R1 r1=>?_;obtain⟨a,xs,rfl,q,rr⟩:=r1.seq R1 e2;refine⟨a,xs,rfl,q,λl hl=>?_⟩;obtain⟨R2,x2⟩:=R1.hid (ho:=.lst xs) hl;exact hQ ρ1 _ l xs (x1.trans R1 x2) R2 (x1.none hR hl R1) (R1.out hl) Ad (rr.ext R1 x2)
def FW(ml:MA):MA:=ml
def Rc{t:TE}{m:MA}(h:RN K t m):RN K (tCB (FP K) (Bs t Cp)) (FW m):=by
 and_intros;refine h ρ σ H hd ls _ d _ hR hL hm λρ1 H1 a xs x1 R1 na oa ea r1=>?_;refine⟨a,xs,rfl,.inl (SqL.of ea),λl hl=>?_⟩;obtain⟨R2,x2⟩:=R1.hid (ho:=.lst xs) hl;exact hQ ρ1 _ l xs (x1.trans R1 x2) R2 (x1.none hR hl R1) (R1.out hl) Ad (r1.ext R1 x2)
def Ie(d:PyData):Prop:=d.showable=true/\d.hasDict=false/\isDisplay d=true/\d.depth<=30/\d.shown.length<=sizeLine
def GB:I->Option V
 |.non=>some .non
 |.bl b=>some (.bl b)
 |.int i=>some (.int i)
 |.str x=>some (.str x)
 |.tup _=>none
def Ci:List D->Option (List V)
 |[]=>some []
 |.im i::r=>(GB i).bind λv=>(Ci r).map (v::·)
 |_::_=>none
def Lj{i:I}{v w:V}(e:GB i=some w)(h:RI K H i v):v=w/\E6 w=true:=by
 cases i with
 |tup _=>simp[GB]at e
 |_=>simp only[GB,Option.some.injEq]at e;subst e;exact⟨by simpa only[RI]using h,rfl⟩
def Jx:∀{ds:List D} {vs ws:List V},Ci ds=some ws->RDs K ρ H ds vs->vs=ws/\ws.all E6=true
 |[],vs,ws,e,h=>by simp[Ci]at e;subst e;simp only[RDs]at h;subst h;exact⟨rfl,rfl⟩
 |.im i::r,vs,ws,e,h=>by
  simp only[Ci]at e;obtain⟨v,e1,e⟩:=dF e;obtain⟨us,e2,rfl⟩:=dG e;simp only[RDs,RD]at h;obtain⟨x,y,rfl,h1,h2⟩:=h;obtain⟨rfl,f1⟩:=Lj e1 h1;obtain⟨rfl,f2⟩:=Jx e2 h2;exact⟨rfl,by simp[f1,f2]⟩
 |.mu _::_,_,_,e,_=>by simp[Ci]at e
 |.tm _::_,_,_,e,_=>by simp[Ci]at e
 |.ro _::_,_,_,e,_=>by simp[Ci]at e
def mMt(f:D->List D->Hd->Option (D×Hd))(mo:ME)(ma:MA):ME:=λls hd=>(mo ls hd).bind λp=>match BL p.2 p.1 with
 |some _=>(ma ls p.2).bind λq=>f p.1 q.1 q.2
 |none=>none
def RM(K:PySem.W.Frag)(r:V->List V->Hp->VK->Prop)(f:D->List D->Hd->Option (D×Hd)):Prop:=∀(ρ:List Addr) (H:Hp) (hd:Hd) (d:D) (v:V) (ds:List D) (vs:List V) (Q:VK) (z:D) (hd':Hd),RH K ρ H hd->RD K ρ H d v->RDs K ρ H ds vs->f d ds hd=some (z,hd') ->
 (∀ρ' H' w,Ext ρ H ρ' H'->RH K ρ' H' hd'->RD K ρ' H' z w->Q w H')->r v vs H Q
def a9{r:V->List V->Hp->VK->Prop}{f:D->List D->Hd->Option (D×Hd)}{to:TE}{t:TA}{mo:ME}{ma:MA}(hr:RM K r f)(ho:RE K to mo)(ha:RA K t ma):RE K (tBM K "list" r to t) (mMt f mo ma):=by
 and_intros;obtain⟨⟨d1,h1⟩,e1,hm⟩:=dF hm;dsimp only at hm;split at hm
 .next e=>
  obtain⟨⟨d2,h2⟩,e2,hm⟩:=dF hm;refine ho ρ σ H hd ls _ d1 h1 hR hL e1 λρ1 H1 v x1 R1 r1=>⟨?_,?_⟩
  .obtain⟨a,xs,rfl,q,_⟩:=r1.lst R1 e;exact .inl ⟨rfl,xs,q⟩
  .exact ha ρ1 σ H1 h1 ls _ d2 h2 R1 (hL.ext hR x1) e2 λρ2 H2 vs x2 R2 r2=>hr ρ2 H2 h2 d1 v d2 vs Q d hd' R2 (r1.ext R1 x2) r2 hm λρ' H' w x3 R3 r3=>hQ ρ' H' w ((x1.trans R1 x2).trans R2 x3) R3 r3
 .cases hm
open Classical in
def Ao:D->List D->Hd->Option (D×Hd)
 |.mu n,[x],hd=>match hd[n]? with
  |some (.lst ds)=>if D9 ds.length then some (.im .non,hd.set n (.lst (ds++[x])))else none
  |_=>none
 |_,_,_=>none
def P5:RM K Mt Ao:=by
 intro ρ H hd d v ds vs Q z hd' hR h1 h2 hf hQ;unfold Ao at hf;split at hf
 .split at hf
  .next q=>
   split at hf
   .next c=>
    cases hf;simp only[RD]at h1;obtain⟨a,hn,rfl⟩:=h1;simp only[RDs]at h2;obtain⟨x,r,rfl,rx,rfl⟩:=h2;obtain⟨xs,e1,e2⟩:=hR.lst hn q;obtain⟨R2,x2⟩:=hR.put hn (o:=.lst (_++[_])) (ho:=.lst (xs++[x])) ⟨_,rfl,e2.app (.cons rx .nil)⟩;exact⟨a,xs,x,rfl,rfl,e1,by rw[e2.len];exact c,hQ ρ _ _ x2 R2 (by simp[RD,RI])⟩
   .cases hf
  .cases hf
 .cases hf
end
end L2
namespace L2
open PySem PySem.Spec PyProof.Rows
section
variable{K:PySem.W.Frag}{ρ ρ':List Addr}{H H':Hp}{hd hd':Hd}
def Ap:MS:=λls hd=>some (.nx ls,hd)
def Mi:RS K IN Ap:=by
 intro ρ σ H hd ls E f hd' hR hL hm hQ;cases hm;exact hQ ρ H .refl hR σ hL
def A7(a b:MS):MS:=λls hd=>(a ls hd).bind λp=>match p.1 with
 |.nx ls1=>b ls1 p.2
 |f=>some (f,p.2)
def X1{t u:TS}{a b:MS}(ha:RS K t a)(hb:RS K u b):RS K (Qw t u) (A7 a b):=by
 intro ρ σ H hd ls E f hd' hR hL hm hQ;obtain⟨⟨f1,h1⟩,e1,hm⟩:=dF hm;refine ha ρ σ H hd ls { E with nx:=u E } f1 h1 hR hL e1 λρ1 H1 x1 R1=>?_;cases f1 with
 |nx ls1=>
  intro σ1 L1;exact hb ρ1 σ1 H1 h1 ls1 E f hd' R1 L1 hm λρ2 H2 x2 R2=>hQ ρ2 H2 (x1.trans R1 x2) R2
 |bk ls1=>cases hm;exact hQ ρ1 H1 x1 R1
 |ct ls1=>cases hm;exact hQ ρ1 H1 x1 R1
 |rt d=>cases hm;exact hQ ρ1 H1 x1 R1
def Yz:MS:=λls hd=>some (.bk ls,hd)
def aY:MS:=λls hd=>some (.ct ls,hd)
def BE(m:ME):MS:=λls hd=>(m ls hd).bind λp=>some (.nx ls,p.2)
def UG{t:TE}{m:ME}(h:RE K t m):RS K (NZ t) (BE m):=by
 intro ρ σ H hd ls E f hd' hR hL hm hQ;obtain⟨⟨d1,h1⟩,e1,hm⟩:=dF hm;cases hm;exact h ρ σ H hd ls _ d1 _ hR hL e1 λρ1 H1 v x1 R1 r1=>hQ ρ1 H1 x1 R1 σ (hL.ext hR x1)
def Aa(m:ME):MS:=λls hd=>(m ls hd).bind λp=>some (.rt p.1,p.2)
def X2{t:TE}{m:ME}(h:RE K t m):RS K (Qx t) (Aa m):=by
 intro ρ σ H hd ls E f hd' hR hL hm hQ;obtain⟨⟨d1,h1⟩,e1,hm⟩:=dF hm;cases hm;exact h ρ σ H hd ls _ d1 _ hR hL e1 λρ1 H1 v x1 R1 r1=>hQ ρ1 H1 x1 R1 v r1
def aX:MS:=λ_ hd=>some (.rt (.im .non),hd)
def B2(c:MT)(a b:MS):MS:=λls hd=>(c ls hd).bind λp=>if p.1=true then a ls p.2 else b ls p.2
def a7{tc:TT}{t u:TS}{c:MT}{a b:MS}(hc:RT K tc c)(ha:RS K t a)(hb:RS K u b):RS K (RJ tc t u) (B2 c a b):=by
 intro ρ σ H hd ls E f hd' hR hL hm hQ;obtain⟨⟨d1,h1⟩,e1,hm⟩:=dF hm;refine hc ρ σ H hd ls _ d1 h1 hR hL e1 λρ1 H1 x1 R1=>?_;cases d1 with
 |true=>
  rw[if_pos rfl]at hm ⊢;exact ha ρ1 σ H1 h1 ls E f hd' R1 (hL.ext hR x1) hm λρ2 H2 x2 R2=>hQ ρ2 H2 (x1.trans R1 x2) R2
 |false=>
  rw[if_neg Bool.false_ne_true]at hm ⊢;exact hb ρ1 σ H1 h1 ls E f hd' R1 (hL.ext hR x1) hm λρ2 H2 x2 R2=>hQ ρ2 H2 (x1.trans R1 x2) R2
abbrev MG:=D->Ls->Hd->Option Ls
abbrev MGs:=List D->Ls->Hd->Option Ls
def RGt(K:PySem.W.Frag)(t:TG)(m:MG):Prop:=∀(ρ:List Addr) (σ:St) (H:Hp) (hd:Hd) (ls ls':Ls) (d:D) (v:V) (Q:St->Hp->Prop),RH K ρ H hd->RL K ρ H ls σ->RD K ρ H d v->m d ls hd=some ls' ->
 (∀σ',RL K ρ H ls' σ'->Q σ' H)->t v σ H Q
def MF(K:PySem.W.Frag)(t:TGs)(m:MGs):Prop:=∀(ρ:List Addr) (σ:St) (H:Hp) (hd:Hd) (ls ls':Ls) (d:List D) (v:List V) (Q:St->Hp->Prop),RH K ρ H hd->RL K ρ H ls σ->RDs K ρ H d v->m d ls hd=some ls' ->
 (∀σ',RL K ρ H ls' σ'->Q σ' H)->t v σ H Q
def RL.set{ls:Ls}{σ:St}{d:D}{v:V}(h:RL K ρ H ls σ)(i:Nat)(r:RD K ρ H d v):RL K ρ H (ls.set i (some d)) (σ.set i (some v)):=by
 refine⟨by simp[h.len],λj e q=>?_⟩;by_cases hij:i=j
 .subst hij;have hl:i<ls.length:=by
   have:=(List.getElem?_eq_some_iff.mp q).1;simpa using this
  rw[List.getElem?_set_self hl]at q;cases q;exact⟨v,by rw[List.getElem?_set_self (by rw[<- h.len];exact hl)],r⟩
 .rw[List.getElem?_set_ne hij]at q;obtain⟨w,e1,e2⟩:=h.ob j e q;exact⟨w,by rw[List.getElem?_set_ne hij];exact e1,e2⟩
def AG(i:Nat):MG:=λd ls _=>some (ls.set i (some d))
def HC{i:Nat}:RGt K (Cl i) (AG i):=by
 intro ρ σ H hd ls ls' d v Q hR hL hd hm hQ;cases hm;exact hQ _ (hL.set i hd)
def CF:MGs:=λds ls _=>match ds with
 |[]=>some ls
 |_=>none
def Ac(m:MG)(r:MGs):MGs:=λds ls hd=>match ds with
 |d::es=>(m d ls hd).bind λls1=>r es ls1 hd
 |[]=>none
def UP:MF K SZ CF:=by
 intro ρ σ H hd ls ls' d v Q hR hL hd hm hQ;cases d with
 |nil=>
  simp only[RDs]at hd;subst hd;cases hm;exact⟨rfl,hQ _ hL⟩
 |cons a b=>cases hm
def Rf{t:TG}{u:TGs}{m:MG}{r:MGs}(h:RGt K t m)(h':MF K u r):MF K (OP t u) (Ac m r):=by
 intro ρ σ H hd ls ls' d v Q hR hL hd hm hQ;cases d with
 |nil=>cases hm
 |cons a b=>
  simp only[RDs]at hd;obtain⟨x,y,rfl,h1,h2⟩:=hd;obtain⟨ls1,e1,e2⟩:=dF hm;exact⟨x,y,rfl,h ρ σ H _ ls ls1 a x _ hR hL h1 e1 λσ1 L1=>h' ρ σ1 H _ ls1 ls' b y Q hR L1 h2 e2 hQ⟩
def Bx(n:Nat)(r:MGs):MG:=λd ls hd=>(AN d).bind λds=>if ds.length=n then r ds ls hd else none
def XF{n:Nat}{u:TGs}{r:MGs}(h':MF K u r):RGt K (OO K n u) (Bx n r):=by
 intro ρ σ H hd ls ls' d v Q hR hL hd hm hQ;obtain⟨ds,e1,hm⟩:=dF hm;split at hm
 .next c=>
  obtain⟨a,xs,rfl,q,rr⟩:=hd.tup e1;exact⟨a,xs,rfl,q,by rw[rr.len];exact c,h' ρ σ H _ ls ls' ds xs Q hR hL rr hm hQ⟩
 .cases hm
def Fz(m:ME)(g:MG):MS:=λls hd=>(m ls hd).bind λp=>(g p.1 ls p.2).map λls'=>(.nx ls',p.2)
def IW{t:TE}{m:ME}{g:TG}{n:MG}(h:RE K t m)(hg:RGt K g n):RS K (DZ t g) (Fz m n):=by
 intro ρ σ H hd ls E f hd' hR hL hm hQ;obtain⟨⟨d1,h1⟩,e1,hm⟩:=dF hm;obtain⟨ls',e2,e3⟩:=dG hm;cases e3;exact h ρ σ H hd ls _ d1 _ hR hL e1 λρ1 H1 v x1 R1 r1=>hg ρ1 σ H1 _ ls ls' d1 v _ R1 (hL.ext hR x1) r1 e2 λσ' L'=>hQ ρ1 H1 x1 R1 σ' L'
abbrev AH(i:Nat)(m:ME):MS:=Fz m (AG i)
def I0(ix:List Nat)(ma:MA):MS:=λls hd=>(ma ls hd).bind λp=>if p.1.length=ix.length then some (.nx ((ix.zip p.1).foldl (λl q=>l.set q.1 (some q.2)) ls),p.2)else none
def X4{i j:Nat}{t:TA}{m:MA}(h:RA K t m):RS K (Qy i j t) (I0 [i,j] m):=by
 intro ρ σ H hd ls E f hd' hR hL hm hQ;obtain⟨⟨d1,h1⟩,e1,hm⟩:=dF hm;dsimp only at hm;split at hm
 .next c=>
  cases hm;refine h ρ σ H hd ls _ d1 _ hR hL e1 λρ1 H1 v x1 R1 r1=>?_
  match d1,c,r1,hQ with
  |[a,b],_,r1,hQ=>
   simp only[RDs]at r1;obtain⟨x,r,rfl,ra,y,r2,rfl,rb,rfl⟩:=r1;exact⟨x,y,rfl,hQ ρ1 H1 x1 R1 _ (((hL.ext hR x1).set i ra).set j rb)⟩
 .cases hm
def Ii(i j k:Nat)(ma:MA):MS:=I0 [k,j,i] (λls hd=>(ma ls hd).map λp=>(p.1.reverse,p.2))
def UD{i j k:Nat}{t:TA}{m:MA}(h:RA K t m):RS K (NX i j k t) (Ii i j k m):=by
 intro ρ σ H hd ls E f hd' hR hL hm hQ;obtain⟨⟨d1,h1⟩,e1,hm⟩:=dF hm;obtain⟨⟨d2,h2⟩,e2,e3⟩:=dG e1;cases e3;dsimp only at hm;split at hm
 .next c=>
  cases hm;refine h ρ σ H hd ls _ d2 _ hR hL e2 λρ1 H1 v x1 R1 r1=>?_;have c:d2.length=3:=by simpa using c
  match d2,c,r1,hQ with
  |[a,b,e],_,r1,hQ=>
   simp only[RDs]at r1;obtain⟨x,r,rfl,ra,y,r2,rfl,rb,z,r3,rfl,rc,rfl⟩:=r1;exact⟨x,y,z,rfl,hQ ρ1 H1 x1 R1 _ ((((hL.ext hR x1).set k rc).set j rb).set i ra)⟩
 .cases hm
abbrev Gd:=List (Nat×List D)
abbrev MI:=Ls->Hd->Option ((List D×Gd)×Hd)
def GOk(hd:Hd)(g:Gd):Prop:=∀p∈g,hd[p.1]?=some (.lst p.2)
@[simp] theorem AU(hd:Hd):GOk hd []:=λp h=>by cases h
def J5(K:PySem.W.Frag)(ρ:List Addr)(H:Hp)(J:It)(ds:List D)(g:Gd):Prop:=∀(ρ2:List Addr) (H2:Hp) (hd2:Hd),Ext ρ H ρ2 H2->RH K ρ2 H2 hd2->GOk hd2 g ->
 ∀i:Nat,(i<ds.length->J.go i H2/\∀x H3,J.yld i H2 x H3->∃ρ3 d,Ext ρ2 H2 ρ3 H3/\ρ3=ρ2/\RH K ρ3 H3 hd2/\ds[i]?=some d/\RD K ρ3 H3 d x)/\(i=ds.length->J.stop i H2)
def RIt(K:PySem.W.Frag)(t:TI)(m:MI):Prop:=∀(ρ:List Addr) (σ:St) (H:Hp) (hd:Hd) (ls:Ls) (Q:It->Hp->Prop) (d:List D) (g:Gd) (hd':Hd),RH K ρ H hd->RL K ρ H ls σ->m ls hd=some ((d,g),hd') ->
 (∀ρ' H' J,Ext ρ H ρ' H'->RH K ρ' H' hd'->GOk hd' g->J5 K ρ' H' J d g->Q J H')->t σ H Q
def NO{a:Addr}{xs:List V}{ds:List D}(hR:RH K ρ H hd)(q:SqT K H a xs)(r:RDs K ρ H ds xs)(g:Gd):J5 K ρ H (Itt K a) ds g:=by
 intro ρ2 H2 hd2 x2 R2 _ i;have q2:=(x2.grow hR).sq q;have r2:=r.ext hR x2;have uniq:∀ys,SqT K H2 a ys->True:=λ_ _=>trivial;refine⟨λhi=>?_,λhi=>⟨xs,q2,by rw[r2.len,hi];exact le_refl _⟩⟩;have e:ds[i]?=some ds[i]:=by simp[hi]
 obtain⟨x,x1,x3⟩:=r2.get e;refine⟨⟨xs,x,q2,x1⟩,λy H3 ⟨e3,hy⟩=>?_⟩;subst e3;have:=hy xs q2;rw[x1]at this;cases this;exact⟨ρ2,_,.refl,rfl,R2,e,x3⟩
def BD(m:ME):MI:=λls hd=>(m ls hd).bind λp=>(AN p.1).map λds=>((ds,[]),p.2)
def XD{t:TE}{m:ME}(h:RE K t m):RIt K (OJ K t) (BD m):=by
 intro ρ σ H hd ls Q d g hd' hR hL hm hQ;obtain⟨⟨d1,h1⟩,e1,hm⟩:=dF hm;obtain⟨ds,e2,e3⟩:=dG hm;cases e3;refine h ρ σ H hd ls _ d1 _ hR hL e1 λρ1 H1 v x1 R1 r1=>?_;obtain⟨a,xs,rfl,q,r⟩:=r1.tup e2;exact⟨a,rfl,⟨xs,q⟩,hQ ρ1 H1 _ x1 R1 (AU _) (NO R1 q r [])⟩
def CY(m:ME):MI:=λls hd=>(m ls hd).bind λp=>match p.1 with
 |.mu n=>match p.2[n]? with
  |some (.lst ds)=>some ((ds,[(n,ds)]),p.2)
  |_=>none
 |.ro ns=>some ((ns.map λn=>.im (.int n),[]),p.2)
 |_=>none
def UO{t:TE}{m:ME}(h:RE K t m):RIt K (HN K t) (CY m):=by
 intro ρ σ H hd ls Q d g hd' hR hL hm hQ;obtain⟨⟨d1,h1⟩,e1,hm⟩:=dF hm;dsimp only at hm;split at hm
 .next n=>
  split at hm
  .next ds q=>
   cases hm;refine h ρ σ H hd ls _ _ _ hR hL e1 λρ1 H1 v x1 R1 r1=>?_;simp only[RD]at r1;obtain⟨a,hn,rfl⟩:=r1;obtain⟨xs,e2,e3⟩:=R1.lst hn q;refine⟨a,rfl,⟨xs,SqL.of e2⟩,hQ ρ1 H1 _ x1 R1 (λp z=>by simp at z;subst z;exact q) ?_⟩;intro ρ2 H2 hd2 x2 R2 G2 i;have q2:=G2 (n,d) (by simp);have hn2:ρ2[n]?=some a:=by
    obtain⟨r,rfl,_⟩:=x2.pre;rw[List.getElem?_append_left (List.getElem?_eq_some_iff.mp hn).1];exact hn
   obtain⟨ys,e4,e5⟩:=R2.lst hn2 q2;refine⟨λhi=>?_,λhi=>⟨ys,SqL.of e4,by rw[e5.len,hi];exact le_refl _⟩⟩;have e:d[i]?=some d[i]:=by simp[hi]
   obtain⟨x,y1,y2⟩:=e5.get e;refine⟨⟨ys,x,SqL.of e4,y1⟩,λy H3 ⟨e6,hy⟩=>?_⟩;subst e6;have:=hy ys (SqL.of e4);rw[y1]at this;cases this;exact⟨ρ2,_,.refl,rfl,R2,e,y2⟩
  .cases hm
 .next ns=>
  cases hm;refine h ρ σ H hd ls _ _ _ hR hL e1 λρ1 H1 v x1 R1 r1=>?_;simp only[RD]at r1;obtain⟨a,rfl,q⟩:=r1;refine⟨a,rfl,⟨_,q.sq⟩,hQ ρ1 H1 _ x1 R1 (AU _) ?_⟩;intro ρ2 H2 hd2 x2 R2 G2 i;have q2:=(q.grow (x2.grow R1)).sq;have e5:RDs K ρ2 H2 (ns.map λn=>.im (.int n)) (ns.map V.int):=HM;refine⟨λhi=>?_,λhi=>⟨_,q2,by rw[e5.len,hi];exact le_refl _⟩⟩;have e:(ns.map λn=>D.im (.int n))[i]?=some ((ns.map λn=>D.im (.int n))[i]):=by simp[hi]
  obtain⟨x,y1,y2⟩:=e5.get e;refine⟨⟨_,x,q2,y1⟩,λy H3 ⟨e6,hy⟩=>?_⟩;subst e6;have:=hy _ q2;rw[y1]at this;cases this;exact⟨ρ2,_,.refl,rfl,R2,e,y2⟩
 .cases hm
def IA(ml:MA):MI:=λls hd=>(ml ls hd).map λp=>((p.1,[]),p.2)
def XE{t:TE}{m:MA}(h:RN K t m):RIt K (HN K t) (IA m):=by
 intro ρ σ H hd ls Q d g hd' hR hL hm hQ;obtain⟨⟨d1,h1⟩,e1,e3⟩:=dG hm;obtain⟨⟨rfl,rfl⟩,rfl⟩:=Prod.mk.inj e3 |>.imp Prod.mk.inj id;clear e3 hm;refine h ρ σ H hd ls _ _ _ hR hL e1 λρ1 H1 a xs x1 R1 na oa ea r1=>?_;refine⟨a,rfl,⟨xs,SqL.of ea⟩,hQ ρ1 H1 _ x1 R1 (AU _) ?_⟩;intro ρ2 H2 hd2 x2 R2 G2 i;have q2:SqL K H2 a xs:=SqL.of (x2.keep a _ ea oa nt);have r2:=r1.ext R1 x2;refine⟨λhi=>?_,λhi=>⟨xs,q2,by rw[r2.len,hi];exact le_refl _⟩⟩;have hi:i<d1.length:=hi;have e:d1[i]?=some d1[i]:=by simp[hi]
 obtain⟨x,y1,y2⟩:=r2.get e;refine⟨⟨xs,x,q2,y1⟩,λy H3 ⟨e6,hy⟩=>?_⟩;subst e6;have:=hy xs q2;rw[y1]at this;cases this;exact⟨ρ2,_,.refl,rfl,R2,e,y2⟩
def Ai(lo:Int):Nat->List D
 |0=>[]
 |n+1=>.im (.int lo)::Ai (lo+1) n
@[simp] theorem Dc(lo:Int)(n:Nat):(Ai lo n).length=n:=by
 induction n generalizing lo with
 |zero=>rfl
 |succ n ih=>simp[Ai,ih]
def Ft{n:Nat}:∀{lo:Int} {i:Nat},i<n->(Ai lo n)[i]?=some (.im (.int (lo+i))):=by
 induction n with
 |zero=>intro lo i h;omega
 |succ n ih=>
  intro lo i h;cases i with
  |zero=>simp[Ai]
  |succ i=>
   simp only[Ai,List.getElem?_cons_succ];rw[ih (by omega)]
   congr 3
   push_cast
   omega
def IG{lo:Int}{n:Nat}{g:Gd}:J5 K ρ H (Itr lo n) (Ai lo n) g:=by
 intro ρ2 H2 hd2 x2 R2 G2 i;refine⟨λhi=>?_,λhi=>by rw[hi,Dc];exact le_refl _⟩;rw[Dc]at hi;refine⟨hi,λx H3 ⟨e1,e2⟩=>?_⟩;subst e1 e2;exact⟨ρ2,_,.refl,rfl,R2,Ft hi,by simp[RD,RI]⟩
open Classical in
def Cq(m:MA):MI:=λls hd=>(m ls hd).bind λp=>match p.1 with
 |[.im (.int j)]=>if Et j then some ((Ai 0 j.toNat,[]),p.2)else none
 |_=>none
def UN{t:TA}{m:MA}(h:RA K t m):RIt K (OL t) (Cq m):=by
 intro ρ σ H hd ls Q d g hd' hR hL hm hQ;obtain⟨⟨d1,h1⟩,e1,hm⟩:=dF hm;dsimp only at hm;split at hm
 .next j=>
  split at hm
  .next c=>
   cases hm;refine h ρ σ H hd ls _ _ _ hR hL e1 λρ1 H1 v x1 R1 r1=>?_;simp only[RDs,RD,RI]at r1;obtain⟨x,r,rfl,rfl,rfl⟩:=r1;exact⟨j,rfl,c.1,c.2,hQ ρ1 H1 _ x1 R1 (AU _) IG⟩
  .cases hm
 .cases hm
open Classical in
def E4(m:MA):MI:=λls hd=>(m ls hd).bind λp=>match p.1 with
 |[.im (.int i),.im (.int j)]=>if LK i j then some ((Ai i (j-i).toNat,[]),p.2)else none
 |_=>none
def UM{t:TA}{m:MA}(h:RA K t m):RIt K (OK t) (E4 m):=by
 intro ρ σ H hd ls Q d g hd' hR hL hm hQ;obtain⟨⟨d1,h1⟩,e1,hm⟩:=dF hm;dsimp only at hm;split at hm
 .next i j=>
  split at hm
  .next c=>
   cases hm;refine h ρ σ H hd ls _ _ _ hR hL e1 λρ1 H1 v x1 R1 r1=>?_;simp only[RDs,RD,RI]at r1;obtain⟨x,r,rfl,rfl,y,r2,rfl,rfl,rfl⟩:=r1;exact⟨i,j,rfl,⟨c.1.1,c.1.2,c.2.1,c.2.2⟩,hQ ρ1 H1 _ x1 R1 (AU _) IG⟩
  .cases hm
 .cases hm
open Classical in
def BR(n:MG)(b:MS)(g:Gd):List D->Ls->Hd->Option (Fl×Hd)
 |[],ls,hd=>some (.nx ls,hd)
 |d::r,ls,hd=>(n d ls hd).bind λls1=>(b ls1 hd).bind λp=>match p.1 with
  |.nx ls2=>if GOk p.2 g then BR n b g r ls2 p.2 else none
  |.ct ls2=>if GOk p.2 g then BR n b g r ls2 p.2 else none
  |.bk ls2=>some (.nx ls2,p.2)
  |.rt d=>some (.rt d,p.2)
def BO(mi:MI)(n:MG)(b:MS):MS:=λls hd=>(mi ls hd).bind λp=>BR n b p.1.2 p.1.1 ls p.2
def X5{wi:TI}{g:TG}{tb:TS}{mi:MI}{n:MG}{b:MS}(hi:RIt K wi mi)(hg:RGt K g n)(hb:RS K tb b):RS K (RK wi g tb) (BO mi n b):=by
 intro ρ σ H hd ls E f hd' hR hL hm hQ;obtain⟨⟨⟨ds,gd⟩,h1⟩,e1,hm⟩:=dF hm;refine hi ρ σ H hd ls _ ds gd h1 hR hL e1 λρ1 H1 J x1 R1 G1 Y=>?_;dsimp only at hm;refine⟨λi m σ2 H2=>m=ds.length-i/\i<=ds.length/\∃ρ2 ls2 hd2,Ext ρ1 H1 ρ2 H2/\RH K ρ2 H2 hd2/\RL K ρ2 H2 ls2 σ2/\GOk hd2 gd/\BR n b gd (ds.drop i) ls2 hd2=some (f,hd'),
  ⟨ds.length,by simp,zero_le _,ρ1,ls,h1,.refl,R1,hL.ext hR x1,G1,by simpa using hm⟩,?_⟩
 rintro i m σ2 H2 ⟨rfl,hi,ρ2,ls2,hd2,x2,R2,L2',G2,hm2⟩;obtain⟨Y1,Y2⟩:=Y ρ2 H2 hd2 x2 R2 G2 i;by_cases hlt:i<ds.length
 .obtain⟨go,Y1⟩:=Y1 hlt;have ed:ds.drop i=ds[i]::ds.drop (i+1):=drop_eq_getElem_cons hlt;rw[ed]at hm2;unfold BR at hm2;obtain⟨ls3,e3,hm2⟩:=dF hm2;obtain⟨⟨fl,hd4⟩,e4,hm2⟩:=dF hm2;refine .inr ⟨go,λσ' H'=>∃ρ2 ls2 hd2,Ext ρ1 H1 ρ2 H'/\RH K ρ2 H' hd2/\RL K ρ2 H' ls2 σ'/\GOk hd2 gd/\BR n b gd (ds.drop (i+1)) ls2 hd2=some (f,hd'),λσ' H' z=>⟨ds.length-(i+1),by omega,rfl,hlt,z⟩,λx H3 y=>?_⟩;obtain⟨ρ3,d3,x3,rfl,R3,e5,r3⟩:=Y1 x H3 y;have e6:d3=ds[i]:=by
   have:ds[i]?=some ds[i]:=by simp[hlt]
   rw[this]at e5;exact(Option.some.inj e5).symm
  subst e6;refine hg ρ3 σ2 H3 hd2 ls2 ls3 _ x _ R3 (L2'.ext R2 x3) r3 e3 λσ4 L4=>?_;refine hb ρ3 σ4 H3 hd2 ls3 _ fl hd4 R3 L4 e4 λρ5 H5 x5 R5=>?_;have x15:=(x2.trans R2 x3).trans R3 x5;cases fl with
  |nx ls5=>
   intro σ5 L5;dsimp only at hm2;split at hm2
   .next c=>exact⟨ρ5,ls5,hd4,x15,R5,L5,c,hm2⟩
   .cases hm2
  |ct ls5=>
   intro σ5 L5;dsimp only at hm2;split at hm2
   .next c=>exact⟨ρ5,ls5,hd4,x15,R5,L5,c,hm2⟩
   .cases hm2
  |bk ls5=>
   intro σ5 L5;cases hm2;exact hQ ρ5 H5 (x1.trans R1 x15) R5 σ5 L5
  |rt d5=>
   intro v5 r5;cases hm2;exact hQ ρ5 H5 (x1.trans R1 x15) R5 v5 r5
 .have e:i=ds.length:=by omega
  subst e;rw[drop_length]at hm2;unfold BR at hm2;cases hm2;exact .inl ⟨Y2 rfl,hQ ρ2 H2 (x1.trans R1 x2) R2 σ2 L2'⟩
open Classical in
def As(n:MG)(c:MT)(m:ME)(g:Gd):List D->Ls->Hd->Option (List D×Hd)
 |[],_,hd=>some ([],hd)
 |d::r,ls,hd=>(n d ls hd).bind λls1=>(c ls1 hd).bind λp=>if p.1=true then(m ls1 p.2).bind λq=>if GOk q.2 g then(As n c m g r ls1 q.2).map λz=>(q.1::z.1,z.2)else none else if GOk p.2 g then As n c m g r ls1 p.2 else none
def E8(k:Nat)(ix:List Nat)(ls:Ls):Ls:=List.replicate k none++ix.map λi=>(ls[i]?).join
open Classical in
def B5(k:Nat)(ix:List Nat)(mi:MI)(n:MG)(c:MT)(m:ME):MA:=λls hd=>(mi ls hd).bind λp=>if Be p.1.1.length then As n c m p.1.2 p.1.1 (E8 k ix ls) p.2 else none
def NK{k:Nat}{ix:List Nat}{ls:Ls}{σ:St}(h:RL K ρ H ls σ):RL K ρ H (E8 k ix ls) (FK k ix σ):=by
 refine⟨by simp[E8,FK],λi d e=>?_⟩;unfold E8 at e;unfold FK;by_cases hi:i<k
 .rw[List.getElem?_append_left (by simpa using hi),List.getElem?_replicate]at e;split at e<;>cases e
 .have hi':k<=i:=Nat.not_lt.mp hi;rw[List.getElem?_append_right (by simpa using hi'),List.length_replicate,List.getElem?_map]at e ⊢;cases q:ix[i-k]? with
  |none=>rw[q]at e;cases e
  |some j=>
   rw[q]at e;simp only[map_some,Option.some.injEq]at e ⊢;have e5:ls[j]?=some (some d):=by
    cases w:ls[j]? with
    |none=>rw[w]at e;cases e
    |some z=>rw[w]at e;simpa using e
   obtain⟨v,e6,e7⟩:=h.ob j d e5;exact⟨v,by rw[e6];rfl,e7⟩
def Ml{k:Nat}{ix:List Nat}{wi:TI}{g:TG}{tf:TT}{te:TE}{mi:MI}{n:MG}{c:MT}{m:ME}(hi:RIt K wi mi)(hg:RGt K g n)(hf:RT K tf c)(he:RE K te m):RN K (Fp k ix wi g tf te) (B5 k ix mi n c m):=by
 intro ρ σ H hd ls Q out hd' hR hL hm hQ;obtain⟨⟨⟨ds,gd⟩,h1⟩,e1,hm⟩:=dF hm;dsimp only at hm;split at hm
 .next hlen=>
  have hlen:ds.length<=sizeLine:=hlen;refine hi ρ σ H hd ls _ ds gd h1 hR hL e1 λρ1 H1 J x1 R1 G1 Y=>?_;intro Da hDa;obtain⟨R1',x1'⟩:=R1.hid (ho:=.lst []) hDa;have oD:Da∉ρ1:=R1.out hDa;have nD:H Da=none:=x1.none hR hDa R1;refine⟨λi mm σ2 ys H2=>mm=ds.length-i/\i<=ds.length/\∃ρ2 ls2 hd2 es rest,Ext ρ1 (upd H1 Da (.lst ys)) ρ2 H2/\Ext ρ1 H1 ρ2 H2/\Da∉ρ2/\H2 Da=some (.lst ys)/\RH K ρ2 H2 hd2/\RL K ρ2 H2 ls2 σ2/\RDs K ρ2 H2 es ys/\es.length<=i/\GOk hd2 gd/\As n c m gd (ds.drop i) ls2 hd2=some (rest,hd')/\out=es++rest,
   ⟨ds.length,by simp,zero_le _,ρ1,_,h1,[],out,.refl,x1',oD,Ad,R1',(NK ((hL.ext hR x1).ext R1 x1')),.nil,le_refl _,G1,by simpa using hm,rfl⟩,?_⟩
  rintro i mm σ2 ys H2 ⟨rfl,hi,ρ2,ls2,hd2,es,rest,x2',x2,oD2,hD2,R2,L2',r2,hle,G2,hm2,rfl⟩;refine⟨hD2,?_⟩;obtain⟨Y1,Y2⟩:=Y ρ2 H2 hd2 x2 R2 G2 i;by_cases hlt:i<ds.length
  .obtain⟨go,Y1⟩:=Y1 hlt;have ed:ds.drop i=ds[i]::ds.drop (i+1):=drop_eq_getElem_cons hlt;rw[ed]at hm2;unfold As at hm2;obtain⟨ls3,e3,hm2⟩:=dF hm2;obtain⟨⟨bb,hd4⟩,e4,hm2⟩:=dF hm2;refine .inr ⟨go,lt_of_le_of_lt (by rw[r2.len];exact hle) (by omega),λσ' ys' H'=>∃ρ2 ls2 hd2 es' rest',Ext ρ1 (upd H1 Da (.lst ys')) ρ2 H'/\Ext ρ1 H1 ρ2 H'/\Da∉ρ2/\H' Da=some (.lst ys')/\RH K ρ2 H' hd2/\RL K ρ2 H' ls2 σ'/\RDs K ρ2 H' es' ys'/\es'.length<=i+1/\GOk hd2 gd/\As n c m gd (ds.drop (i+1)) ls2 hd2=some (rest',hd')/\es++rest=es'++rest',λσ' ys' H' z=>⟨ds.length-(i+1),by omega,rfl,hlt,z⟩,λx H3 y=>?_⟩;obtain⟨ρ3,d3,x3,rfl,R3,e5,r3⟩:=Y1 x H3 y;have e6:d3=ds[i]:=by
    have:ds[i]?=some ds[i]:=by simp[hlt]
    rw[this]at e5;exact(Option.some.inj e5).symm
   subst e6;refine hg ρ3 σ2 H3 hd2 ls2 ls3 _ x _ R3 (L2'.ext R2 x3) r3 e3 λσ4 L4=>?_;refine hf ρ3 σ4 H3 hd2 ls3 _ bb hd4 R3 L4 e4 λρ5 H5 x5 R5=>?_;have hD5:H5 Da=some (.lst ys):=x5.keep Da _ (x3.keep Da _ hD2 oD2 nt) oD2 nt;have out5:Da∉ρ5:=by
    obtain⟨r,rfl,fr⟩:=x5.pre;intro z;rcases mem_append.mp z with z|z
    .exact oD2 z
    .have:=fr _ z;rw[x3.keep Da _ hD2 oD2 nt]at this;cases this
   cases bb with
   |false=>
    rw[if_neg Bool.false_ne_true]at hm2 ⊢;have y25:=x3.trans R3 x5;split at hm2
    .next g5=>exact⟨ρ5,ls3,hd4,es,rest,x2'.trans R2 y25,(x2.trans R2 y25),out5,hD5,R5,L4.ext R3 x5,(r2.ext R2 y25),by omega,g5,hm2,rfl⟩
    .cases hm2
   |true=>
    rw[if_pos rfl]at hm2 ⊢;obtain⟨⟨z,hd6⟩,e6,hm2⟩:=dF hm2;obtain⟨g6,hm2⟩:GOk hd6 gd/\((As n c m gd (ds.drop (i+1)) ls3 hd6).map λq=>(z::q.1,q.2))=some (rest,hd'):=by
     dsimp only at hm2;split at hm2
     .next g6=>exact⟨g6,hm2⟩
     .cases hm2
    obtain⟨⟨zs,hd7⟩,e7,e8⟩:=dG hm2;cases e8;refine he ρ5 σ4 H5 hd4 ls3 _ z hd6 R5 (L4.ext R3 x5) e6 λρ6 H6 v6 x6 R6 r6=>?_;have hD6:H6 Da=some (.lst ys):=x6.keep Da _ hD5 out5 nt;have out6:Da∉ρ6:=by
     obtain⟨r,rfl,fr⟩:=x6.pre;intro z;rcases mem_append.mp z with z|z
     .exact out5 z
     .have:=fr _ z;rw[hD5]at this;cases this
    refine⟨hD6,?_⟩;have y26:=(x3.trans R3 x5).trans R5 x6;have gr:Grow H6 (upd H6 Da (.lst (ys++[v6]))):=Grow.refl.put (.lst hD6);have R7:=R6.hput (ho:=.lst (ys++[v6])) out6 hD6;have x12:=x2.trans R2 y26;have ext7:Ext ρ1 H1 ρ6 (upd H6 Da (.lst (ys++[v6]))):=⟨x12.pre,λb o q nb t=>by
     have:b≠Da:=Am q hDa;rw[AW this];exact x12.keep b o q nb t,λb ps q=>by
     have:b≠Da:=Am q hDa;rw[AW this];exact x12.tab b ps q⟩
    have ext8:Ext ρ1 (upd H1 Da (.lst (ys++[v6]))) ρ6 (upd H6 Da (.lst (ys++[v6]))):=by
     obtain⟨r,er,fr⟩:=x12.pre;refine⟨⟨r,er,λb hb=>?_⟩,λb o q nb t=>?_,λb ps q=>?_⟩
     .have:b≠Da:=λz=>out6 (by rw[er,<- z];exact mem_append_right _ hb);rw[AW this];exact fr b hb
     .by_cases hb:b=Da
      .subst hb;rw[Ad]at q ⊢;exact q
      .rw[AW hb]at q ⊢;exact x12.keep b o q nb t
     .by_cases hb:b=Da
      .subst hb;rw[Ad]at q;cases q
      .rw[AW hb]at q ⊢;exact x12.tab b ps q
    refine⟨ρ6,ls3,hd6,es++[z],zs,ext8,ext7,out6,Ad,R7,?_,?_,by simp;omega,g6,e7,by simp⟩
    .have L6:=(L4.ext R3 x5).ext R5 x6;exact⟨L6.len,λi d e=>let ⟨v,a,b⟩:=L6.ob i d e;⟨v,a,by simpa using b.mono gr []⟩⟩
    .have:=((r2.ext R2 y26).app (.cons r6 .nil)).mono gr [];simpa using this
  .have e:i=ds.length:=by omega
   subst e;rw[drop_length]at hm2;unfold As at hm2;cases hm2;refine .inl ⟨Y2 rfl,?_⟩;exact hQ ρ2 H2 Da ys (x1.trans R1 x2) R2 nD oD2 hD2 (by simpa using r2)
 .cases hm
end
mutual
def clD(w:Nat):D->Bool
 |.im _=>true
 |.mu n=>decide (n<w)
 |.tm ds=>B6 w ds
 |.ro _=>true
def B6(w:Nat):List D->Bool
 |[]=>true
 |d::ds=>clD w d&&B6 w ds
end
def FJ(w:Nat):List (Key×D)->Bool
 |[]=>true
 |d::ds=>clD w d.2&&FJ w ds
def clO(w:Nat):MO->Bool
 |.lst ds=>B6 w ds
 |.dic ds=>FJ w ds
section
variable{K:PySem.W.Frag}{ρ ρ' ρ1:List Addr}{H H' H1:Hp}{hd hd' h1 h2:Hd}
@[simp] theorem ba{w:Nat}(a b:List D):B6 w (a++b)=(B6 w a&&B6 w b):=by induction a<;>simp_all [B6,Bool.and_assoc]
mutual
def RD.take(w:Nat):∀{d:D} {v:V},RD K ρ H d v->clD w d=true->RD K (ρ.take w) H d v
 |.im i,v,h,_=>by simp only[RD]at h ⊢;exact h
 |.mu n,v,h,c=>by
  simp only[RD]at h ⊢;obtain⟨a,e,q⟩:=h;exact⟨a,by rw[List.getElem?_take_of_lt (by simpa [clD]using c)];exact e,q⟩
 |.tm ds,v,h,c=>by
  simp only[RD]at h ⊢;obtain⟨a,xs,e,q,z⟩:=h;exact⟨a,xs,e,q,RDs.take' w z (by simpa [clD]using c)⟩
 |.ro ns,v,h,c=>by simp only[RD]at h ⊢;exact h
def RDs.take'(w:Nat):∀{d:List D} {v:List V},RDs K ρ H d v->B6 w d=true->RDs K (ρ.take w) H d v
 |[],v,h,_=>by simpa only[RDs]using h
 |d::ds,v,h,c=>by
  simp only[RDs]at h ⊢;obtain⟨x,r',e,q,z⟩:=h;have c:clD w d=true/\B6 w ds=true:=by simpa [B6]using c
  exact⟨x,r',e,q.take w c.1,RDs.take' w z c.2⟩
end
def RKs.take(w:Nat):∀{d:List (Key×D)} {v:List (Key×V)},RKs K ρ H d v->FJ w d=true->RKs K (ρ.take w) H d v
 |[],v,h,_=>by simpa only[RKs]using h
 |d::ds,v,h,c=>by
  simp only[RKs]at h ⊢;obtain⟨x,r',e,q1,q,z⟩:=h;have c:clD w d.2=true/\FJ w ds=true:=by simpa [FJ]using c
  exact⟨x,r',e,q1,q.take w c.1,RKs.take w z c.2⟩
def RC.take(w:Nat){o:MO}{ho:HO}(h:RC K ρ H o ho)(c:clO w o=true):RC K (ρ.take w) H o ho:=by
 cases o with
 |lst ds=>obtain⟨xs,e,q⟩:=h;exact⟨xs,e,q.take' w c⟩
 |dic ds=>obtain⟨xs,e,q⟩:=h;exact⟨xs,e,q.take w c⟩
def RH.take(h:RH K ρ H hd)(w:Nat)(c:(hd.take w).all (clO w)=true):RH K (ρ.take w) H (hd.take w):=by
 refine⟨by simp[h.len],h.nd.sublist (List.take_sublist _ _),h.tabs,λn o a e1 e2=>?_⟩;have co:=all_eq_true.mp c o (mem_of_getElem? e1);have hn:n<w:=by
  have:=(List.getElem?_eq_some_iff.mp e1).1;simp at this;omega
 rw[List.getElem?_take_of_lt hn]at e1 e2;obtain⟨ho,q1,q2⟩:=h.ob n o a e1 e2;exact⟨ho,q1,q2.take w co⟩
def RH.back(R1:RH K ρ1 H1 h1){w:Nat}(hw:w<=h1.length)(c1:(h1.take w).all (clO w)=true)(x:Ext (ρ1.take w) H1 ρ' H')(R':RH K ρ' H' h2)(c:(h2.take w).all (clO w)=true):
 RH K ρ1 H' (h2.take w++h1.drop w)/\Ext ρ1 H1 ρ1 H'/\ρ'.take w=ρ1.take w:=by
 obtain⟨r,rfl,fr⟩:=x.pre;have lw:(ρ1.take w).length=w:=by rw[length_take,R1.len];omega
 have l2:w<=h2.length:=by rw[<- R'.len];simp[lw]
 have tk:(ρ1.take w++r).take w=ρ1.take w:=by rw[List.take_append_of_le_length (by omega),List.take_take];simp
 refine⟨⟨?_,R1.nd,R'.tabs,λn o a e1 e2=>?_⟩,⟨⟨[],by simp,by simp⟩,λb o q nb t=>x.keep b o q (λm=>nb (mem_of_mem_take m)) t,x.tab⟩,tk⟩
 .rw[length_append,length_take,length_drop,R1.len];omega
 .by_cases hn:n<w
  .rw[List.getElem?_append_left (by rw[length_take];omega),List.getElem?_take_of_lt hn]at e1;have e3:(ρ1.take w++r)[n]?=some a:=by
    rw[List.getElem?_append_left (by omega),List.getElem?_take_of_lt hn];exact e2
   obtain⟨ho,q1,q2⟩:=R'.ob n o a e1 e3;have co:=all_eq_true.mp c o (by
    have:(h2.take w)[n]?=some o:=by rw[List.getElem?_take_of_lt hn];exact e1
    exact mem_of_getElem? this)
   have q3:=q2.take w co;rw[tk]at q3;have q4:=q3.mono (Grow.refl (H:=H')) (ρ1.drop w);rw[List.take_append_drop]at q4;exact⟨ho,q1,q4⟩
  .rw[List.getElem?_append_right (by rw[length_take];omega),length_take,List.getElem?_drop]at e1;have e1:h1[n]?=some o:=by
    have:w+(n-min w h2.length)=n:=by omega
    rw[this]at e1;exact e1
   obtain⟨ho,q1,q2⟩:=R1.ob n o a e1 e2;have out:a∉ρ1.take w:=λm=>by
    obtain⟨k,hk⟩:=List.mem_iff_getElem?.mp m;have kw:k<w:=by
     have:=(List.getElem?_eq_some_iff.mp hk).1;rw[lw]at this;exact this
    rw[List.getElem?_take_of_lt kw]at hk;have:=(List.getElem?_inj (List.getElem?_eq_some_iff.mp e2).1 R1.nd).mp (e2.trans hk.symm);omega
   have gr:=x.grow (R1.take w c1);exact⟨ho,x.keep a ho q1 out (λps z=>by rcases R1.mut (mem_of_getElem? e2)with⟨y,w⟩|⟨y,w⟩<;>(rw[q1,z]at w;cases w)),by simpa using q2.mono gr []⟩
def spF(K:PySem.W.Frag)(k:Nat)(F:List D->Hd->Option (D×Hd)):Sp:=λvs H Q _=>vs.length=k/\∃(ρ:List Addr) (hd:Hd) (ds:List D) (d:D) (hd':Hd),RH K ρ H hd/\RDs K ρ H ds vs/\F ds hd=some (d,hd')/\
 ∀ρ' H' v,Ext ρ H ρ' H'->RH K ρ' H' hd'->RD K ρ' H' d v->Q v H'
def mkF(k n:Nat)(m:MS):List D->Hd->Option (D×Hd):=λds hd=>if ds.length=k then(match m (ds.map some++List.replicate (n-k) none) hd with
 |some (.rt d,hd')=>some (d,hd')
 |some (.nx _,hd')=>some (.im .non,hd')
 | _=>none)else none
def LL{N:List Str}:∀{ds:List D} {vs:List V},RDs K ρ H ds vs->RL K ρ H (ds.map some++List.replicate (N.length-ds.length) none) (D6 N vs):=by
 intro ds vs r;have hl:=r.len;refine⟨by simp[D6,hl],λi d e=>?_⟩;unfold D6;by_cases hi:i<ds.length
 .rw[List.getElem?_append_left (by simpa using hi),List.getElem?_map]at e;have e':ds[i]?=some d:=by
   cases q:ds[i]? with
   |none=>rw[q]at e;cases e
   |some z=>rw[q]at e;simpa using e
  obtain⟨x,x1,x2⟩:=r.get e';exact⟨x,by rw[List.getElem?_append_left (by rw[length_map,hl];exact hi),List.getElem?_map,x1];rfl,x2⟩
 .rw[List.getElem?_append_right (by simpa using Nat.not_lt.mp hi),List.getElem?_replicate]at e;split at e<;>cases e
def U0{k:Nat}{N:List Str}{m:MS}{t:TS}(h:RS K t m){vs:List V}{H:Hp}{Q:VK}{E:XK}(s:spF K k (mkF k N.length m) vs H Q E):t { nx:=λ_ H'=>Q .non H',rt:=Q } (D6 N vs) H:=by
 obtain⟨hk,ρ,hd,ds,d,hd',hR,hr,hF,hQ⟩:=s;unfold mkF at hF;split at hF
 .next hl=>
  subst hl;split at hF
  .next q=>
   cases hF;exact h ρ _ H hd _ _ _ _ hR (LL hr) q λρ' H' x R v r=>hQ ρ' H' v x R r
  .next q=>
   cases hF;exact h ρ _ H hd _ _ _ _ hR (LL hr) q λρ' H' x R σ L=>hQ ρ' H' .non x R (by simp[RD,RI])
  .cases hF
 .cases hF
def Ak(F:List D->Hd->Option (D×Hd))(ma:MA):ME:=λls hd=>(ma ls hd).bind λp=>F p.1 p.2
def Rm{k:Nat}{F:List D->Hd->Option (D×Hd)}{t:TA}{m:MA}(h:RA K t m)(hk:∀ds hd z,F ds hd=some z->ds.length=k):RE K (F5 (spF K k F) [] E0 t) (Ak F m):=by
 and_intros;obtain⟨⟨d1,h1⟩,e1,hm⟩:=dF hm;refine h ρ σ H hd ls _ d1 h1 hR hL e1 λρ1 H1 v1 x1 R1 r1=>?_;rw[append_nil];exact⟨by rw[r1.len];exact hk _ _ _ hm,ρ1,h1,d1,d,hd',R1,r1,hm,λρ' H' w x2 R2 r2=>hQ ρ' H' w (x1.trans R1 x2) R2 r2⟩
def Vo{k n:Nat}{m:MS}:∀ds hd z,mkF k n m ds hd=some z->ds.length=k:=λds hd z h=>by
 unfold mkF at h;split at h
 .next e=>exact e
 .cases h
def fin(w:Nat)(d:D)(h2 rest:Hd):Option (D×Hd):=if(h2.take w).all (clO w)=true then(match d with
 | .mu k=>if k<w then some (.mu k,h2.take w++rest)else(match h2[k]? with
  |some (.lst ds)=>if B6 w ds=true then some (.mu (w+rest.length),h2.take w++rest++[.lst ds])else none
  | _=>none)
 | d=>if clD w d=true then some (d,h2.take w++rest)else none)else none
def AA(w:Nat)(F:List D->Hd->Option (D×Hd))(ma:MA):ME:=λls hd=>(ma ls hd).bind λp=>
 if w<=p.2.length/\B6 w p.1=true/\(p.2.take w).all (clO w)=true then(F p.1 (p.2.take w)).bind λr=>fin w r.1 r.2 (p.2.drop w)else none
def Rl{w k:Nat}{F:List D->Hd->Option (D×Hd)}{t:TA}{m:MA}(h:RA K t m)(hk:∀ds hd z,F ds hd=some z->ds.length=k):RE K (F5 (spF K k F) [] E0 t) (AA w F m):=by
 and_intros;obtain⟨⟨d1,h1⟩,e1,hm⟩:=dF hm;dsimp only at hm;split at hm
 .next c=>
  obtain⟨c0,c1,c2⟩:=c;obtain⟨⟨d2,h2⟩,e2,hm⟩:=dF hm;refine h ρ σ H hd ls _ d1 h1 hR hL e1 λρ1 H1 v1 x1 R1 r1=>?_;rw[append_nil];refine⟨by rw[r1.len];exact hk _ _ _ e2,ρ1.take w,h1.take w,d1,d2,h2,R1.take w c2,r1.take' w c1,e2,λρ' H' v x2 R2 r2=>?_⟩;unfold fin at hm;dsimp only at hm;split at hm
  .next c3=>
   obtain⟨R3,x3,tk⟩:=R1.back c0 c2 x2 R2 c3;have up:∀{d:D} {v:V},RD K ρ' H' d v->clD w d=true->RD K ρ1 H' d v:=λr c=>by
    have q:=r.take w c;rw[tk]at q;have q:=q.mono (Grow.refl (H:=H')) (ρ1.drop w);rw[List.take_append_drop]at q;exact q
   have ups:∀{d:List D} {v:List V},RDs K ρ' H' d v->B6 w d=true->RDs K ρ1 H' d v:=λr c=>by
    have q:=r.take' w c;rw[tk]at q;have q:=q.mono (Grow.refl (H:=H')) (ρ1.drop w);rw[List.take_append_drop]at q;exact q
   split at hm
   .next k'=>
    split at hm
    .next hk'=>
     cases hm;exact hQ ρ1 H' v (x1.trans R1 x3) R3 (up r2 (by simpa [clD]using hk'))
    .next hk'=>
     split at hm
     .next ds q=>
      split at hm
      .next c4=>
       cases hm;simp only[RD]at r2;obtain⟨a,ea,rfl⟩:=r2;obtain⟨xs,l1,l2⟩:=R2.lst ea q;have len3:=R3.len;have out:a∉ρ1:=λm=>by
        -- a is one of those made behind the first w
        obtain⟨r,er,fr⟩:=x2.pre;have lw:(ρ1.take w).length=w:=by rw[length_take,R1.len];omega
        have ma:a∈r:=by
         rw[er,List.getElem?_append_right (by rw[lw];omega)]at ea;exact mem_of_getElem? ea
        exact R1.out (fr a ma) m
       have na:H1 a=none:=by
        obtain⟨r,er,fr⟩:=x2.pre;have lw:(ρ1.take w).length=w:=by rw[length_take,R1.len];omega
        have ma:a∈r:=by
         rw[er,List.getElem?_append_right (by rw[lw];omega)]at ea;exact mem_of_getElem? ea
        exact fr a ma
       refine hQ (ρ1++[a]) H' _ (x1.trans R1 (x3.name na)) (R3.name out l1 (ups l2 c4)) ?_;simp only[RD];refine⟨a,?_,rfl⟩;have:w+(List.drop w h1).length=ρ1.length:=by rw[length_drop,R1.len];omega
       rw[this];simp
      .cases hm
     .cases hm
   .next d' nd=>
    split at hm
    .next c4=>cases hm;exact hQ ρ1 H' v (x1.trans R1 x3) R3 (up r2 c4)
    .cases hm
  .cases hm
 .cases hm
def B1(kvs:List (Key×D))(k:Key):Option D:=(kvs.find? λkv=>decide (kv.1=k)).map (·.2)
def Bm(kvs:List (Key×D))(k:Key)(v:D):List (Key×D):=
 if(kvs.any λkv=>decide (kv.1=k))=true then kvs.map (λkv=>if kv.1=k then(kv.1,v)else kv)else kvs++[(k,v)]
def RKs.val:∀{kvs:List (Key×D)} {xs:List (Key×V)} {k:Key} {d:D},RKs K ρ H kvs xs->B1 kvs k=some d->∃v,DW xs k=some v/\RD K ρ H d v
 |[],xs,k,d,h,e=>by simp[B1]at e
 |p::kvs,xs,k,d,h,e=>by
  simp only[RKs]at h;obtain⟨x,r,rfl,e1,r1,r2⟩:=h;by_cases hk:p.1=k
  .rw[En (e1.trans hk)];simp[B1,find?_cons,hk]at e;subst e;exact⟨_,rfl,r1⟩
  .rw[Eo (by rw[e1];exact hk)];simp only[B1,find?_cons,hk,decide_false]at e;exact RKs.val r2 e
def RKs.valN:∀{kvs:List (Key×D)} {xs:List (Key×V)} {k:Key},RKs K ρ H kvs xs->(DW xs k).isSome=(B1 kvs k).isSome
 |[],xs,k,h=>by simp only[RKs]at h;subst h;rfl
 |p::kvs,xs,k,h=>by
  simp only[RKs]at h;obtain⟨x,r,rfl,e1,r1,r2⟩:=h;by_cases hk:p.1=k
  .rw[En (e1.trans hk)];simp[B1,find?_cons,hk]
  .rw[Eo (by rw[e1];exact hk)];simp only[B1,find?_cons,hk,decide_false];exact RKs.valN r2
def RKs.any:∀{kvs:List (Key×D)} {xs:List (Key×V)} {k:Key},RKs K ρ H kvs xs->(xs.any λkv=>decide (kv.1=k))=(kvs.any λkv=>decide (kv.1=k))
 |[],xs,k,h=>by simp only[RKs]at h;subst h;rfl
 |p::kvs,xs,k,h=>by
  simp only[RKs]at h;obtain⟨x,r,rfl,e1,r1,r2⟩:=h;simp only[any_cons,e1,RKs.any r2]
def RKs.upd:∀{kvs:List (Key×D)} {xs:List (Key×V)} {k:Key} {d:D} {v:V},RKs K ρ H kvs xs->RD K ρ H d v->RKs K ρ H (kvs.map (λkv=>if kv.1=k then(kv.1,d)else kv)) (xs.map (λkv=>if kv.1=k then(kv.1,v)else kv))
 |[],xs,k,d,v,h,_=>by simp only[RKs]at h;subst h;simp[RKs]
 |p::kvs,xs,k,d,v,h,q=>by
  simp only[RKs]at h;obtain⟨x,r,rfl,e1,r1,r2⟩:=h;simp only[map_cons,RKs];refine⟨_,_,rfl,?_,?_,RKs.upd r2 q⟩
  .rw[e1];split<;>simp[e1]
  .rw[e1];split
   .exact q
   .exact r1
def RKs.app:∀{kvs ks:List (Key×D)} {xs ys:List (Key×V)},RKs K ρ H kvs xs->RKs K ρ H ks ys->RKs K ρ H (kvs++ks) (xs++ys)
 |[],ks,xs,ys,h,t=>by simp only[RKs]at h;subst h;simpa using t
 |d::ds,ks,xs,ys,h,t=>by
  simp only[RKs]at h;obtain⟨x,r,rfl,e,z,q⟩:=h;simp only[cons_append,RKs];exact⟨_,_,rfl,e,z,q.app t⟩
def RKs.put{kvs:List (Key×D)}{xs:List (Key×V)}{k:Key}{d:D}{v:V}(h:RKs K ρ H kvs xs)(q:RD K ρ H d v):RKs K ρ H (Bm kvs k d) (CJ xs k v):=by
 unfold Bm CJ;rw[h.any];split
 .exact h.upd q
 .exact h.app (by simp only[RKs];exact⟨_,_,rfl,rfl,q,rfl⟩)
def Ch:D->Option Key
 |.im (.int i)=>some (.inl i)
 |.im (.str x)=>some (.inr x)
 |_=>none
def HL{d:D}{v:V}{k:Key}(h:RD K ρ H d v)(e:Ch d=some k):v=kV k:=by
 cases d with
 |im i=>
  cases i with
  |int i=>simp only[Ch,Option.some.injEq]at e;subst e;simp only[RD,RI]at h;exact h
  |str i=>simp only[Ch,Option.some.injEq]at e;subst e;simp only[RD,RI]at h;exact h
  |_=>simp[Ch]at e
 |_=>simp[Ch]at e
def BV(hd:Hd):D->Option (List (Key×D))
 |.mu n=>match hd[n]? with
  |some (.dic kvs)=>some kvs
  |_=>none
 |_=>none
def RD.dic{d:D}{v:V}{kvs:List (Key×D)}(hR:RH K ρ H hd)(h:RD K ρ H d v)(e:BV hd d=some kvs):∃n a xs,d=.mu n/\v=.ref a/\ρ[n]?=some a/\H a=some (.dK xs)/\RKs K ρ H kvs xs:=by
 cases d with
 |mu n=>
  simp only[BV]at e;simp only[RD]at h;obtain⟨a,hn,rfl⟩:=h;split at e
  .next q=>
   cases e;obtain⟨xs,e1,e2⟩:=hR.dic hn q;exact⟨n,a,xs,rfl,rfl,hn,e1,e2⟩
  .cases e
 |_=>simp[BV]at e
def BY:D->D->Hd->Option (D×Hd):=λd e hd=>(BV hd d).bind λkvs=>(Ch e).bind λk=>(B1 kvs k).map (·,hd)
def UY{td ty:TE}{md my:ME}(hd:RE K td md)(hy:RE K ty my):RE K (Nb td ty) (mOp BY md my):=by
 intro ρ σ H hd0 ls Q d hd' hR hL hm hQ;obtain⟨⟨d1,h1⟩,e1,hm⟩:=dF hm;obtain⟨⟨d2,h2⟩,e2,hm⟩:=dF hm;obtain⟨kvs,e3,hm⟩:=dF hm;obtain⟨k,e4,hm⟩:=dF hm;obtain⟨w,e5,e6⟩:=dG hm;cases e6;refine hd ρ σ H hd0 ls _ d1 h1 hR hL e1 λρ1 H1 v1 x1 R1 r1=>?_;refine hy ρ1 σ H1 h1 ls _ d2 _ R1 (hL.ext hR x1) e2 λρ2 H2 v2 x2 R2 r2=>?_;obtain⟨n,a,xs,rfl,rfl,hn,l1,l2⟩:=RD.dic R2 (r1.ext R1 x2) e3;have:=HL r2 e4;subst this;obtain⟨v,v1,v2⟩:=l2.val e5;exact⟨a,v,rfl,v1 ▸ DGet.k l1,hQ ρ2 H2 v (x1.trans R1 x2) R2 v2⟩
open Classical in
def C5(md my mv:ME):MS:=λls hd=>(mv ls hd).bind λp=>(md ls p.2).bind λq=>(my ls q.2).bind λr=>(Ch r.1).bind λk=>match q.1 with
 |.mu n=>match r.2[n]? with
  |some (.dic kvs)=>if D9 kvs.length then some (.nx ls,r.2.set n (.dic (Bm kvs k p.1)))else none
  |_=>none
 |_=>none
def UH{td ty tv:TE}{md my mv:ME}(hd:RE K td md)(hy:RE K ty my)(hv:RE K tv mv):RS K (Nl td ty tv) (C5 md my mv):=by
 intro ρ σ H hd0 ls E f hd' hR hL hm hQ;obtain⟨⟨d1,h1⟩,e1,hm⟩:=dF hm;obtain⟨⟨d2,h2⟩,e2,hm⟩:=dF hm;obtain⟨⟨d3,h3⟩,e3,hm⟩:=dF hm;obtain⟨k,e4,hm⟩:=dF hm;dsimp only at hm;split at hm
 .split at hm
  .next q=>
   split at hm
   .next c=>
    cases hm;refine hv ρ σ H hd0 ls _ d1 h1 hR hL e1 λρ1 H1 v1 x1 R1 r1=>?_;refine hd ρ1 σ H1 h1 ls _ _ h2 R1 (hL.ext hR x1) e2 λρ2 H2 v2 x2 R2 r2=>?_;refine hy ρ2 σ H2 h2 ls _ d3 _ R2 (hL.ext hR (x1.trans R1 x2)) e3 λρ3 H3 v3 x3 R3 r3=>?_;have r2:=r2.ext R2 x3;simp only[RD]at r2;obtain⟨a,hn,rfl⟩:=r2;obtain⟨xs,l1,l2⟩:=R3.dic hn q;have:=HL r3 e4;subst this;obtain⟨R4,x4⟩:=R3.put hn (o:=.dic (Bm _ k d1)) (ho:=.dK (CJ xs k v1)) ⟨_,rfl,l2.put ((r1.ext R1 x2).ext R2 x3)⟩;have x13:=(x1.trans R1 x2).trans R2 x3;exact⟨a,_,rfl,DPut.k l1 (by rw[l2.len];exact c),hQ ρ3 _ (x13.trans R3 x4) R4 σ ((hL.ext hR x13).ext R3 x4)⟩
   .cases hm
  .cases hm
 .cases hm
def EF:List (ME×ME)->Ls->Hd->Option (List (Key×D)×Hd)
 |[],_,hd=>some ([],hd)
 |(mk,mv)::r,ls,hd=>(mk ls hd).bind λp=>(mv ls p.2).bind λq=>(EF r ls q.2).bind λz=>(Ch p.1).map λk=>((k,q.1)::z.1,z.2)
def FU(kvs more:List (Key×D)):List (Key×D):=more.foldl (λacc kv=>Bm acc kv.1 kv.2) kvs
def RKs.merge:∀{more kvs:List (Key×D)} {ms xs:List (Key×V)},RKs K ρ H more ms->RKs K ρ H kvs xs->RKs K ρ H (FU kvs more) (EE xs ms)
 |[],kvs,ms,xs,h,t=>by simp only[RKs]at h;subst h;exact t
 |d::ds,kvs,ms,xs,h,t=>by
  simp only[RKs]at h;obtain⟨x,r,rfl,e,z,q⟩:=h;show RKs K ρ H (FU (Bm kvs d.1 d.2) ds) (EE (CJ xs x.1 x.2) r);rw[e];exact q.merge (t.put z)
def RPs(K:PySem.W.Frag):List (TE×TE)->List (ME×ME)->Prop
 |[],[]=>True
 |t::ts,m::ms=>RE K t.1 m.1/\RE K t.2 m.2/\RPs K ts ms
 |_,_=>False
def LX:∀{trs:List (TE×TE)} {ms:List (ME×ME)},RPs K trs ms->∀(ρ:List Addr) (σ:St) (H:Hp) (hd:Hd) (ls:Ls) (Q:List (V×V)->Hp->Prop) (kvs:List (Key×D)) (hd':Hd),RH K ρ H hd->RL K ρ H ls σ->EF ms ls hd=some (kvs,hd') ->
 (∀ρ' H' xs,Ext ρ H ρ' H'->RH K ρ' H' hd'->RKs K ρ' H' kvs xs->Q (xs.map λkv=>(kV kv.1,kv.2)) H')->GP trs σ H Q
 |[],[],_,ρ,σ,H,hd,ls,Q,kvs,hd',hR,hL,hm,hQ=>by
  cases hm;exact hQ ρ H [] .refl hR (by simp[RKs])
 |(tk,tv)::ts,(mk,mv)::ms,⟨a,b,c⟩,ρ,σ,H,hd,ls,Q,kvs,hd',hR,hL,hm,hQ=>by
   unfold EF at hm;obtain⟨⟨d1,h1⟩,e1,hm⟩:=dF hm;obtain⟨⟨d2,h2⟩,e2,hm⟩:=dF hm;obtain⟨⟨d3,h3⟩,e3,hm⟩:=dF hm;obtain⟨k,e4,e5⟩:=dG hm;cases e5;unfold GP;refine a ρ σ H hd ls _ d1 h1 hR hL e1 λρ1 H1 v1 x1 R1 r1=>?_;refine b ρ1 σ H1 h1 ls _ d2 h2 R1 (hL.ext hR x1) e2 λρ2 H2 v2 x2 R2 r2=>?_;refine LX c ρ2 σ H2 h2 ls _ d3 _ R2 (hL.ext hR (x1.trans R1 x2)) e3 λρ3 H3 xs x3 R3 r3=>?_;have:=HL r1 e4;subst this;exact hQ ρ3 H3 ((k,v2)::xs) ((x1.trans R1 x2).trans R2 x3) R3 (by simp only[RKs];exact⟨_,_,rfl,rfl,r2.ext R2 x3,r3⟩)
 |[],_::_,h,_,_,_,_,_,_,_,_,_,_,_,_=>h.elim
 |_::_,[],h,_,_,_,_,_,_,_,_,_,_,_,_=>h.elim
def Ij(ms:List (ME×ME)):ME:=λls hd=>(EF ms ls hd).bind λp=>if p.1.length<=15 then some (.mu p.2.length,p.2++[.dic (FU [] p.1)])else none
def RH.nameD(hR:RH K ρ H hd){a:Addr}{xs:List (Key×V)}{kvs:List (Key×D)}(out:a∉ρ){o:HO}(e:H a=some o)(ht:∀ys,o≠.tup ys)(hf:∀x u,o≠.frz x u)(r:RKs K ρ H kvs xs)(h1:∀ps,o≠.tbl ps:=by intro _ z;cases z)(h2:∀φ,o≠.ext φ:=by intro _ z;cases z):RH K (ρ++[a]) (upd H a (.dK xs)) (hd++[.dic kvs]):=by
 have gr:Grow H (upd H a (.dK xs)):=Grow.refl.put ⟨λys z=>ht ys (by rw[e]at z;exact Option.some.inj z),λx u z=>hf x u (by rw[e]at z;exact Option.some.inj z)⟩;refine⟨by simp[hR.len],?_,hR.tabs.upd (λps z=>h1 ps (Option.some.inj (e.symm.trans z))) (λps z=>h2 ps (Option.some.inj (e.symm.trans z))),λn o' b e1 e2=>?_⟩
 .rw[List.nodup_append];refine⟨hR.nd,by simp,λx hx y hy z=>?_⟩;simp at hy;subst hy;subst z;exact out hx
 .by_cases hn:n<ρ.length
  .rw[List.getElem?_append_left hn]at e2;rw[List.getElem?_append_left (by rw[<- hR.len];exact hn)]at e1;obtain⟨ho',q1,q2⟩:=hR.ob n o' b e1 e2;have:b≠a:=λz=>out (by rw[<- z];exact mem_of_getElem? e2);exact⟨ho',by rw[AW this];exact q1,q2.mono gr [a]⟩
  .have hn':n=ρ.length:=by
    have:=(List.getElem?_eq_some_iff.mp e2).1;simp at this;omega
   subst hn';simp at e2;rw[hR.len]at e1;simp at e1;subst e1;subst e2;exact⟨_,Ad,⟨xs,rfl,r.mono gr [_]⟩⟩
def UX{trs:List (TE×TE)}{ms:List (ME×ME)}(h:RPs K trs ms):RE K (Na trs) (Ij ms):=by
 and_intros;obtain⟨⟨kvs,h1⟩,e1,hm⟩:=dF hm;dsimp only at hm;split at hm
 .next c=>
  cases hm;intro p hp;obtain⟨R0,x0⟩:=hR.hid (ho:=.dK []) hp;refine LX h ρ σ _ hd ls _ kvs h1 R0 (hL.ext hR x0) e1 λρ1 H1 xs x1 R1 r1=>?_;have hp1:H1 p=some (.dK []):=x1.keep p _ Ad (hR.out hp) nt;have op:p∉ρ1:=by
   obtain⟨r,rfl,fr⟩:=x1.pre;intro z;rcases mem_append.mp z with z|z
   .exact hR.out hp z
   .have:=fr _ z;rw[Ad]at this;cases this
  refine⟨hp1,xs,rfl,by rw[r1.len];exact c,?_⟩;have mm:RKs K ρ1 H1 (FU [] kvs) (EE [] xs):=r1.merge (by simp[RKs]);have R2:=R1.nameD op hp1 (λ_ z=>by cases z) (λ_ _ z=>by cases z) mm;have x01:=x0.trans R0 x1;refine hQ (ρ1++[p]) _ _ ?_ R2 ?_
  .obtain⟨r,er,fr⟩:=x01.pre;refine⟨⟨r++[p],by rw[er];simp,λb m=>?_⟩,λb o q nb t=>?_,λb ps q=>?_⟩
   .rcases mem_append.mp m with m|m
    .exact fr b m
    .simp at m;subst m;exact hp
   .have:b≠p:=Am q hp;rw[AW this];exact x01.keep b o q nb t
   .have:b≠p:=Am q hp;rw[AW this];exact x01.tab b ps q
  .simp only[RD];exact⟨p,by rw[<- R1.len];simp,rfl⟩
 .cases hm
def Dj(mo mi mv:ME):MS:=λls hd=>(mv ls hd).bind λp=>(mo ls p.2).bind λq=>(mi ls q.2).bind λr=>match q.1,r.1 with
 |.mu n,.im (.int i)=>match r.2[n]? with
  |some (.lst ds)=>(ixN ds.length i).map λj=>(.nx ls,r.2.set n (.lst (ds.set j p.1)))
  |_=>none
 |_,_=>none
def UE{to ti tv:TE}{mo mi mv:ME}(ho:RE K to mo)(hi:RE K ti mi)(hv:RE K tv mv):RS K (DZ tv (SY to ti IZ)) (Dj mo mi mv):=by
 intro ρ σ H hd0 ls E f hd' hR hL hm hQ;obtain⟨⟨d1,h1⟩,e1,hm⟩:=dF hm;obtain⟨⟨d2,h2⟩,e2,hm⟩:=dF hm;obtain⟨⟨d3,h3⟩,e3,hm⟩:=dF hm;dsimp only at hm;split at hm
 .split at hm
  .next q=>
   obtain⟨j,e4,e5⟩:=dG hm;cases e5;refine hv ρ σ H hd0 ls _ d1 h1 hR hL e1 λρ1 H1 v1 x1 R1 r1=>?_;refine ho ρ1 σ H1 h1 ls _ _ h2 R1 (hL.ext hR x1) e2 λρ2 H2 v2 x2 R2 r2=>?_;refine hi ρ2 σ H2 h2 ls _ _ _ R2 (hL.ext hR (x1.trans R1 x2)) e3 λρ3 H3 v3 x3 R3 r3=>?_;have r2:=r2.ext R2 x3;simp only[RD]at r2;obtain⟨a,hn,rfl⟩:=r2;simp only[RD,RI]at r3;subst r3;obtain⟨xs,l1,l2⟩:=R3.lst hn q;obtain⟨R4,x4⟩:=R3.put hn (o:=.lst _) (ho:=.lst (xs.set j v1)) ⟨_,rfl,l2.set j ((r1.ext R1 x2).ext R2 x3)⟩;have x13:=(x1.trans R1 x2).trans R2 x3;exact⟨a,xs,_,j,rfl,rfl,l1,by rw[l2.len];exact e4,hQ ρ3 _ (x13.trans R3 x4) R4 σ ((hL.ext hR x13).ext R3 x4)⟩
  .cases hm
 .cases hm
end
end L2
namespace L2
open PySem PySem.Spec PyProof.Rows
structure QG(K:PySem.W.Frag)(X:Cx)(e:Expr)(t:TG)(m:MG):Prop where
 p:PG X e t
 r:RGt K t m
structure QGs(K:PySem.W.Frag)(X:Cx)(e:List Expr)(t:TGs)(m:MGs):Prop where
 p:PGs X e t
 r:MF K t m
structure QI(K:PySem.W.Frag)(X:Cx)(tg e:Expr)(t:TI)(m:MI):Prop where
 p:PI X tg e t
 r:RIt K t m
structure QF(K:PySem.W.Frag)(X:Cx)(e:List Expr)(t:TT)(m:MT):Prop where
 p:PF X e t
 r:RT K t m
structure QO(K:PySem.W.Frag)(X:Cx)(e:Option Expr)(t:TO)(m:MO1):Prop where
 p:PO X e t
 r:RO1 K t m
structure QPs(K:PySem.W.Frag)(X:Cx)(pos:Pos)(keys:List (Option Expr))(values:List Expr)(t:List (TE×TE))(m:List (ME×ME)):Prop where
 p:PPs X pos keys values t
 r:RPs K t m
def ap(a b:List D):Prop:=a≠[]/\Be (a.length+b.length)
open Classical in
def EW:D->D->Hd->Option (D×Hd):=λd e hd=>(AN d).bind λa=>(AN e).bind λb=>if ap a b then some (AK (a++b),hd)else none
def Mp{K:PySem.W.Frag}:RB K (Nz K) EW:=by
 intro ρ H hd d e v u Q z hd' hR h1 h2 hf hQ;unfold EW at hf;obtain⟨a,e1,hf⟩:=dF hf;obtain⟨b,e2,hf⟩:=dF hf;split at hf
 .next c=>
  cases hf;obtain⟨p,xs,rfl,q1,r1⟩:=h1.tup e1;obtain⟨p2,ys,rfl,q2,r2⟩:=h2.tup e2;have l1:=r1.len;have l2:=r2.len;refine⟨p,p2,xs,ys,rfl,rfl,q1,q2,λz=>c.1 (by rw[z]at l1;simpa using l1.symm),by rw[l1,l2];exact c.2,λz=>?_,λ_ p3 hp=>?_⟩
  .have:b=[]:=by rw[z]at l2;simpa using l2.symm
   subst this;exact hQ ρ H _ .refl hR (by rw[append_nil];exact Ba q1 r1)
  .obtain⟨R2,x2⟩:=hR.hid (ho:=.tup (xs++ys)) hp;exact hQ ρ _ _ x2 R2 (Ba (SqT.of Ad) ((r1.app r2).ext hR x2))
 .cases hf
abbrev AE:=CK JX EW
def bL(neg:Bool)(m:ME):ME:=λls hd=>(m ls hd).bind λp=>some (.im (.bl (match p.1 with
 |.im .non=>!neg
 | _=>neg)),p.2)
def C7(m:ME):ME:=λls hd=>(m ls hd).bind λp=>match p.1 with
 |.im (.int i)=>some (.im (.int (-i)),p.2)
 |_=>none
def XS{K:PySem.W.Frag}{t:TE}{m:ME}(h:RE K t m):RE K (tUn (rU λi=>.int (-i)) t) (C7 m):=by
 and_intros;obtain⟨⟨d1,h1⟩,e1,hm⟩:=dF hm;dsimp only at hm;split at hm
 .cases hm;exact h ρ σ H hd ls _ _ _ hR hL e1 λρ1 H1 v x1 R1 r1=>⟨_,by simpa only[RD,RI]using r1,hQ ρ1 H1 _ x1 R1 (by simp[RD,RI])⟩
 .cases hm
def Bc:MT:=λ_ hd=>some (true,hd)
def Wy{K:PySem.W.Frag}:RT K Qt Bc:=by
 and_intros;cases hm;exact hQ ρ H .refl hR
section
variable(K:PySem.W.Frag){X:Cx}{a b c e:Expr}{es:List Expr}{ta tb tc te:TE}{ma mb mc me:ME}{tA tB':TT}{nA nB:MT}{t:TA}{m:MA}{pos:Pos}{x:Str}
def qv(i:Nat){x:Str}{pos:Pos}(hN:X.N[i]?=some x:=by rfl)(hv:Vis X.env.scope x:=by first|exact Or.inl rfl|exact Or.inr (Or.inl rfl)|exact Or.inr (Or.inr rfl))(hd:(x==("__debug__":Str))=false:=by decide)
 (hcd:(x==("__classdict__":Str))=false:=by decide):QE K X (.Name x pos) (Qu i) (A2 i):=⟨YY hN hv hd hcd,XJ⟩
def YG{i:Int}{j pos}:QE K X (.Constant (.int i) j pos) (tC (.int i)) (mC (.int i)):=⟨Yi,No λ_=>by simp[RI]⟩
def aI{i:Bool}{j pos}:QE K X (.Constant (.bool i) j pos) (tC (.bl i)) (mC (.bl i)):=⟨aO,No λ_=>by simp[RI]⟩
def YC{j pos}:QE K X (.Constant .none j pos) (tC .non) (mC .non):=⟨Ye,No λ_=>by simp[RI]⟩
def Y5{x:Str}{j pos}:QE K X (.Constant (.str x) j pos) (tC (.str x)) (mC (.str x)):=⟨Yb,No λ_=>by simp[RI]⟩
def F7{op:Operator}{r:R2}{f:D->D->Hd->Option (D×Hd)}(ho:OpR X (binaryOp op) r)(hr:RB K r f)(ha:QE K X a ta ma)(hb:QE K X b tb mb):QE K X (.BinOp a op b pos) (tOp r ta tb) (mOp f ma mb):=⟨TF ho ha.p hb.p,KO hr ha.r hb.r⟩
def YE(ha:QE K X a ta ma):QE K X (.UnaryOp .USub a pos) (tUn (rU λi=>.int (-i)) ta) (C7 ma):=⟨aM Wd ha.p,XS ha.r⟩
def GW{op:CmpOp}{r:R2}{f:D->D->Hd->Option (D×Hd)}(ho:OpR X (compareOp op) r)(hr:RB K r f)(ha:QE K X a ta ma)(hb:QE K X b tb mb)(hm:behindInMarks op b=false:=by first|exact FS _|rfl):QE K X (.Compare a [op] [b] pos) (tOp r ta tb) (mOp f ma mb):=⟨My ho ha.p hb.p hm,KO hr ha.r hb.r⟩
def Ev{op:CmpOp}{r:R2}{f:D->D->Hd->Option (D×Hd)}(ho:OpR X (compareOp op) r)(hr:RB K r f)(ha:QE K X a ta ma)(hb:QE K X b tb mb)(hm:behindInMarks op b=false:=by first|exact FS _|rfl):QT K X (.Compare a [op] [b] pos) (HB (tOp r ta tb)) (AR (mOp f ma mb)):=⟨HH ho ha.p hb.p hm,Ee (KO hr ha.r hb.r)⟩
def Rt(ha:QE K X a ta ma)(he:∀whole,isTrue a X.env whole=(do let v <- whole;standAt a.pos;holding [v] (truthy v)):=by intro _;rfl)(hK:X.K=K:=by rfl):
 QT K X a (λσ H Q=>ta σ H λx H'=>∃k,MC K x H' k/\Q k H') (Bg ma):=by
 subst hK;exact⟨S8 ha.p he,RY ha.r⟩
def Xj(ha:QT K X a tA nA):QT K X (.UnaryOp .Not a pos) (Qz tA) (Dx nA):=⟨YL ha.p,Wz ha.r⟩
def Uf(ha:QT K X a tA nA):QW K X (.BoolOp .And [a] pos) tA nA:=⟨VA ha.p,ha.r⟩
def Xh(ha:QT K X a tA nA):QW K X (.BoolOp .Or [a] pos) tA nA:=⟨YJ ha.p,ha.r⟩
def Xi{rest:List Expr}(ha:QT K X a tA nA)(hb:QW K X (.BoolOp .And (b::rest) pos) tB' nB):QW K X (.BoolOp .And (a::b::rest) pos) (RP tA tB') (EQ nA nB):=⟨YK ha.p hb.p,X0 ha.r hb.r⟩
def aD{rest:List Expr}(ha:QT K X a tA nA)(hb:QW K X (.BoolOp .Or (b::rest) pos) tB' nB):QW K X (.BoolOp .Or (a::b::rest) pos) (tOr tA tB') (mOr nA nB):=⟨aJ ha.p hb.p,Zz ha.r hb.r⟩
def QW.toT{K:PySem.W.Frag}{X:Cx}{e:Expr}{t:TT}{m:MT}(h:QW K X e t m):QT K X e t m:=⟨h.p.pt,h.r⟩
def YA{op}(ha:QE K X a ta ma):QE K X (.BoolOp op [a] pos) ta ma:=⟨Yc ha.p,ha.r⟩
def YH{rest:List Expr}(ha:QE K X a ta ma)(hb:QE K X (.BoolOp .And (b::rest) pos) tb mb):QE K X (.BoolOp .And (a::b::rest) pos) (Nd ta tb) (Cb ma mb):=⟨Yk ha.p hb.p,UZ ha.r hb.r⟩
def YB(ha:QE K X a ta ma):QE K X (.UnaryOp .Not a pos) (NY ta) (EU ma):=⟨Yd ha.p,UU ha.r⟩
def S3(hc:QT K X c tA nA)(ha:QE K X a ta ma)(hb:QE K X b tb mb):QE K X (.IfExp c a b pos) (tIf tA ta tb) (mIf nA ma mb):=⟨SG hc.p ha.p hb.p,aA hc.r ha.r hb.r⟩
def YI:QA K X [] Cp A5:=⟨EC,Xd⟩
def V9(ha:QE K X e te me)(hr:QA K X es t m)(hs:starEach (e::es) X.env=(false,eval e X.env)::starEach es X.env:=by rfl):QA K X (e::es) (Bs te t) (A1 me m):=⟨Ck ha.p hr.p hs,Ue ha.r hr.r⟩
def Y4{x1}(h:QA K X es t m):QE K X (.Tuple es x1 pos) (Qv t) (AI m):=⟨YZ h.p,XN h.r⟩
def Xr(h:QA K X es t m):QN K X (.List es pos) (R8 t) (AV m):=⟨Yg h.p,XA h.r⟩
def YD(h:QN K X e te m):QE K X e te (AO m):=⟨h.p,P9 h.r⟩
def aG(ha:QE K X a ta ma)(hb:QE K X b tb mb)(hs:Jh b:=by exact λ_ _=>rfl)(hK:X.K=K:=by rfl):QE K X (.Subscript a b pos) (tOp (KP K) ta tb) (mOp gIx ma mb):=⟨TH ((Le K hK).or (N6 K hK)) ha.p hb.p hs,KO aB ha.r hb.r⟩
def V8(hu:X.A.units+1<cLine)(ha:QE K X a ta ma)(hb:QE K X b tb mb)(hs:Sq b:=by exact λ_ _=>rfl):QE K X (.Subscript a b pos) (Nb ta tb) (mOp BY ma mb):=⟨VY hu ha.p hb.p hs,UY ha.r hb.r⟩
def Uv:QO K X none JE AJ:=⟨VM,UJ⟩
def Uu(h:QE K X e te me):QO K X (some e) (NW te) (AQ me):=⟨VL h.p,UI h.r⟩
def Y7{lo hi:Option Expr}{tl th:TO}{ml mh:MO1}{p2:Pos}(h:QE K X e te me)(hl:QO K X lo tl ml)(hh:QO K X hi th mh)(hK:X.K=K:=by rfl):QE K X (.Subscript e (.Slice lo hi none p2) pos) (tSl (LQ K) te tl th) (Bh me ml mh):=⟨Fv (U2 K hK) h.p hl.p hh.p,XO h.r hl.r hh.r⟩
def Xq{lo hi:Option Expr}{tl th:TO}{ml mh:MO1}{p2:Pos}(h:QE K X e te me)(hl:QO K X lo tl ml)(hh:QO K X hi th mh)(hK:X.K=K:=by rfl):QN K X (.Subscript e (.Slice lo hi none p2) pos) (tSl (Nw K) te tl th) (Gc me ml mh):=⟨Fv (RW K hK) h.p hl.p hh.p,X9 h.r hl.r hh.r⟩
def HE{id:String}{p:Pos}{r:List V->Hp->VK->Prop}{f:List D->Hd->Option (D×Hd)}(hc:CallR X (.builtin id) r)(hr:RF K r f)(hm:X.mg x=none)(hv:bootBuiltins x=some (.builtin id))(ha:QA K X (e::es) t m)(hg:Gl X x:=by rfl)(hn:x≠"__name__":=by decide)(hdb:(x==("__debug__":Str))=false:=by decide)
 (he:starEach (e::es) X.env=(false,eval e X.env)::starEach es X.env:=by rfl) (hpl:(backTo pos (starEach es X.env)).any (·.1)=false:=by rfl):QE K X (.Call (.Name x p) (e::es) [] pos) (tCB r t) (mCB f m):=⟨Ht hc hg hm hv ha.p hn hdb he hpl,T5 hr ha.r⟩
def O2{id:String}{p:Pos}{r:List V->Hp->VK->Prop}{f:List D->Hd->Option (D×Hd)}(hc:CallR X (.type id) r)(hr:RF K r f)(hm:X.mg x=none)(hv:bootBuiltins x=some (.type id))(ha:QA K X (e::es) t m)(hg:Gl X x:=by rfl)(hn:x≠"__name__":=by decide)(hdb:(x==("__debug__":Str))=false:=by decide)
 (he:starEach (e::es) X.env=(false,eval e X.env)::starEach es X.env:=by rfl) (hpl:(backTo pos (starEach es X.env)).any (·.1)=false:=by rfl):QE K X (.Call (.Name x p) (e::es) [] pos) (tCB r t) (mCB f m):=⟨DO hc hg hm hv ha.p hn hdb he hpl,T5 hr ha.r⟩
def TD{id:String}{p:Pos}{r:List V->Hp->VK->Prop}{tp:Bool}{g:List D->Option D}(hc:CallR X (.builtin id) r)(hr:RG K tp r g)(hm:X.mg x=none)(hv:bootBuiltins x=some (.builtin id))(ha:QN K X e te m)(hg:Gl X x:=by rfl)(hn:x≠"__name__":=by decide)(hdb:(x==("__debug__":Str))=false:=by decide)
 (he:starEach [e] X.env=[(false,eval e X.env)]:=by rfl):QE K X (.Call (.Name x p) [e] [] pos) (tCB r (Bs te Cp)) (Dk g m):=⟨Ht hc hg hm hv (Ck ha.p EC he) hn hdb he rfl,PC hr ha.r⟩
def aH{id:String}{p:Pos}{r:List V->Hp->VK->Prop}{tp:Bool}{g:List D->Option D}(hc:CallR X (.type id) r)(hr:RG K tp r g)(hm:X.mg x=none)(hv:bootBuiltins x=some (.type id))(ha:QN K X e te m)(hg:Gl X x:=by rfl)(hn:x≠"__name__":=by decide)(hdb:(x==("__debug__":Str))=false:=by decide)
 (he:starEach [e] X.env=[(false,eval e X.env)]:=by rfl):QE K X (.Call (.Name x p) [e] [] pos) (tCB r (Bs te Cp)) (Dk g m):=⟨DO hc hg hm hv (Ck ha.p EC he) hn hdb he rfl,PC hr ha.r⟩
def Uw{p:Pos}(hm:X.mg "list"=none)(ha:QE K X e te me)(hg:Gl X "list":=by rfl)(he:starEach [e] X.env=[(false,eval e X.env)]:=by rfl)(hK:X.K=K:=by rfl):QN K X (.Call (.Name "list" p) [e] [] pos) (tCB (FP K) (Bs te Cp)) (EV me):=⟨DO (Iz K hK) hg hm Jd (Ck ha.p EC he) (by decide) (by decide) he rfl,UL ha.r⟩
def Rz{p:Pos}(hm:X.mg "list"=none)(ha:QN K X e te m)(hg:Gl X "list":=by rfl)(he:starEach [e] X.env=[(false,eval e X.env)]:=by rfl)(hK:X.K=K:=by rfl):QN K X (.Call (.Name "list" p) [e] [] pos) (tCB (FP K) (Bs te Cp)) (FW m):=⟨DO (Iz K hK) hg hm Jd (Ck ha.p EC he) (by decide) (by decide) he rfl,Rc ha.r⟩
def O1{id:String}{r:V->List V->Hp->VK->Prop}{f:D->List D->Hd->Option (D×Hd)}{name:Str}{apos cpos:Pos}{o:Expr}{to:TE}{mo:ME}(slot:Slot "list" name id)(hty:typeOf (.builtin id)=pure (.type "method_descriptor"))(hm:MtM X id r)(hr:RM K r f)(ho:QE K X o to mo)(ha:QA K X (e::es) t m)
 (hbase:attributeBase o name X.env (eval o X.env)=eval o X.env:=by rfl)
 (hfew:((backTo cpos (starEach (e::es) X.env)).all (λx=>!x.1)&&(backToKw cpos (keywordEach [] X.env)).all (λx=>x.1.isSome)
  && decide ((e::es).length+([]:List Keyword).length+(if([]:List Keyword).isEmpty then 0 else 1)<30))=true:=by rfl)
 (hline:(apos.endLine==cpos.line)=true:=by rfl) (hs:starEach (e::es) X.env=(false,eval e X.env)::starEach es X.env:=by rfl) (hplain:(backTo cpos (starEach es X.env)).any (·.1)=false:=by rfl) (hK:X.K=K:=by rfl):
 QE K X (.Call (.Attribute o name apos) (e::es) [] cpos) (tBM K "list" r to t) (mMt f mo m):=by
 subst hK;exact⟨aN PySem.F.plainAttrs_list slot hty hm ho.p ha.p hbase hfew hline hs hplain,a9 hr ho.r ha.r⟩
def S6(w:Nat){j k:Nat}{f:Addr}{fd:FuncData}{ps:List Str}{n:Nat}{F:List D->Hd->Option (D×Hd)}{st:Stmt}{p:Pos}(G:FnOk X.prog X.w X.K X.mg X.base CX0 j f fd ps (spF K n F))(hr:Room k X.A)(DA:DefAt X.K X.mg x st f fd ps)(ha:QA K X (e::es) t m)(hF:∀ds hd z,F ds hd=some z->ds.length=n)
 (hjk:j<=k:=by decide) (hg:Gl X x:=by rfl) (hdb:(x==("__debug__":Str))=false:=by decide) (he:starEach (e::es) X.env=(false,eval e X.env)::starEach es X.env:=by rfl) (hpl:(backTo pos (starEach es X.env)).any (·.1)=false:=by rfl):
 QE K X (.Call (.Name x p) (e::es) [] pos) (F5 (spF K n F) [] E0 t) (AA w F m):=⟨TJ G hr DA ha.p hjk hg hdb he hpl,Rl ha.r hF⟩
def S7{j k:Nat}{f:Addr}{fd:FuncData}{ps:List Str}{n:Nat}{F:List D->Hd->Option (D×Hd)}{st:Stmt}{p:Pos}(G:FnOk X.prog X.w X.K X.mg X.base CX0 j f fd ps (spF K n F))(hr:Room k X.A)(DA:DefAt X.K X.mg x st f fd ps)(ha:QA K X (e::es) t m)(hF:∀ds hd z,F ds hd=some z->ds.length=n)
 (hjk:j<=k:=by decide) (hg:Gl X x:=by rfl) (hdb:(x==("__debug__":Str))=false:=by decide) (he:starEach (e::es) X.env=(false,eval e X.env)::starEach es X.env:=by rfl) (hpl:(backTo pos (starEach es X.env)).any (·.1)=false:=by rfl):
 QE K X (.Call (.Name x p) (e::es) [] pos) (F5 (spF K n F) [] E0 t) (Ak F m):=⟨TJ G hr DA ha.p hjk hg hdb he hpl,Rm ha.r hF⟩
def Ut{pos:Pos}:QPs K X pos [] [] [] []:=⟨VJ,trivial⟩
def Rx{pos:Pos}{k v:Expr}{ks:List (Option Expr)}{vs:List Expr}{tk tv:TE}{mk mv:ME}{trs:List (TE×TE)}{ms:List (ME×ME)}(hk:QE K X k tk mk)(hv:QE K X v tv mv)(hr:QPs K X pos ks vs trs ms):QPs K X pos (some k::ks) (v::vs) ((tk,tv)::trs) ((mk,mv)::ms):=⟨SC hk.p hv.p hr.p,hk.r,hv.r,hr.r⟩
def V7{pos:Pos}{keys:List (Option Expr)}{values:List Expr}{trs:List (TE×TE)}{ms:List (ME×ME)}(h:QPs K X pos keys values trs ms)(hall:keys.all (·.isSome)=true:=by rfl)(hl:keys.length=values.length:=by rfl)(h0:keys≠[]:=by simp)
 (h15:keys.length<=15:=by decide):QE K X (.Dict keys values pos) (Na trs) (Ij ms):=⟨VX h.p hall hl h0 h15,UX h.r⟩
def V2{i:Nat}(hN:X.N.Nodup)(hi:X.N[i]?=some x)(hx:Loc X.env.scope x)(hf:X.fn x=true∨X.env.scope.names.lookup x=some .local:=by first|exact .inl rfl|exact .inr rfl|assumption):QG K X (.Name x pos) (Cl i) (AG i):=⟨VT hN hi hx hf,HC⟩
def V1:QGs K X [] SZ CF:=⟨VR,UP⟩
def S0{tg:TG}{tgs:TGs}{n:MG}{ns:MGs}(h1:QG K X e tg n)(h2:QGs K X es tgs ns)(hs:(assignEach (e::es) X.env).map (·.2)=assign e X.env::(assignEach es X.env).map (·.2):=by rfl):QGs K X (e::es) (OP tg tgs) (Ac n ns):=⟨SF h1.p h2.p hs,Rf h1.r h2.r⟩
def Xy{k n:Nat}{tgs:TGs}{ns:MGs}(hc:X.calm=true)(h:QGs K X es tgs ns)(hK:X.K=K:=by rfl)(hn:(assignEach es X.env).length=n:=by rfl)(hst:(assignEach es X.env).findIdx? (·.1)=none:=by rfl):QG K X (.Tuple es k pos) (OO K n tgs) (Bx n ns):=⟨VS K hc h.p hK hn hst,XF h.r⟩
def Xw{tg:Expr}(h:QE K X e te me)(hK:X.K=K:=by rfl):QI K X tg e (OJ K te) (BD me):=⟨VP K h.p hK,XD h.r⟩
def V0{tg:Expr}(h:QE K X e te me)(hK:X.K=K:=by rfl):QI K X tg e (HN K te) (CY me):=⟨LW K h.p hK,UO h.r⟩
def Xx{tg:Expr}(h:QN K X e te m)(hK:X.K=K:=by rfl):QI K X tg e (HN K te) (IA m):=⟨LW K h.p hK,XE h.r⟩
def Uz{tg:Expr}{p:Pos}(hm:X.mg "range"=none)(ha:QA K X [a] t m)(hg:Gl X "range":=by rfl)(hs:starEach [a] X.env=[(false,eval a X.env)]:=by rfl):QI K X tg (.Call (.Name "range" p) [a] [] pos) (OL t) (Cq m):=⟨PZ hg hm ha.p hs,UN ha.r⟩
def Uy{tg:Expr}{p:Pos}(hm:X.mg "range"=none)(ha:QA K X [a,b] t m)(hg:Gl X "range":=by rfl)(hs:starEach [a,b] X.env=[(false,eval a X.env),(false,eval b X.env)]:=by rfl)(hs2:starEach [b] X.env=[(false,eval b X.env)]:=by rfl):QI K X tg (.Call (.Name "range" p) [a,b] [] pos) (OK t) (E4 m):=⟨PY hg hm ha.p hs hs2,UM ha.r⟩
def Y0:QF K X [] Qt Bc:=⟨YX,Wy⟩
def Xz(h:QT K X c tA nA):QF K X [c] tA nA:=⟨YW h.p,h.r⟩
def Ux{elt tg iter:Expr}{ifs:List Expr}{scope:Scope}{loc fr:List Str}{ix:List Nat}{wi:TI}{g:TG}{tf:TT}{te:TE}{mi:MI}{n:MG}{mf:MT}{mm:ME}(hc:X.calm=true)(S:CSc X scope fr ix)(hi:QI K X tg iter wi mi)
 (hg:∀s H ex,QG K (cCx X (loc++fr) scope s H ex) tg g n) (hf:∀s H ex,QF K (cCx X (loc++fr) scope s H ex) ifs tf mf) (he:∀s H ex,QE K (cCx X (loc++fr) scope s H ex) elt te mm)
 (hs:∀x,foldedSetIterable iter X.env x=pure x:=by intro _;rfl):QN K X (.ListComp elt [⟨tg,iter,ifs,0⟩] scope pos) (Fp loc.length ix wi g tf te) (B5 loc.length ix mi n mf mm):=
 ⟨VZ hc S hi.p (λs H ex=>(hg s H ex).p) (λs H ex=>(hf s H ex).p) (λs H ex=>(he s H ex).p) hs,Ml hi.r (hg X.s₀ X.H₀ []).r (hf X.s₀ X.H₀ []).r (he X.s₀ X.H₀ []).r⟩
def Uj:QSs K X [] IN Ap:=⟨VC,Mi⟩
def Ru{st:Stmt}{rest:List Stmt}{u v:TS}{m1 m2:MS}(h1:QS K X st u m1)(h2:QSs K X rest v m2):QSs K X (st::rest) (Qw u v) (A7 m1 m2):=⟨S9 h1.p h2.p,X1 h1.r h2.r⟩
def Ui{st:Stmt}{u:TS}{m1:MS}(h1:QS K X st u m1):QSs K X [st] u m1:=⟨VB h1.p,h1.r⟩
def Ul:QS K X (.Pass pos) IN Ap:=⟨VE,Mi⟩
def Uq(he:QE K X e te me)(hs:swapsWith e none pos.line X.env=pure false:=by rfl):QS K X (.Expr e pos) (NZ te) (BE me):=⟨VG he.p hs,UG he.r⟩
def Xl(he:QE K X e te me):QS K X (.Return (some e) pos) (Qx te) (Aa me):=⟨YN he.p,X2 he.r⟩
def aE{a b:List Stmt}{u v:TS}{m1 m2:MS}(hc:QT K X c tA nA)(ha:QSs K X a u m1)(hb:QSs K X b v m2):QS K X (.If c a b pos) (RJ tA u v) (B2 nA m1 m2):=⟨aK hc.p ha.p hb.p,a7 hc.r ha.r hb.r⟩
def Xo{tg:Expr}{g:TG}{n:MG}(he:QE K X e te me)(hg:QG K X tg g n)(hs:swapsWithSole [tg] e pos.line X.env=pure false:=by rfl)(hw:swappedStores [tg] e X.env=pure none:=by rfl)
 (h1:(assignEach [tg] X.env).map (·.2)=[assign tg X.env]:=by rfl):QS K X (.Assign [tg] e pos) (DZ te g) (Fz me n):=⟨PU he.p hg.p hs hw h1,IW he.r hg.r⟩
def Xk{i:Nat}{pos':Pos}(hN:X.N.Nodup)(hi:X.N[i]?=some x)(hx:Loc X.env.scope x)(he:QE K X e te me)(hs:swapsWith e (some (.Name x pos')) pos.line X.env=pure false:=by rfl)(hf:X.fn x=true∨X.env.scope.names.lookup x=some .local:=by first|exact .inl rfl|exact .inr rfl|assumption):
 QS K X (.Assign [.Name x pos'] e pos) (DZ te (Cl i)) (AH i me):=⟨YM hN hi hx he.p hs hf,IW he.r HC⟩
def Uk{i:Nat}{y:Str}{elt tg iter:Expr}{ifs:List Expr}{scope:Scope}{spos py:Pos}{loc fr:List Str}{ix:List Nat}{wi:TI}{g:TG}{tf:TT}{te:TE}{mi:MI}{n:MG}{mf:MT}{mm:ME}(hN:X.N.Nodup)(hiN:X.N[i]?=some y)(hy:X.env.scope.names.lookup y=some .local)
 (hc:X.calm=true) (S:CSc X scope fr ix) (hi:QI K X tg iter wi mi)
 (hg:∀s H ex,QG K (cCx X (loc++fr) scope s H ex) tg g n) (hf:∀s H ex,QF K (cCx X (loc++fr) scope s H ex) ifs tf mf) (he:∀s H ex,QE K (cCx X (loc++fr) scope s H ex) elt te mm)
 (hsw:swapsWith (.ListComp elt [⟨tg,iter,ifs,0⟩] scope pos) (some (.Name y py)) spos.line X.env=pure true:=by rfl) (hs:∀x,foldedSetIterable iter X.env x=pure x:=by intro _;rfl):
 QS K X (.Assign [.Name y py] (.ListComp elt [⟨tg,iter,ifs,0⟩] scope pos) spos) (DZ (Fp loc.length ix wi g tf te) (Cl i)) (AH i (AO (B5 loc.length ix mi n mf mm))):=
 ⟨VD hN hiN hy hc S hi.p (λs H ex=>(hg s H ex).p) (λs H ex=>(hf s H ex).p) (λs H ex=>(he s H ex).p) hsw hs,IW (P9 (Ml hi.r (hg X.s₀ X.H₀ []).r (hf X.s₀ X.H₀ []).r (he X.s₀ X.H₀ []).r)) HC⟩
def Xm{i j:Nat}{x y:Str}{a b:Expr}{px py pt:Pos}{kt k2 pt2}(hc:X.calm=true)(hN:X.N.Nodup)(hi:X.N[i]?=some x)(hj:X.N[j]?=some y)(hij:i≠j)
 (hx:X.env.scope.names.lookup x=some .local) (hy:X.env.scope.names.lookup y=some .local) (ha:QA K X [a,b] t m)
 (hw:swappedStores [.Tuple [.Name x px,.Name y py] kt pt] (.Tuple [a,b] k2 pt2) X.env=pure (some [x,y]):=by rfl)
 (hs:swapsWithSole [.Tuple [.Name x px,.Name y py] kt pt] (.Tuple [a,b] k2 pt2) pos.line X.env=pure false:=by rfl):
 QS K X (.Assign [.Tuple [.Name x px,.Name y py] kt pt] (.Tuple [a,b] k2 pt2) pos) (Qy i j t) (I0 [i,j] m):=⟨YO hc hN hi hj hij hx hy ha.p hw,X4 ha.r⟩
def Um{i j k:Nat}{x y z:Str}{a b c:Expr}{px py pz pt:Pos}{kt k2 pt2}(hc:X.calm=true)(hN:X.N.Nodup)(hi:X.N[i]?=some x)(hj:X.N[j]?=some y)(hk:X.N[k]?=some z)
 (hx:X.env.scope.names.lookup x=some .local) (hy:X.env.scope.names.lookup y=some .local) (hz:X.env.scope.names.lookup z=some .local) (ha:QA K X [a,b,c] t m)
 (hw:swappedStores [.Tuple [.Name x px,.Name y py,.Name z pz] kt pt] (.Tuple [a,b,c] k2 pt2) X.env=pure (some [x,y,z]):=by rfl)
 (hs:swapsWithSole [.Tuple [.Name x px,.Name y py,.Name z pz] kt pt] (.Tuple [a,b,c] k2 pt2) pos.line X.env=pure false:=by rfl):
 QS K X (.Assign [.Tuple [.Name x px,.Name y py,.Name z pz] kt pt] (.Tuple [a,b,c] k2 pt2) pos) (NX i j k t) (Ii i j k m):=⟨VF hc hN hi hj hk hx hy hz ha.p hw hs,UD ha.r⟩
def Ur{o i value:Expr}{pos':Pos}{td ty tv:TE}{md my mv:ME}(hu:X.A.units+1<cLine)(ho:QE K X o td md)(hi:QE K X i ty my)(hv:QE K X value tv mv)(hs:swapsWith value (some (.Subscript o i pos')) pos.line X.env=pure false:=by rfl):
 QS K X (.Assign [.Subscript o i pos'] value pos) (Nl td ty tv) (C5 md my mv):=⟨VH hu ho.p hi.p hv.p hs,UH ho.r hi.r hv.r⟩
def Uo{o i value:Expr}{pos':Pos}{to ti tv:TE}{mo mi mv:ME}(ho:QE K X o to mo)(hi:QE K X i ti mi)(hv:QE K X value tv mv)(hs:swapsWithSole [.Subscript o i pos'] value pos.line X.env=pure false:=by rfl)(hw:swappedStores [.Subscript o i pos'] value X.env=pure none:=by rfl)
 (h1:(assignEach [.Subscript o i pos'] X.env).map (·.2)=[assign (.Subscript o i pos') X.env]:=by rfl)
 (ha:∀v,assign (.Subscript o i pos') X.env v=(do
  let ov <- holding [v] (eval o X.env)
  let iv <- holding [v,ov] (eval i X.env)
  standAt pos'
  holding [v,ov,iv] (setItem ov iv v)
  release [v,ov,iv] []):=by intro _;rfl):QS K X (.Assign [.Subscript o i pos'] value pos) (DZ tv (SY to ti IZ)) (Dj mo mi mv):=⟨PU hv.p (YV ho.p hi.p LC ha) hs hw h1,UE ho.r hi.r hv.r⟩
def Xn{tg iter:Expr}{body:List Stmt}{wi:TI}{g:TG}{tb:TS}{mi:MI}{n:MG}{mb:MS}(hc:X.calm=true)(hi:QI K X tg iter wi mi)(hg:QG K X tg g n)(hb:QSs K X body tb mb)(hp:PassesOwn (model X.prog X.w) X.A X.env X.xe:=by exact PassesOwn.never)
 (hs:∀x,foldedSetIterable iter X.env x=pure x:=by intro _;rfl):QS K X (.For tg iter body [] pos) (RK wi g tb) (BO mi n mb):=⟨YQ hp hc hi.p hg.p hb.p hs,X5 hi.r hg.r hb.r⟩
end
def Vj{P:Program}{w:World}{K:PySem.W.Frag}{mg:Str->Option Value}{base:Heap}{x:Str}{st:Stmt}{f:Addr}{fd:FuncData}{N ps:List Str}{j:Nat}{m:MS}(DA:DefAt K mg x st f fd ps)(S:FnScope N ps (AM st))
 (h:∀(cdv:Value) (A:Around) (outer:List Env) (s:Shared) (H:Hp) (E:XK),Room j (A.deeper (envOfC x (AM st) s.heap.objs.size f cdv))->∃t,QSs K (Gk CX0 P w K mg base N x (AM st) f cdv A outer s H E).nox (Bl st) t m):
 FnOk P w K mg base CX0 (j+1) f fd ps (spF K ps.length (mkF ps.length N.length m)):=by
 refine DA.fn.ok S (λvs H Q E h=>h.1) (λcdv A outer s H vs Q E hr hs=>?_);obtain⟨t,q⟩:=h cdv A outer s H E hr;exact⟨t,q.p,U0 q.r hs⟩
section
variable{X:Cx}{pins:List (Addr×Obj)}{σ:List (Option V)}{H H':Hp}{s:Shared}{h':Heap}
def Inv.turns{tk:Nat}{fp:List Addr}(I:Inv X pins σ H s)(k:∀b o,b∉fp->s.heap.get? b=some o->h'.get? b=some o)(hf:∀b∈fp,C1 X pins H b):Inv X pins σ H { s with heap:=h',toks:=tk }:=by
 have out:∀b u,H b=some u->b∉fp:=λb u e z=>by rw[(hf b z).1]at e;cases e
 have hL:X.env.locals∉fp:=λz=>(hf _ z).2.1 rfl;refine I.step (g':=s.gens) (d':=s.drawn) (ch:=fp) (λb hb=>⟨(hf b hb).2.2.2.1,(hf b hb).2.1,(hf b hb).2.2.2.2.1,(hf b hb).2.2.2.2.2⟩) (λb o _ _ hc e _=>k b o hc e) (λb o _ _ hc e _=>⟨o.slots,k b o hc e⟩) (λ_ _ _ _ n=>n)
  (λb o hc e=>⟨o,k b o hc e⟩) (λ_ _ e=>e) (λ_ _ _ e=>e) (λb ps e=>⟨#[],by rw[e];simp⟩) (λm hm=>?_) (λb u e=>?_) I.bare
 .obtain⟨o,es,ep,ho,r⟩:=hm;exact⟨o,es,ep,k _ o hL ho,r⟩
 .refine(I.hok b u e).stay (λc v hc q=>k c v ?_ q) (λ_ q=>q) λ_ _ q=>q;rcases hc with z|z
  .rw[z];exact out b u e
  .exact out c _ z
end
def Inv.turnsL{X:Cx}{pins:List (Addr×Obj)}{σ:List (Option V)}{H:Hp}{s:Shared}{h':Heap}{tk:Nat}{fp:List Addr}{a:Addr}{o:HO}(I:Inv X pins σ H s)(k:∀b o,b∉fp->s.heap.get? b=some o->h'.get? b=some o)(hf:∀b∈fp,C1 X pins H b)(ha:s.heap.objs.size<=a)(new:ObjOk X.prog X.w (upd H a o) h' a o):
 Inv X pins σ (upd H a o) { s with heap:=h',toks:=tk }:=by
 have out:∀b u,H b=some u->b∉fp:=λb u e z=>by rw[(hf b z).1]at e;cases e
 have hL:X.env.locals∉fp:=λz=>(hf _ z).2.1 rfl;have fr:H a=none:=I.hok.fresh ha;refine I.step (g':=s.gens) (d':=s.drawn) (ch:=fp) (λb hb=>⟨(hf b hb).2.2.2.1,(hf b hb).2.1,(hf b hb).2.2.2.2.1,(hf b hb).2.2.2.2.2⟩) (λb o _ _ hc e _=>k b o hc e) (λb o _ _ hc e _=>⟨o.slots,k b o hc e⟩)
  (λb o _ e n=>by rw[AW (ne_of_lt (lt_of_lt_of_le (Heap.lt_size e) ha))];exact n) (λb o hc e=>⟨o,k b o hc e⟩) (λb xs e=>by rw[AW (Am e fr)];exact e) (λb o u e=>by rw[AW (Am e fr)];exact e)
  (λb ps e=>⟨#[],by rw[AW (Am e fr),e];simp⟩) (λm hm=>?_) (λb u e=>?_) I.bare
 .obtain⟨o,es,ep,ho,r⟩:=hm;exact⟨o,es,ep,k _ o hL ho,r⟩
 .by_cases hb:b=a
  .subst hb;rw[Ad]at e;cases e;exact new
  .rw[AW hb]at e;refine(I.hok b u e).stay (λc v hc q=>k c v ?_ q) (λc q=>by rw[AW (Am q fr)];exact q) λc xs q=>by rw[AW (Am q fr)];exact q
   rcases hc with z|z
   .rw[z];exact out b u e
   .exact out c _ z
def RowI(tp:Bool)(h:Heap)(it l:Addr)(k:Nat):Prop:=match tp with
 |true=>h.IsTupleIter it l k
 |false=>h.IsListIter it l k
def RowL(tp:Bool)(h:Heap)(l:Addr)(xs:Array Value):Prop:=match tp with
 |true=>h.IsTuple l xs
 |false=>h.IsList l xs
def RowI.at{tp:Bool}{h h':Heap}{it l:Addr}{k:Nat}(x:RowI tp h it l k)(e:∀o,h.get? it=some o->h'.get? it=some o):RowI tp h' it l k:=by
 cases tp with
 |true=>exact Heap.IsTupleIter.at x e
 |false=>exact Heap.IsListIter.at x e
def RowL.at{tp:Bool}{h h':Heap}{l:Addr}{xs:Array Value}(x:RowL tp h l xs)(e:∀o,h.get? l=some o->h'.get? l=some o):RowL tp h' l xs:=by
 cases tp with
 |true=>obtain⟨o,e1,r⟩:=(show h.IsTuple l xs from x);exact⟨o,e _ e1,r⟩
 |false=>obtain⟨o,e1,r⟩:=(show h.IsList l xs from x);exact⟨o,e _ e1,r⟩
def RowI.obj{tp:Bool}{h:Heap}{it l:Addr}{k:Nat}(x:RowI tp h it l k):∃o,h.get? it=some o/\o.data=.fields #[.ref l,.int k 0]:=by
 cases tp with
 |true=>obtain⟨o,e,_,d⟩:=(show h.IsTupleIter it l k from x);exact⟨o,e,d⟩
 |false=>obtain⟨o,e,_,d⟩:=(show h.IsListIter it l k from x);exact⟨o,e,d⟩
def RowL.obj{tp:Bool}{h:Heap}{l:Addr}{xs:Array Value}(x:RowL tp h l xs):∃o n,h.get? l=some o/\o.data=.seq xs n:=by
 cases tp with
 |true=>obtain⟨o,e,_,n,d⟩:=(show h.IsTuple l xs from x);exact⟨o,n,e,d⟩
 |false=>obtain⟨o,e,_,n,d⟩:=(show h.IsList l xs from x);exact⟨o,n,e,d⟩
section
variable{prog:Program}{w:World}{A:Around}{E:Value->Shared->Prop}{s:Shared}{it l:Addr}{k:Nat}{xs:Array Value}{x:Value}
def Qq(hit:s.heap.IsTupleIter it l k)(hl:s.heap.IsTuple l xs)(hx:xs[k]?=some x){Q:Value->Shared->Prop}(hQ:∀g,g.IsTupleIter it l (k+1)->Heap.SameBut it s.heap g->Q x { s with heap:=g }):
 wpAny (model prog w) A (Builtin.SmallTypes.nextOf (.ref it)) Q E s:=by
 obtain⟨o,eo,ec,ed⟩:=id hit;obtain⟨ol,el,_,nl,edl⟩:=hl;unfold Builtin.SmallTypes.nextOf;refine wpAny_bind (wpAny_callSpecial?_slot (name:=Str.ofString "__next__") hit.typeIs PyProof.Rows.slot_tupleiter_next (wpAny_call_entry PyProof.Rows.slot_tupleiter_next hit.typeIs PyProof.Rows.entry_tupleiter_next ?_ (PyProof.Rows.args_tupleiter_next _)));show wpAny _ _ (field (.ref it) 0 >>= _) _ _ s;refine wpAny_bind (wpAny_field eo ed (x:=.ref l) rfl ?_);show wpAny _ _ (if(Value.ref l==Value.none)=true then _ else _) _ _ s;rw[if_neg (show ¬ (Value.ref l==Value.none)=true from Bool.false_ne_true)];show wpAny _ _ (field (.ref it) 1 >>= _) _ _ s;refine wpAny_bind (wpAny_field eo ed (x:=.int k 0) rfl ?_);show wpAny _ _ (seqItems? (.ref l) >>= _) _ _ s;refine wpAny_bind (wpAny_seqItems el edl ?_);simp only[toNat_natCast,hx];refine wpAny_bind (wpAny_setField eo ed (by simp) (wpAny_pure ⟨x,rfl,wpAny_pure (hQ _ ⟨_,Heap.get?_update_self _ eo (Obj.isFreed_of_fields (Obj.data_mapFields ed _)),(Obj.cls_mapFields ..).trans ec,?_⟩ (Heap.SameBut.update ..))⟩));rw[Obj.data_mapFields ed];simp[rawInt]
def Qp(hh:A.handled=none)(hit:s.heap.IsTupleIter it l k)(hl:s.heap.IsTuple l xs)(hx:xs[k]?=none){Q:Value->Shared->Prop}(hE:∀g e,Heap.ExtBut it s.heap g->(∃o,g.get? e=some o/\o.cls=.type "StopIteration")->E (.ref e) { s with heap:=g }):
 wpAny (model prog w) A (Builtin.SmallTypes.nextOf (.ref it)) Q E s:=by
 obtain⟨o,eo,ec,ed⟩:=id hit;obtain⟨ol,el,_,nl,edl⟩:=hl;unfold Builtin.SmallTypes.nextOf;refine wpAny_bind (wpAny_callSpecial?_slot (name:=Str.ofString "__next__") hit.typeIs PyProof.Rows.slot_tupleiter_next (wpAny_call_entry PyProof.Rows.slot_tupleiter_next hit.typeIs PyProof.Rows.entry_tupleiter_next ?_ (PyProof.Rows.args_tupleiter_next _)));show wpAny _ _ (field (.ref it) 0 >>= _) _ _ s;refine wpAny_bind (wpAny_field eo ed (x:=.ref l) rfl ?_);show wpAny _ _ (if(Value.ref l==Value.none)=true then _ else _) _ _ s;rw[if_neg (show ¬ (Value.ref l==Value.none)=true from Bool.false_ne_true)];show wpAny _ _ (field (.ref it) 1 >>= _) _ _ s;refine wpAny_bind (wpAny_field eo ed (x:=.int k 0) rfl ?_);show wpAny _ _ (seqItems? (.ref l) >>= _) _ _ s;refine wpAny_bind (wpAny_seqItems el edl ?_);simp only[toNat_natCast,hx];refine wpAny_bind (wpAny_rule (wpAny_bind (wpAny_setField eo ed (by simp) ?_)));show wpAny _ _ (newExc (.type "StopIteration") [] >>= _) _ _ _;refine wpAny_bind ?_;simp only[newExc,newTuple];refine wpAny_bind (wpAny_newObj_type ?_ (by size_fits));refine wpAny_bind (m:=firstArgMember _ _) (wpAny_of_eq (a:=Value.none) (by first|rfl|(simp only[firstArgMember];rfl)) ?_);refine wpAny_newObj_type ?_ (by size_fits);simp only[raiseNew];refine wpAny_bind (wpAny_handled ?_)
 first|rw[show A.in1.handled=none from hh]|rw[hh]
 exact wpAny_bind (wpAny_pure (wpAny_throw (hE _ _ (((Heap.SameBut.update ..).extBut.push _).push _) ⟨_,Heap.get?_push_size _ rfl,rfl⟩)))
def Hn{tp:Bool}(hit:RowI tp s.heap it l k)(hl:RowL tp s.heap l xs)(hx:xs[k]?=some x){Q:Value->Shared->Prop}(hQ:∀g,RowI tp g it l (k+1)->Heap.SameBut it s.heap g->Q x { s with heap:=g }):
 wpAny (model prog w) A (Builtin.SmallTypes.nextOf (.ref it)) Q E s:=by
 cases tp with
 |true=>exact Qq hit hl hx hQ
 |false=>exact wpAny_nextOf_list_item hit hl hx hQ
def LJ{tp:Bool}(hh:A.handled=none)(hit:RowI tp s.heap it l k)(hl:RowL tp s.heap l xs)(hx:xs[k]?=none){Q:Value->Shared->Prop}(hE:∀g e,Heap.ExtBut it s.heap g->(∃o,g.get? e=some o/\o.cls=.type "StopIteration")->E (.ref e) { s with heap:=g }):
 wpAny (model prog w) A (Builtin.SmallTypes.nextOf (.ref it)) Q E s:=by
 cases tp with
 |true=>exact Qp hh hit hl hx hE
 |false=>exact wpAny_nextOf_list_end hh hit hl hx hE
end
structure ZAt(t1 t2:Bool)(h:Heap)(z a b i1 i2 l1 l2:Addr)(f0:Value)(j k:Nat):Prop where
 z:IsZip h z a b f0
 p:IsPair h a (.ref i1) (.ref i2)
 o:∃u v,IsPair h b u v
 r1:RowI t1 h i1 l1 j
 r2:RowI t2 h i2 l2 k
structure ZNe(z a b i1 i2 l1 l2:Addr):Prop where
 az:a≠z
 bz:b≠z
 iz:i1≠z
 jz:i2≠z
 ab:a≠b
 ai:a≠i1
 aj:a≠i2
 bi:b≠i1
 bj:b≠i2
 ij:i1≠i2
 lz:l1≠z
 lb:l1≠b
 li:l1≠i1
 lj:l1≠i2
 mz:l2≠z
 mb:l2≠b
 mi:l2≠i1
 mj:l2≠i2
section
variable{prog:Program}{w:World}{A:Around}{E:Value->Shared->Prop}{s:Shared}{t1 t2:Bool}{z a b i1 i2 l1 l2:Addr}{j k:Nat}{xs ys:Array Value}{x y:Value}
abbrev Of(z b i1 i2:Addr)(h h':Heap):Prop:=∀c o,c≠z->c≠b->c≠i1->c≠i2->h.get? c=some o->h'.get? c=some o
def Qg(N:ZNe z a b i1 i2 l1 l2)(Z:ZAt t1 t2 s.heap z a b i1 i2 l1 l2 .none j k)(hl1:RowL t1 s.heap l1 xs)(hl2:RowL t2 s.heap l2 ys)(hx:xs[j]?=some x)(hy:ys[k]?=some y){Q:Value->Shared->Prop}
 (hQ:∀g,ZAt t1 t2 g z a b i1 i2 l1 l2 (rawInt s.heap.objs.size) (j+1) (k+1)->IsPair g s.heap.objs.size x y->Of z b i1 i2 s.heap g->Q (.ref s.heap.objs.size) { s with heap:=g }):
 wpAny (model prog w) A (Builtin.«zip.__next__» ⟨[.ref z],[]⟩) (λfin s'=>∃v,fin=.done (.ret v)/\Q v s') E s:=by
 obtain⟨hz,hp,⟨u,v,hb⟩,q1,q2⟩:=Z;show wpAny _ _ (field (.ref z) 2 >>= _) _ _ _;refine wpAny_bind (wpAny_field hz rfl (x:=.bool false) rfl ?_);show wpAny _ _ (field (.ref z) 3 >>= _) _ _ _;refine wpAny_bind (wpAny_field hz rfl (x:=.ref a) rfl (wpAny_bind (wpAny_seqItems hp rfl ?_)));show wpAny _ _ (Builtin.SmallTypes.ownedTupleIsFree (.ref z) >>= _) _ _ _;unfold Builtin.SmallTypes.ownedTupleIsFree;refine wpAny_bind (wpAny_bind (wpAny_field hz rfl (x:=.none) rfl (wpAny_pure ?_)));simp only[if_true];refine wpAny_bind (wpAny_rule (wpAny_bind (wpAny_field hz rfl (x:=.ref b) rfl ?_)));refine wpAny_bind (wpAny_setField_rec hz (by simp) λg1 z1 s1=>?_);have z1:IsZip g1 z a b .ellipsis:=z1;refine wpAny_bind ?_;simp only[List.zipIdx_cons,List.zipIdx_nil,List.forIn_cons,List.forIn_nil];refine wpAny_bind (wpAny_bind (wpAny_onRaise ?_));show wpAny _ _ (Builtin.SmallTypes.nextOf (.ref i1) >>= _) _ _ _;refine wpAny_bind (Hn (s:={ s with heap:=g1 }) (q1.at λo e=>s1.extBut _ _ N.iz e) (hl1.at λo e=>s1.extBut _ _ N.lz e) hx λg2 r2 s2=>wpAny_pure ?_);have b2:IsPair g2 b u v:=s2.extBut _ _ N.bi (s1.extBut _ _ N.bz hb);refine wpAny_bind (wpAny_seqItems b2 rfl (wpAny_bind (wpAny_updateSeq_pair b2 λg3 b3 s3=>?_)));have b3:IsPair g3 b x v:=b3;refine wpAny_bind (wpAny_letGo (wpAny_pure (wpAny_bind (wpAny_bind (wpAny_onRaise ?_)))));show wpAny _ _ (Builtin.SmallTypes.nextOf (.ref i2) >>= _) _ _ _;have q3:RowI t2 g3 i2 l2 k:=q2.at λo e=>s3.extBut _ _ N.bj.symm (s2.extBut _ _ N.ij.symm (s1.extBut _ _ N.jz e));have m3:RowL t2 g3 l2 ys:=hl2.at λo e=>s3.extBut _ _ N.mb (s2.extBut _ _ N.mi (s1.extBut _ _ N.mz e));refine wpAny_bind (Hn (s:={ s with heap:=g3 }) q3 m3 hy λg4 r4 s4=>wpAny_pure ?_);have b4:IsPair g4 b x v:=s4.extBut _ _ N.bj b3;refine wpAny_bind (wpAny_seqItems b4 rfl (wpAny_bind (wpAny_updateSeq_pair b4 λg5 b5 s5=>?_)));have b5:IsPair g5 b x y:=b5;refine wpAny_bind (wpAny_letGo (wpAny_pure (wpAny_pure (wpAny_bind (wpAny_seqItems b5 rfl (wpAny_bind (wpAny_newTuple ?_)))))));have sz:g5.objs.size=s.heap.objs.size:=by rw[s5.1,s4.1,s3.1,s2.1,s1.1]
 have z5:IsZip g5 z a b .ellipsis:=s5.extBut _ _ N.bz.symm (s4.extBut _ _ N.jz.symm (s3.extBut _ _ N.bz.symm (s2.extBut _ _ N.iz.symm z1)));have kp:Of z b i1 i2 s.heap g5:=λc o c1 c2 c3 c4 e=>s5.extBut _ _ c2 (s4.extBut _ _ c4 (s3.extBut _ _ c2 (s2.extBut _ _ c3 (s1.extBut _ _ c1 e))));have w1:RowI t1 g5 i1 l1 (j+1):=r2.at λo e=>s5.extBut _ _ N.bi.symm (s4.extBut _ _ N.ij (s3.extBut _ _ N.bi.symm e));have w2:RowI t2 g5 i2 l2 (k+1):=r4.at λo e=>s5.extBut _ _ N.bj.symm e;have zlt:=Heap.lt_size z5;show wpAny _ _ (Builtin.SmallTypes.ownedTupleHandOut (.ref z) (.ref g5.objs.size) >>= _) _ _ _;unfold Builtin.SmallTypes.ownedTupleHandOut;have z6:IsZip (g5.push { cls:=.type "tuple",data:=.seq #[x,y] }) z a b .ellipsis:=Heap.get?_push_of_some _ z5;refine wpAny_bind (wpAny_bind (wpAny_setField_rec z6 (by simp) λg7 z7 s7=>?_));have z7:IsZip g7 z a b (rawInt g5.objs.size):=z7;refine wpAny_setField_rec z7 (by simp) λg8 z8 s8=>wpAny_pure ⟨_,rfl,?_⟩;have z8:IsZip g8 z a b (rawInt g5.objs.size):=z8;have up:∀c o,c≠z->g5.get? c=some o->g8.get? c=some o:=λc o c1 e=>s8.extBut _ _ c1 (s7.extBut _ _ c1 (Heap.get?_push_of_some _ e));have t8:IsPair g8 g5.objs.size x y:=s8.extBut _ _ (ne_of_gt zlt) (s7.extBut _ _ (ne_of_gt zlt) (Heap.get?_push_size _ rfl));show Q (.ref g5.objs.size) _;rw[sz]at z8 t8 ⊢;exact hQ g8 ⟨z8,up _ _ N.az (kp _ _ N.az N.ab N.ai N.aj hp),⟨_,_,up _ _ N.bz b5⟩,w1.at λo e=>up _ o N.iz e,w2.at λo e=>up _ o N.jz e⟩ t8 λc o c1 c2 c3 c4 e=>up c o c1 (kp c o c1 c2 c3 c4 e)
def Qf(hh:A.handled=none)(N:ZNe z a b i1 i2 l1 l2)(Z:ZAt t1 t2 s.heap z a b i1 i2 l1 l2 .none j k)(hl1:RowL t1 s.heap l1 xs)(hl2:RowL t2 s.heap l2 ys)(hend:xs[j]?=none∨ys[k]?=none){Q:Fin->Shared->Prop}
 (hE:∀g e,Of z b i1 i2 s.heap g->(∃o,g.get? e=some o/\o.cls=.type "StopIteration")->E (.ref e) { s with heap:=g }):
 wpAny (model prog w) A (Builtin.«zip.__next__» ⟨[.ref z],[]⟩) Q E s:=by
 obtain⟨hz,hp,⟨u,v,hb⟩,q1,q2⟩:=Z;show wpAny _ _ (field (.ref z) 2 >>= _) _ _ _;refine wpAny_bind (wpAny_field hz rfl (x:=.bool false) rfl ?_);show wpAny _ _ (field (.ref z) 3 >>= _) _ _ _;refine wpAny_bind (wpAny_field hz rfl (x:=.ref a) rfl (wpAny_bind (wpAny_seqItems hp rfl ?_)));show wpAny _ _ (Builtin.SmallTypes.ownedTupleIsFree (.ref z) >>= _) _ _ _;unfold Builtin.SmallTypes.ownedTupleIsFree;refine wpAny_bind (wpAny_bind (wpAny_field hz rfl (x:=.none) rfl (wpAny_pure ?_)));simp only[if_true];refine wpAny_bind (wpAny_rule (wpAny_bind (wpAny_field hz rfl (x:=.ref b) rfl ?_)));refine wpAny_bind (wpAny_setField_rec hz (by simp) λg1 z1 s1=>?_);have z1:IsZip g1 z a b .ellipsis:=z1;refine wpAny_bind ?_;simp only[List.zipIdx_cons,List.zipIdx_nil,List.forIn_cons,List.forIn_nil];refine wpAny_bind (wpAny_bind (wpAny_onRaise ?_));show wpAny _ _ (Builtin.SmallTypes.nextOf (.ref i1) >>= _) _ _ _;have o1:RowI t1 g1 i1 l1 j:=q1.at λo e=>s1.extBut _ _ N.iz e;have m1:RowL t1 g1 l1 xs:=hl1.at λo e=>s1.extBut _ _ N.lz e;cases hx:xs[j]? with
 |none=>
  refine wpAny_bind (LJ (s:={ s with heap:=g1 }) hh o1 m1 hx λg2 e s2 he=>?_);obtain⟨oe,he1,he2⟩:=he;have z2:IsZip g2 z a b .ellipsis:=s2 _ _ N.iz.symm z1;have ne:e≠z:=λq=>by subst q;rw[z2]at he1;cases he1;simp at he2
  exact wpAny_setField_rec z2 (by simp) λg3 _ s3=>hE g3 e (λc o c1 _ c3 _ q=>s3.extBut _ _ c1 (s2 _ _ c3 (s1.extBut _ _ c1 q))) ⟨oe,s3.extBut _ _ ne he1,he2⟩
 |some x=>
  have hy:ys[k]?=none:=by
   rcases hend with q|q
   .rw[hx]at q;cases q
   .exact q
  refine wpAny_bind (Hn (s:={ s with heap:=g1 }) o1 m1 hx λg2 r2 s2=>wpAny_pure ?_);have b2:IsPair g2 b u v:=s2.extBut _ _ N.bi (s1.extBut _ _ N.bz hb);refine wpAny_bind (wpAny_seqItems b2 rfl (wpAny_bind (wpAny_updateSeq_pair b2 λg3 b3 s3=>?_)));refine wpAny_bind (wpAny_letGo (wpAny_pure (wpAny_bind (wpAny_bind (wpAny_onRaise ?_)))));show wpAny _ _ (Builtin.SmallTypes.nextOf (.ref i2) >>= _) _ _ _;have q3:RowI t2 g3 i2 l2 k:=q2.at λo e=>s3.extBut _ _ N.bj.symm (s2.extBut _ _ N.ij.symm (s1.extBut _ _ N.jz e));have m3:RowL t2 g3 l2 ys:=hl2.at λo e=>s3.extBut _ _ N.mb (s2.extBut _ _ N.mi (s1.extBut _ _ N.mz e));refine wpAny_bind (LJ (s:={ s with heap:=g3 }) hh q3 m3 hy λg4 e s4 he=>?_);obtain⟨oe,he1,he2⟩:=he;have z4:IsZip g4 z a b .ellipsis:=s4 _ _ N.jz.symm (s3.extBut _ _ N.bz.symm (s2.extBut _ _ N.iz.symm z1));have ne:e≠z:=λq=>by subst q;rw[z4]at he1;cases he1;simp at he2
  exact wpAny_setField_rec z4 (by simp) λg5 _ s5=>hE g5 e (λc o c1 c2 c3 c4 q=>s5.extBut _ _ c1 (s4 _ _ c4 (s3.extBut _ _ c2 (s2.extBut _ _ c3 (s1.extBut _ _ c1 q))))) ⟨oe,s5.extBut _ _ ne he1,he2⟩
end
def SqS(K:PySem.W.Frag)(tp:Bool)(H:Hp)(a:Addr)(xs:List V):Prop:=match tp with
 |true=>SqT K H a xs
 |false=>SqL K H a xs
def Itz(K:PySem.W.Frag)(t1 t2:Bool)(a b:Addr):It:=
 ⟨λi H=>∃xs ys x y,SqS K t1 H a xs/\SqS K t2 H b ys/\xs[i]?=some x/\ys[i]?=some y,
  λi H x H'=>∃p u v,H p=none/\H'=upd H p (.tup [u,v])/\x=.ref p/\(∀xs,SqS K t1 H a xs->xs[i]?=some u)/\∀ys,SqS K t2 H b ys->ys[i]?=some v,
  λi H=>∃xs ys,SqS K t1 H a xs/\SqS K t2 H b ys/\(xs.length<=i∨ys.length<=i)⟩
section
variable{X:Cx}{pins:List (Addr×Obj)}{σ:List (Option V)}{H:Hp}{s:Shared}
def Inv.row{tp:Bool}{a:Addr}{xs:List V}(I:Inv X pins σ H s)(h:SqS X.K tp H a xs):∃its:List Value,Vals xs its/\RowL tp s.heap a its.toArray/\xs.length<=sizeLine:=by
 cases tp with
 |true=>obtain⟨its,r,p,z⟩:=I.tuple h;exact⟨its,r,(show s.heap.IsTuple a its.toArray from p),z⟩
 |false=>obtain⟨its,r,p,z⟩:=I.list h;exact⟨its,r,p.isList,z⟩
def Inv.row_inj{tp:Bool}{a:Addr}{xs ys:List V}(I:Inv X pins σ H s)(h:SqS X.K tp H a xs)(h':SqS X.K tp H a ys):xs=ys:=by
 cases tp with
 |true=>exact I.tuple_inj h h'
 |false=>exact I.list_inj h h'
end
def RowL.lt{tp:Bool}{h:Heap}{l:Addr}{xs:Array Value}(x:RowL tp h l xs):l<h.objs.size:=by
 obtain⟨o,n,e,_⟩:=x.obj;exact Heap.lt_size e
def WW{M:Model}{A:Around}{E:Value->Shared->Prop}{s:Shared}{elts:List Expr}{x1}{pos:Pos}{z a b T:Addr}{Q:Unit->Shared->Prop}(hz:IsZip s.heap z a b (rawInt T)){prog:Program}{w:World}
 (hQ:∀g,IsZip g z a b .none->Heap.SameBut z s.heap g->Q () { s with heap:=g }):wpAny (model prog w) A (letOwnedTupleGo (.Tuple elts x1 pos) (.ref z) (.ref T)) Q E s:=wpAny_letOwnedTupleGo_zip hz hQ
def Qo{P:Program}{w:World}{K:PySem.W.Frag}{elts:List Expr}{kk:Nat}{tpos:Pos}{t1 t2:Bool}{z a b i1 i2 l1 l2:Addr}(N:ZNe z a b i1 i2 l1 l2):Turn P w K (.Tuple elts kk tpos) (Itz K t1 t2 l1 l2) [z,a,b,i1,i2] z (λi h=>ZAt t1 t2 h z a b i1 i2 l1 l2 .none i i) where
 mem:=by simp
 obj:=λi h st c hc=>by
  obtain⟨hz,hp,⟨u,v,hb⟩,q1,q2⟩:=st;simp only[mem_cons,not_mem_nil,or_false]at hc;rcases hc with rfl|rfl|rfl|rfl|rfl
  .exact⟨_,hz,λv z=>by cases(show Data.fields _=Data.cell v from z)⟩
  .exact⟨_,hp,λv z=>by cases(show Data.seq _ _=Data.cell v from z)⟩
  .exact⟨_,hb,λv z=>by cases(show Data.seq _ _=Data.cell v from z)⟩
  .obtain⟨o,e,d⟩:=q1.obj;exact⟨o,e,λv z=>by rw[d]at z;cases z⟩
  .obtain⟨o,e,d⟩:=q2.obj;exact⟨o,e,λv z=>by rw[d]at z;cases z⟩
 keep:=λi h h' st k=>by
  obtain⟨hz,hp,⟨u,v,hb⟩,q1,q2⟩:=st;exact⟨k z (by simp) _ hz,k a (by simp) _ hp,⟨u,v,k b (by simp) _ hb⟩,q1.at λo e=>k i1 (by simp) o e,q2.at λo e=>k i2 (by simp) o e⟩
 item:=by
  intro X hP hw hK hc i pins s σ H E I hf st hg;subst hP hw hK;obtain⟨xs,ys,x,y,h1,h2,hx,hy⟩:=hg;obtain⟨ix,rx,px,zx⟩:=I.row h1;obtain⟨iy,ry,py,zy⟩:=I.row h2;obtain⟨u,hu,ru⟩:=rx.get hx;obtain⟨v,hv,rv⟩:=ry.get hy;have hT:s.TypeIs (.ref z) "zip":=⟨_,st.z,rfl⟩
  unfold pyNext;refine wpAny_bind (wpAny_attempt (wpAny_callSpecial?_slot (name:=Str.ofString "__next__") hT F.slot_zip_next (wpAny_call_entry F.slot_zip_next hT F.entry_zip_next
   (Qg N st px py (x:=u) (y:=v) (by simpa using hu) (by simpa using hv) λg Z g5 kp=>wpAny_pure ⟨_,rfl,?_⟩) (F.args_zip_next_1 _))))
  refine WW (M:=model X.prog X.w) (s:={ s with heap:=g }) Z.z λg' z' sb=>?_;have kp2:∀c o,c∉[z,a,b,i1,i2]->s.heap.get? c=some o->g'.get? c=some o:=λc o nc e=>by
   simp only[mem_cons,not_mem_nil,or_false,not_or]at nc;exact sb.extBut _ _ nc.1 (kp c o nc.1 nc.2.2.1 nc.2.2.2.1 nc.2.2.2.2 e)
  have hTz:s.heap.objs.size≠z:=ne_of_gt (Heap.lt_size st.z);have hpair:IsPair g' s.heap.objs.size u v:=sb.extBut _ _ hTz g5;have fresh:H s.heap.objs.size=none:=I.hok.fresh (le_refl _);have I2:Inv X pins σ (upd H s.heap.objs.size (.tup [x,y])) { s with heap:=g' }:=I.turnsL (tk:=s.toks) (o:=.tup [x,y]) kp2 hf (le_refl _)
   (show ObjOk X.prog X.w _ g' _ (.tup [x,y])from⟨by show 2<=sizeLine;decide,[u,v],.cons ru (.cons rv .nil),⟨_,hpair,rfl,⟨_,rfl⟩,rfl⟩⟩)
  refine⟨.ref s.heap.objs.size,_,I2,rfl,⟨_,x,y,fresh,rfl,rfl,λxs' q=>by rw[I.row_inj q h1];exact hx,λys' q=>by rw[I.row_inj q h2];exact hy⟩,⟨z',?_,?_,?_,?_⟩,λc hc=>?_⟩
  .exact sb.extBut _ _ N.az Z.p
  .obtain⟨p,q,e⟩:=Z.o;exact⟨p,q,sb.extBut _ _ N.bz e⟩
  .exact Z.r1.at λo e=>sb.extBut _ _ N.iz e
  .exact Z.r2.at λo e=>sb.extBut _ _ N.jz e
  .have lt:c<s.heap.objs.size:=by
    obtain⟨hz,hp,⟨u,v,hb⟩,q1,q2⟩:=st;simp only[mem_cons,not_mem_nil,or_false]at hc;rcases hc with rfl|rfl|rfl|rfl|rfl
    .exact Heap.lt_size hz
    .exact Heap.lt_size hp
    .exact Heap.lt_size hb
    .obtain⟨o,e,_⟩:=q1.obj;exact Heap.lt_size e
    .obtain⟨o,e,_⟩:=q2.obj;exact Heap.lt_size e
   rw[AW (ne_of_lt lt)];exact(hf c hc).1
 done:=by
  intro X hP hw hK hc i pins s σ H E I hf st hg;subst hP hw hK;obtain⟨xs,ys,h1,h2,hend⟩:=hg;obtain⟨ix,rx,px,zx⟩:=I.row h1;obtain⟨iy,ry,py,zy⟩:=I.row h2;have l1':=rx.length;have l2':=ry.length;have hT:s.TypeIs (.ref z) "zip":=⟨_,st.z,rfl⟩
  unfold pyNext;refine wpAny_bind (wpAny_attempt (wpAny_callSpecial?_slot (name:=Str.ofString "__next__") hT F.slot_zip_next (wpAny_call_entry F.slot_zip_next hT F.entry_zip_next
   (Qf (A:=X.A.in1) (show X.A.in1.handled=none from I.ok.hd hc) N st px py (hend.imp (λq=>by simp;omega) λq=>by simp;omega) λg e kp he=>?_) (F.args_zip_next_1 _))))
  obtain⟨o,ho,hcl⟩:=he;refine wpAny_bind (wpAny_isInstance (T:="StopIteration") (b:=true) ⟨o,ho,hcl⟩ isSubtype_stop (wpAny_pure ⟨rfl,?_⟩));exact I.turns (tk:=s.toks) (λc o nc e=>by
   simp only[mem_cons,not_mem_nil,or_false,not_or]at nc;exact kp c o nc.1 nc.2.2.1 nc.2.2.2.1 nc.2.2.2.2 e) hf
 self:=λ_ _ _ _ _ st h=>wpAny_pyIter_zip st.z h
abbrev E5(tp:Bool)(l:Addr):Obj:={ cls:=.type (match tp with|true=>"tuple_iterator" | false=>"list_iterator"),data:=.fields #[.ref l,.int 0 0] }
abbrev zh1(t1:Bool)(h:Heap)(l1:Addr):Heap:=h.push (E5 t1 l1)
abbrev zh2(t1 t2:Bool)(h:Heap)(l1 l2:Addr):Heap:=(zh1 t1 h l1).push (E5 t2 l2)
abbrev zh3(t1 t2:Bool)(h:Heap)(l1 l2:Addr):Heap:=(zh2 t1 t2 h l1 l2).push { cls:=.type "tuple",data:=.seq #[.ref h.objs.size,.ref (zh1 t1 h l1).objs.size] }
abbrev zh4(t1 t2:Bool)(h:Heap)(l1 l2:Addr):Heap:=(zh3 t1 t2 h l1 l2).push { cls:=.type "tuple",data:=.seq #[.none,.none] }
abbrev zh5(t1 t2:Bool)(h:Heap)(l1 l2:Addr):Heap:=(zh4 t1 t2 h l1 l2).push { cls:=.type "zip",data:=.fields #[.none,.bool false,.bool false,.ref (zh2 t1 t2 h l1 l2).objs.size,.ref (zh3 t1 t2 h l1 l2).objs.size] }
set_option maxHeartbeats 4000000 in
def Qh(t1 t2:Bool)(l1 l2:Addr)(xs ys:Array Value):
 Meets (Builtin.«zip.__new__» ⟨[.type "zip",.ref l1,.ref l2],[]⟩) (λ_ R s=>RowL t1 s.heap l1 xs/\RowL t2 s.heap l2 ys/\R (.ok (.ret (.ref (zh4 t1 t2 s.heap l1 l2).objs.size))) { s with heap:=zh5 t1 t2 s.heap l1 l2 }):=
 .of_wp λprog w A R s h=>by
  obtain⟨hp,g,d,tk,os⟩:=s;obtain⟨q1,q2,h⟩:=h;have hsub:=sub_zip;have q2':RowL t2 (hp.push (E5 t1 l1)) l2 ys:=q2.at λo e=>Heap.get?_push_of_some _ e;cases t1<;>cases t2
  .have p1:Heap.IsList (Shared.heap ⟨hp,g,d,tk,os⟩) l1 xs:=q1;have p2:Heap.IsList (Shared.heap ⟨hp.push (E5 false l1),g,d,tk,os⟩) l2 ys:=q2'
   wp_walk using wpAny_pyIter_list p1,wpAny_pyIter_list p2
   exact⟨_,rfl,h⟩
  .have p1:Heap.IsList (Shared.heap ⟨hp,g,d,tk,os⟩) l1 xs:=q1;have p2:Heap.IsTuple (Shared.heap ⟨hp.push (E5 false l1),g,d,tk,os⟩) l2 ys:=q2'
   wp_walk using wpAny_pyIter_list p1,wpAny_pyIter_tuple p2
   exact⟨_,rfl,h⟩
  .have p1:Heap.IsTuple (Shared.heap ⟨hp,g,d,tk,os⟩) l1 xs:=q1;have p2:Heap.IsList (Shared.heap ⟨hp.push (E5 true l1),g,d,tk,os⟩) l2 ys:=q2'
   wp_walk using wpAny_pyIter_tuple p1,wpAny_pyIter_list p2
   exact⟨_,rfl,h⟩
  .have p1:Heap.IsTuple (Shared.heap ⟨hp,g,d,tk,os⟩) l1 xs:=q1;have p2:Heap.IsTuple (Shared.heap ⟨hp.push (E5 true l1),g,d,tk,os⟩) l2 ys:=q2'
   wp_walk using wpAny_pyIter_tuple p1,wpAny_pyIter_tuple p2
   exact⟨_,rfl,h⟩
def Ta{n l1 l2:Addr}(h1:l1<n)(h2:l2<n):ZNe (n+4) (n+2) (n+3) n (n+1) l1 l2:=by
 have k1:@LT.lt Nat _ l1 n:=h1;have k2:@LT.lt Nat _ l2 n:=h2;constructor<;>(intro z;have z:@Eq Nat _ _:=z;omega)
def Mk{tp:Bool}{h:Heap}{a l:Addr}(e:h.get? a=some (E5 tp l)):RowI tp h a l 0:=by
 cases tp with
 |true=>exact⟨_,e,rfl,rfl⟩
 |false=>exact⟨_,e,rfl,rfl⟩
section
variable{prog:Program}{w:World}{A:Around}{E:Value->Shared->Prop}{s:Shared}
def Qi{t1 t2:Bool}{l1 l2:Addr}{xs ys:Array Value}{Q:Value->Shared->Prop}(q1:RowL t1 s.heap l1 xs)(q2:RowL t2 s.heap l2 ys)
 (h:∀g,ZAt t1 t2 g (s.heap.objs.size+4) (s.heap.objs.size+2) (s.heap.objs.size+3) s.heap.objs.size (s.heap.objs.size+1) l1 l2 .none 0 0->(∀c o,s.heap.get? c=some o->g.get? c=some o)->Q (.ref (s.heap.objs.size+4)) { s with heap:=g }):
 wpAny (model prog w) A (call (.type "zip") [.ref l1,.ref l2]) Q E s:=by
 refine callType_new F.called_zip (by decide) (F.typeCall_zip_2 _ _) (F.newCall_zip_2 _ _) (λobj=>F.args_object_init_3 obj _ _) F.entry_zip_new (Qh t1 t2 l1 l2 xs ys) ⟨q1,q2,?_⟩;have n1:(zh1 t1 s.heap l1).objs.size=s.heap.objs.size+1:=Heap.size_push ..;have n2:(zh2 t1 t2 s.heap l1 l2).objs.size=s.heap.objs.size+2:=by rw[Heap.size_push,n1]
 have n3:(zh3 t1 t2 s.heap l1 l2).objs.size=s.heap.objs.size+3:=by rw[Heap.size_push,n2]
 have n4:(zh4 t1 t2 s.heap l1 l2).objs.size=s.heap.objs.size+4:=by rw[Heap.size_push,n3]
 have up:∀{g:Heap} {c:Addr} {o x:Obj},g.get? c=some o->(g.push x).get? c=some o:=λe=>Heap.get?_push_of_some _ e;have e5:(zh5 t1 t2 s.heap l1 l2).get? (zh4 t1 t2 s.heap l1 l2).objs.size=some _:=Heap.get?_push_size _ rfl;have e4:(zh5 t1 t2 s.heap l1 l2).get? (zh3 t1 t2 s.heap l1 l2).objs.size=some _:=up (Heap.get?_push_size _ rfl);have e3:(zh5 t1 t2 s.heap l1 l2).get? (zh2 t1 t2 s.heap l1 l2).objs.size=some _:=up (up (Heap.get?_push_size _ rfl));have e2:(zh5 t1 t2 s.heap l1 l2).get? (zh1 t1 s.heap l1).objs.size=some (E5 t2 l2):=up (up (up (Heap.get?_push_size _ (by cases t2<;>rfl))));have e1:(zh5 t1 t2 s.heap l1 l2).get? s.heap.objs.size=some (E5 t1 l1):=up (up (up (up (Heap.get?_push_size _ (by cases t1<;>rfl)))));show _/\_;rw[n2,n3,n4]at e5;rw[n1,n2]at e3;rw[n3]at e4;rw[n1]at e2;rw[n4];exact⟨⟨_,e5,rfl⟩,h _ ⟨e5,e3,⟨_,_,e4⟩,Mk e1,Mk e2⟩ λc o x=>up (up (up (up (up x))))⟩
end
def OI(K:PySem.W.Frag)(t1 t2:Bool)(ta:TA):TI:=λσ H R=>ta σ H λvs H1=>∃a b xs ys,vs=[.ref a,.ref b]/\SqS K t1 H1 a xs/\SqS K t2 H1 b ys/\R (Itz K t1 t2 a b) H1
section
variable{X:Cx}
def YS{t1 t2:Bool}{a b:Expr}{ta:TA}{elts:List Expr}{kk:Nat}{tpos p pos:Pos}(hg:Gl X "zip")(hm:X.mg "zip"=none)(ha:PA X [a,b] ta)(hs:starEach [a,b] X.env=[(false,eval a X.env),(false,eval b X.env)]:=by rfl)(hs2:starEach [b] X.env=[(false,eval b X.env)]:=by rfl):
 PI X (.Tuple elts kk tpos) (.Call (.Name "zip" p) [a,b] [] pos) (OI X.K t1 t2 ta):=by
 intro pins s σ H R I h;refine Call_ (F0 I hg hm boot_zip (PyProof.Rows.callWith_type1 (thn (ha pos pins s σ H _ I h) λus s1 ⟨vs,H1,I1,r1,q1⟩=>?_) (by rw[hs,hs2]) (by rw[hs2];rfl)));obtain⟨l1,l2,xs,ys,e,c1,c2,q⟩:=q1;subst e;obtain⟨u,v,rfl,ru,rv⟩:=NQ r1;cases ru;cases rv;obtain⟨ix,rx,px,zx⟩:=I1.row c1;obtain⟨iy,ry,py,zy⟩:=I1.row c2;refine Qi px py λg Z kp=>wpAny_pyIter_zip Z.z ?_;refine⟨_,_,_,_,H1,rfl,I1.kept (t':=s1.toks) kp,Qo (Ta px.lt py.lt),Z,λc hc=>?_,q⟩;simp only[mem_cons,not_mem_nil,or_false]at hc;have le:s1.heap.objs.size<=c:=by
  rcases hc with rfl|rfl|rfl|rfl|rfl
  .exact Nat.le_add_right _ _
  .exact Nat.le_add_right _ _
  .exact Nat.le_add_right _ _
  .exact le_refl _
  .exact Nat.le_add_right _ _
 exact I1.fpOk le (I1.hok.fresh le)
def VO(K:PySem.W.Frag){t1 t2:Bool}{a b:Expr}{ta:TA}{elts:List Expr}{kk:Nat}{tpos p pos:Pos}(hg:Gl X "zip")(hm:X.mg "zip"=none)(ha:PA X [a,b] ta)(hK:X.K=K:=by rfl)(hs:starEach [a,b] X.env=[(false,eval a X.env),(false,eval b X.env)]:=by rfl)(hs2:starEach [b] X.env=[(false,eval b X.env)]:=by rfl):
 PI X (.Tuple elts kk tpos) (.Call (.Name "zip" p) [a,b] [] pos) (OI K t1 t2 ta):=by subst hK;exact YS hg hm ha hs hs2
end
def au(K:PySem.W.Frag)(ρ:List Addr)(H:Hp)(tp:Bool)(a:Addr)(ds:List D)(g:Gd):Prop:=∀(ρ2:List Addr) (H2:Hp) (hd2:Hd),Ext ρ H ρ2 H2->RH K ρ2 H2 hd2->GOk hd2 g->∃xs,SqS K tp H2 a xs/\RDs K ρ2 H2 ds xs
def RRw(K:PySem.W.Frag)(tp:Bool)(t:TE)(m:MI):Prop:=∀(ρ:List Addr) (σ:St) (H:Hp) (hd:Hd) (ls:Ls) (Q:VK) (d:List D) (g:Gd) (hd':Hd),RH K ρ H hd->RL K ρ H ls σ->m ls hd=some ((d,g),hd') ->
 (∀ρ' H' a,Ext ρ H ρ' H'->RH K ρ' H' hd'->GOk hd' g->au K ρ' H' tp a d g->Q (.ref a) H')->t σ H Q
structure QR(K:PySem.W.Frag)(tp:Bool)(X:Cx)(e:Expr)(t:TE)(m:MI):Prop where
 p:PE X e t
 r:RRw K tp t m
section
variable{K:PySem.W.Frag}{ρ ρ':List Addr}{H H':Hp}{hd hd':Hd}
def Ww{t:TE}{m:ME}(h:RE K t m):RRw K true t (BD m):=by
 intro ρ σ H hd ls Q d g hd' hR hL hm hQ;obtain⟨⟨d1,h1⟩,e1,hm⟩:=dF hm;obtain⟨ds,e2,e3⟩:=dG hm;cases e3;refine h ρ σ H hd ls _ d1 _ hR hL e1 λρ1 H1 v x1 R1 r1=>?_;obtain⟨a,xs,rfl,q,r⟩:=r1.tup e2;exact hQ ρ1 H1 a x1 R1 (AU _) λρ2 H2 hd2 x2 R2 _=>⟨xs,(x2.grow R1).sq q,r.ext R1 x2⟩
def UB{t:TE}{m:ME}(h:RE K t m):RRw K false t (CY m):=by
 intro ρ σ H hd ls Q d g hd' hR hL hm hQ;obtain⟨⟨d1,h1⟩,e1,hm⟩:=dF hm;dsimp only at hm;split at hm
 .next n=>
  split at hm
  .next ds q=>
   cases hm;refine h ρ σ H hd ls _ _ _ hR hL e1 λρ1 H1 v x1 R1 r1=>?_;simp only[RD]at r1;obtain⟨a,hn,rfl⟩:=r1;refine hQ ρ1 H1 a x1 R1 (λp z=>by simp at z;subst z;exact q) λρ2 H2 hd2 x2 R2 G2=>?_;have hn2:ρ2[n]?=some a:=by
    obtain⟨r,rfl,_⟩:=x2.pre;rw[List.getElem?_append_left (List.getElem?_eq_some_iff.mp hn).1];exact hn
   obtain⟨ys,e4,e5⟩:=R2.lst hn2 (G2 (n,d) (by simp));exact⟨ys,SqL.of e4,e5⟩
  .cases hm
 .next ns=>
  cases hm;refine h ρ σ H hd ls _ _ _ hR hL e1 λρ1 H1 v x1 R1 r1=>?_;simp only[RD]at r1;obtain⟨a,rfl,q⟩:=r1;exact hQ ρ1 H1 a x1 R1 (AU _) λρ2 H2 hd2 x2 R2 _=>⟨_,(q.grow (x2.grow R1)).sq,HM⟩
 .cases hm
open Classical in
def JQ(ma mb:MI):MI:=λls hd=>(ma ls hd).bind λp=>(mb ls p.2).bind λq=>if GOk q.2 p.1.2 then some ((List.zipWith (λx y=>AK [x,y]) p.1.1 q.1.1,p.1.2++q.1.2),q.2)else none
def XC{t1 t2:Bool}{ta tb:TE}{ma mb:MI}(ha:RRw K t1 ta ma)(hb:RRw K t2 tb mb):RIt K (OI K t1 t2 (Bs ta (Bs tb Cp))) (JQ ma mb):=by
 intro ρ σ H hd ls Q d g hd' hR hL hm hQ;obtain⟨⟨⟨d1,g1⟩,h1⟩,e1,hm⟩:=dF hm;obtain⟨⟨⟨d2,g2⟩,h2⟩,e2,hm⟩:=dF hm;dsimp only at hm;split at hm
 .next gk=>
  cases hm;refine ha ρ σ H hd ls _ d1 g1 h1 hR hL e1 λρ1 H1 a x1 R1 G1 S1=>?_;refine hb ρ1 σ H1 h1 ls _ d2 g2 _ R1 (hL.ext hR x1) e2 λρ2 H2 b x2 R2 G2 S2=>?_;obtain⟨xs,c1,r1⟩:=S1 ρ2 H2 _ x2 R2 gk;obtain⟨ys,c2,r2⟩:=S2 ρ2 H2 _ .refl R2 G2;refine⟨a,b,xs,ys,rfl,c1,c2,hQ ρ2 H2 _ (x1.trans R1 x2) R2 (λp hp=>(mem_append.mp hp).elim (gk p) (G2 p)) ?_⟩;intro ρ3 H3 hd3 x3 R3 G3 i;obtain⟨xs,c1,r1⟩:=S1 ρ3 H3 _ (x2.trans R2 x3) R3 λp hp=>G3 p (mem_append_left _ hp);obtain⟨ys,c2,r2⟩:=S2 ρ3 H3 _ x3 R3 λp hp=>G3 p (mem_append_right _ hp);have l1:=r1.len;have l2:=r2.len;refine⟨λhi=>?_,λhi=>⟨xs,ys,c1,c2,?_⟩⟩
  .simp only[List.length_zipWith]at hi;have i1:d1[i]?=some (d1[i]'(by omega)):=List.getElem?_eq_getElem _;have i2:d2[i]?=some (d2[i]'(by omega)):=List.getElem?_eq_getElem _;obtain⟨x,x4,x5⟩:=r1.get i1;obtain⟨y,y4,y5⟩:=r2.get i2;refine⟨⟨xs,ys,x,y,c1,c2,x4,y4⟩,λz H4 hz=>?_⟩;obtain⟨p,u,v,fp,rfl,rfl,hu,hv⟩:=hz;have eu:=hu xs c1;rw[x4]at eu;cases eu;have ev:=hv ys c2;rw[y4]at ev;cases ev;obtain⟨R4,x6⟩:=R3.hid (ho:=.tup [x,y]) fp;refine⟨ρ3,AK [d1[i]'(by omega),d2[i]'(by omega)],x6,rfl,R4,?_,Ba (SqT.of Ad) (.cons (x5.ext R3 x6) (.cons (y5.ext R3 x6) .nil))⟩;simp[List.getElem?_zipWith,i1,i2]
  .simp only[List.length_zipWith]at hi;omega
 .cases hm
end
section
variable(K:PySem.W.Frag){X:Cx}{a b e:Expr}{ta tb te:TE}{me:ME}{m:MA}
def Xp(h:QE K X e te me):QR K true X e te (BD me):=⟨h.p,Ww h.r⟩
def Us(h:QE K X e te me):QR K false X e te (CY me):=⟨h.p,UB h.r⟩
def Xv{t1 t2:Bool}{ma mb:MI}{elts:List Expr}{kk:Nat}{tpos p pos:Pos}(hm:X.mg "zip"=none)(ha:QR K t1 X a ta ma)(hb:QR K t2 X b tb mb)(hg:Gl X "zip":=by rfl)(hK:X.K=K:=by rfl)(hs:starEach [a,b] X.env=[(false,eval a X.env),(false,eval b X.env)]:=by rfl)(hs2:starEach [b] X.env=[(false,eval b X.env)]:=by rfl):
 QI K X (.Tuple elts kk tpos) (.Call (.Name "zip" p) [a,b] [] pos) (OI K t1 t2 (Bs ta (Bs tb Cp))) (JQ ma mb):=⟨VO K hg hm (Ck ha.p (Ck hb.p EC hs2) (by rw[hs,hs2])) hK hs hs2,XC ha.r hb.r⟩
end
section
variable{K:PySem.W.Frag}
def Bi(ml:MA)(mb:ME):ME:=λls hd=>(ml ls hd).bind λp=>(mb ls p.2).bind λq=>match q.1 with
 |.im (.int i)=>(atI p.1 i).map (·,q.2)
 |_=>none
def XT{ta tb:TE}{ml:MA}{mb:ME}(ha:RN K ta ml)(hb:RE K tb mb):RE K (tOp (KP K) ta tb) (Bi ml mb):=by
 and_intros;obtain⟨⟨d1,h1⟩,e1,hm⟩:=dF hm;obtain⟨⟨d2,h2⟩,e2,hm⟩:=dF hm;dsimp only at hm;split at hm
 .obtain⟨w,e3,e4⟩:=dG hm;cases e4;refine ha ρ σ H hd ls _ d1 h1 hR hL e1 λρ1 H1 a xs x1 R1 na oa ea r1=>?_;refine hb ρ1 σ H1 h1 ls _ _ _ R1 (hL.ext hR x1) e2 λρ2 H2 v2 x2 R2 r2=>?_;simp only[RD,RI]at r2;subst r2;have r1':=r1.ext R1 x2;obtain⟨j,j1,j2⟩:=NM r1'.len e3;obtain⟨x,y1,y2⟩:=r1'.get j1;exact .inl ⟨a,xs,_,x,rfl,rfl,SqL.of (x2.keep a _ ea oa nt),j2 x y1,hQ ρ2 H2 x (x1.trans R1 x2) R2 y2⟩
 .cases hm
def GC(neg:Bool)(x y:PyData)(hd:Hd):Option (D×Hd):=if x.canLay0=true/\y.canLay0=true/\min x.depth y.depth<=60 then some (.im (.bl (if neg then !PyData.eqv x y else PyData.eqv x y)),hd)else none
def C4(neg:Bool)(ma:ME)(ml:MA):ME:=λls hd=>(ma ls hd).bind λp=>(ml ls p.2).bind λq=>(pyD q.2 p.1).bind λx=>(B8 q.1).bind λis=>GC neg x (.list (I.pys is)) q.2
def D8(neg:Bool)(ml mk:MA):ME:=λls hd=>(ml ls hd).bind λp=>(mk ls p.2).bind λq=>(B8 p.1).bind λis=>(B8 q.1).bind λjs=>GC neg (.list (I.pys is)) (.list (I.pys js)) q.2
def rEN(K:PySem.W.Frag)(neg:Bool):R2:=λx y H Q=>∃d e,Rep K H d x/\Rep K H e y/\d.canLay0=true/\e.canLay0=true/\min d.depth e.depth<=60/\Q (.bl (if neg then !PyData.eqv d e else PyData.eqv d e)) H
def JH{ρ:List Addr}{H:Hp}{a:Addr}{xs:List V}{ds:List D}{is:List I}(ea:H a=some (.lst xs))(r:RDs K ρ H ds xs)(e:B8 ds=some is):Rep K H (.list (I.pys is)) (.ref a):=by
 rw[DJ e]at r;simp only[Rep];exact⟨a,xs,rfl,SqL.of ea,r.is.rep⟩
def UV{neg:Bool}{ta tb:TE}{ma:ME}{ml:MA}(ha:RE K ta ma)(hb:RN K tb ml):RE K (tOp (rEN K neg) ta tb) (C4 neg ma ml):=by
 and_intros;obtain⟨⟨d1,h1⟩,e1,hm⟩:=dF hm;obtain⟨⟨d2,h2⟩,e2,hm⟩:=dF hm;obtain⟨x,e3,hm⟩:=dF hm;obtain⟨is,e4,hm⟩:=dF hm;unfold GC at hm;split at hm
 .next c=>
  cases hm;refine ha ρ σ H hd ls _ d1 h1 hR hL e1 λρ1 H1 v x1 R1 r1=>?_;refine hb ρ1 σ H1 h1 ls _ d2 _ R1 (hL.ext hR x1) e2 λρ2 H2 a xs x2 R2 na oa ea r2=>?_;exact⟨_,_,Du R2 (r1.ext R1 x2) e3,JH ea r2 e4,c.1,c.2.1,c.2.2,hQ ρ2 H2 _ (x1.trans R1 x2) R2 (by simp[RD,RI])⟩
 .cases hm
def Mn{neg:Bool}{ta tb:TE}{ml mk:MA}(ha:RN K ta ml)(hb:RN K tb mk):RE K (tOp (rEN K neg) ta tb) (D8 neg ml mk):=by
 and_intros;obtain⟨⟨d1,h1⟩,e1,hm⟩:=dF hm;obtain⟨⟨d2,h2⟩,e2,hm⟩:=dF hm;obtain⟨is,e4,hm⟩:=dF hm;obtain⟨js,e3,hm⟩:=dF hm;unfold GC at hm;split at hm
 .next c=>
  cases hm;refine ha ρ σ H hd ls _ d1 h1 hR hL e1 λρ1 H1 a xs x1 R1 na oa ea r1=>?_;refine hb ρ1 σ H1 h1 ls _ d2 _ R1 (hL.ext hR x1) e2 λρ2 H2 b ys x2 R2 nb ob eb r2=>?_;exact⟨_,_,JH (x2.keep a _ ea oa nt) (r1.ext R1 x2) e4,JH eb r2 e3,c.1,c.2.1,c.2.2,hQ ρ2 H2 _ (x1.trans R1 x2) R2 (by simp[RD,RI])⟩
 .cases hm
end
def Pi(K:PySem.W.Frag){X:Cx}(hu:X.A.units+64<cLine)(hK:X.K=K:=by rfl):OpR X (compareOp .Eq) (rEN K false):=JK K hu hK
def Pf(K:PySem.W.Frag){X:Cx}(hu:X.A.units+64<cLine)(hK:X.K=K:=by rfl):OpR X (compareOp .NotEq) (rEN K true):=JJ K hu hK
section
variable(K:PySem.W.Frag){X:Cx}{a b e:Expr}{ta tb te:TE}{ma mb me:ME}{m mk:MA}{pos:Pos}{op:CmpOp}{neg:Bool}
def YF(ha:QN K X a ta m)(hb:QE K X b tb mb)(hs:Jh b:=by exact λ_ _=>rfl)(hK:X.K=K:=by rfl):QE K X (.Subscript a b pos) (tOp (KP K) ta tb) (Bi m mb):=⟨TH ((Le K hK).or (N6 K hK)) ha.p hb.p hs,XT ha.r hb.r⟩
def V5(ho:OpR X (compareOp op) (rEN K neg))(ha:QN K X a ta m)(hb:QN K X b tb mk)(hm:behindInMarks op b=false:=by first|exact FS _|rfl):QE K X (.Compare a [op] [b] pos) (tOp (rEN K neg) ta tb) (D8 neg m mk):=⟨My ho ha.p hb.p hm,Mn ha.r hb.r⟩
def Mu(ho:OpR X (compareOp op) (rEN K neg))(ha:QE K X a ta ma)(hb:QN K X b tb m)(hm:behindInMarks op b=false:=by first|exact FS _|rfl):QT K X (.Compare a [op] [b] pos) (HB (tOp (rEN K neg) ta tb)) (AR (C4 neg ma m)):=⟨HH ho ha.p hb.p hm,Ee (UV ha.r hb.r)⟩
def Uh(ho:OpR X (compareOp op) (rEN K neg))(ha:QN K X a ta m)(hb:QN K X b tb mk)(hm:behindInMarks op b=false:=by first|exact FS _|rfl):QT K X (.Compare a [op] [b] pos) (HB (tOp (rEN K neg) ta tb)) (AR (D8 neg m mk)):=⟨HH ho ha.p hb.p hm,Ee (Mn ha.r hb.r)⟩
end
def CS(lo:Int):Nat->List V
 |0=>[]
 |n+1=>.int lo::CS (lo+1) n
def Nu(lo:Int)(n:Nat):(CS lo n).length=n:=by
 induction n generalizing lo with
 |zero=>rfl
 |succ n ih=>simp[CS,ih]
def LN{K:PySem.W.Frag}{ρ:List Addr}{H:Hp}(lo:Int)(n:Nat):RDs K ρ H (Ai lo n) (CS lo n):=by
 induction n generalizing lo with
 |zero=>simp[Ai,CS,RDs]
 |succ n ih=>exact .cons (by simp[RD,RI]) (ih _)
def IX{lo:Int}:∀{n:Nat} {us:List Value},us.length=n->(∀(j:Nat) (v:Value),us[j]?=some v->∃t,v=.int (lo+j*1) t)->Vals (CS lo n) us
 |0,us,h,_=>by
  have:us=[]:=List.length_eq_zero_iff.mp h;subst this;exact .nil
 |n+1,[],h,_=>by simp at h
 |n+1,u::us,h,k=>by
  obtain⟨t,e⟩:=k 0 u rfl;refine .cons ⟨t,by rw[e];simp⟩ (IX (by simpa using h) λj v q=>?_);obtain⟨t',e'⟩:=k (j+1) v (by simpa using q);exact⟨t',by rw[e'];congr 1;push_cast;omega⟩
def Mr:List V->Hp->VK->Prop:=λxs H Q=>∃j:Int,xs=[.int j]/\∀p,H p=none->Q (.ref p) (upd H p (.rng 0 j))
def Mq:List V->Hp->VK->Prop:=λxs H Q=>∃i j:Int,xs=[.int i,.int j]/\∀p,H p=none->Q (.ref p) (upd H p (.rng i j))
def LR:List V->Hp->VK->Prop:=λxs H Q=>∃a lo hi,xs=[.ref a]/\H a=some (.rng lo hi)/\(-(2^62)<=lo/\lo<2^62/\-(2^62)<=hi/\hi<2^62)/\(hi-lo).toNat<=2^24/\∀p,H p=none->Q (.ref p) (upd H p (.lst (CS lo (hi-lo).toNat)))
section
variable{X:Cx}
def call_rng1:CallR X (.type "range") Mr:=by
 intro pins s σ H xs us Q I r h;obtain⟨j,rfl,q⟩:=h;obtain⟨u,rfl,t,rfl⟩:=C9 r;exact call_range_1 ⟨.ref s.heap.objs.size,_,I.laid (a:=s.heap.objs.size) (o:=.rng 0 j) (λb o e=>Heap.get?_push_of_some _ e) (le_refl _) ⟨_,_,_,Heap.get?_push_size _ rfl⟩,rfl,q _ (I.hok.fresh (le_refl _))⟩
def QQ:CallR X (.type "range") Mq:=by
 intro pins s σ H xs us Q I r h;obtain⟨i,j,rfl,q⟩:=h;obtain⟨u,v,rfl,⟨t,rfl⟩,⟨t',rfl⟩⟩:=NQ r;exact call_range_2 ⟨.ref s.heap.objs.size,_,I.laid (a:=s.heap.objs.size) (o:=.rng i j) (λb o e=>Heap.get?_push_of_some _ e) (le_refl _) ⟨_,_,_,Heap.get?_push_size _ rfl⟩,rfl,q _ (I.hok.fresh (le_refl _))⟩
def a0{lo hi:Int}:Builtin.Range.rangeSize lo hi 1=((hi-lo).toNat:Nat):=by rw[rangeSize_one];split<;>omega
def OG{lo:Int}{n:Nat}{acc:Array Value}(it:ItemsOf (λi v=>∃t,v=.int (lo+i*1) t) acc n):Vals (CS lo n) acc.toList:=IX (by simpa using it.1) λj v q=>it.2 j v (by simpa using q)
def Oa(hc:X.calm=true):CallR X (.type "list") LR:=by
 intro pins s σ H xs us Q I r h;obtain⟨a,lo,hi,rfl,ha,⟨b1,b2,b3,b4⟩,hz,q⟩:=h;obtain⟨u,rfl,ru⟩:=C9 r;cases ru;obtain⟨t,u,v,hr⟩:∃t u v,s.heap.get? a=some { cls:=.type "range",data:=.fields #[.int lo t,.int hi u,.int 1 v] }:=I.hok a _ ha;refine call_list_range (I.ok.hd hc) hr (small_one b1 b2 b3 b4) a0 hz λg tk acc c' kp e it=>?_;exact⟨.ref s.heap.objs.size,_,I.laid (t':=tk) (o:=.lst _) kp (le_refl _) ⟨by rw[Nu,sizeLine_eq];omega,acc.toList,c',OG it,by simpa using e⟩,rfl,q _ (I.hok.fresh (le_refl _))⟩
end
section
variable{K:PySem.W.Frag}
open Classical in
def Ge(m:MA):MA:=λls hd=>(m ls hd).bind λp=>match p.1 with
 |[.im (.int j)]=>if KN j then some (Ai 0 j.toNat,p.2)else none
 |[.im (.int i),.im (.int j)]=>if T4 i j then some (Ai i (j-i).toNat,p.2)else none
 |_=>none
def PP:List V->Hp->VK->Prop:=λxs H Q=>Mr xs H Q∨Mq xs H Q
def Rb{t:TA}{m:MA}(h:RA K t m):RN K (tCB LR (Bs (tCB PP t) Cp)) (Ge m):=by
 and_intros;obtain⟨⟨d1,h1⟩,e1,hm⟩:=dF hm;dsimp only at hm;refine h ρ σ H hd ls _ d1 h1 hR hL e1 λρ1 H1 v x1 R1 r1=>?_;split at hm
 .next j=>
  split at hm
  .next c=>
   have c:j<2^24/\-(2^62)<=j:=c;cases hm;simp only[RDs,RD,RI]at r1;obtain⟨x,r,rfl,rfl,rfl⟩:=r1;refine .inl ⟨j,rfl,λp hp=>⟨p,0,j,rfl,Ad,⟨by decide,by decide,c.2,by omega⟩,by omega,λl hl=>?_⟩⟩;obtain⟨R2,x2⟩:=R1.hid (ho:=.rng 0 j) hp;obtain⟨R3,x3⟩:=R2.hid (ho:=.lst (CS 0 (j-0).toNat)) hl;refine hQ ρ1 _ l (CS 0 (j-0).toNat) ((x1.trans R1 x2).trans R2 x3) R3 ((x1.trans R1 x2).none hR hl R2) (R2.out hl) Ad ?_;rw[Int.sub_zero];exact LN 0 _
  .cases hm
 .next i j=>
  split at hm
  .next c=>
   cases hm;simp only[RDs,RD,RI]at r1;obtain⟨x,r,rfl,rfl,y,r2,rfl,rfl,rfl⟩:=r1;refine .inr ⟨i,j,rfl,λp hp=>⟨p,i,j,rfl,Ad,⟨c.1.1,c.1.2,c.2.1.1,c.2.1.2⟩,c.2.2,λl hl=>?_⟩⟩;obtain⟨R2,x2⟩:=R1.hid (ho:=.rng i j) hp;obtain⟨R3,x3⟩:=R2.hid (ho:=.lst (CS i (j-i).toNat)) hl;exact hQ ρ1 _ l (CS i (j-i).toNat) ((x1.trans R1 x2).trans R2 x3) R3 ((x1.trans R1 x2).none hR hl R2) (R2.out hl) Ad (LN i _)
  .cases hm
 .cases hm
def aW(m:MA):ME:=λls hd=>(Ge m ls hd).bind λp=>some (AK p.1,p.2)
def Sx(xs:List Int):List Int:=xs.mergeSort (λa b=>decide (a<=b))
def Vs(m:MI):MA:=λls hd=>(m ls hd).bind λp=>(BZ p.1.1).bind λns=>if ns.length<64 then some ((Sx ns).map λi=>.im (.int i),p.2)else none
end
section
variable(K:PySem.W.Frag){X:Cx}{a b e:Expr}{ta tb te:TE}{me:ME}{m:MA}{t:TA}{p p2 pos pos2:Pos}{es:List Expr}
def Ry(hm:X.mg "list"=none)(hm2:X.mg "range"=none)(ha:QA K X (a::es) t m)(hc:X.calm=true:=by rfl)(hg:Gl X "list":=by rfl)(hg2:Gl X "range":=by rfl)(he2:starEach (a::es) X.env=(false,eval a X.env)::starEach es X.env:=by rfl)(hpl:(backTo pos2 (starEach es X.env)).any (·.1)=false:=by rfl)
 (he:starEach [.Call (.Name "range" p2) (a::es) [] pos2] X.env=[(false,eval (.Call (.Name "range" p2) (a::es) [] pos2) X.env)]:=by rfl):
 QN K X (.Call (.Name "list" p) [.Call (.Name "range" p2) (a::es) [] pos2] [] pos) (tCB LR (Bs (tCB PP t) Cp)) (Ge m):=
 ⟨DO (Oa hc) hg hm Jd (Ck (DO (call_rng1.or QQ) hg2 hm2 boot_range ha.p (by decide) (by decide) he2 hpl) EC he) (by decide) (by decide) he rfl,Rb ha.r⟩
end
end L2
namespace L2
structure BltA(mg:PySem.Str->Option PySem.Value):Prop where
 list:mg "list"=none
 tuple:mg "tuple"=none
 len:mg "len"=none
 range:mg "range"=none
 repr:mg "repr"=none
 sum:mg "sum"=none
 min:mg "min"=none
 max:mg "max"=none
 abs:mg "abs"=none
 all:mg "all"=none
 any:mg "any"=none
 sorted:mg "sorted"=none
 zip:mg "zip"=none
 isinstance:mg "isinstance"=none
 int:mg "int"=none
 bool:mg "bool"=none
 str:mg "str"=none
 set:mg "set"=none
 enumerate:mg "enumerate"=none
 reversed:mg "reversed"=none
 dict:mg "dict"=none
end L2
namespace L2
open PySem PySem.Spec PyProof.Rows
section
variable{ls:Ls}{hd:Hd}{a b c:MS}{ma mb mc:ME}{ta tb:MT}{m m1 m2:MA}{n:MG}{ns:MGs}{d e:D}
@[simp] theorem Do:A7 a b ls hd=(a ls hd).bind λp=>match p.1 with
 |.nx ls1=>b ls1 p.2
 |f=>some (f,p.2):=rfl
@[simp] theorem cD:Ap ls hd=some (.nx ls,hd):=rfl
@[simp] theorem NC:BE ma ls hd=(ma ls hd).bind λp=>some (.nx ls,p.2):=rfl
@[simp] theorem ZR:Aa ma ls hd=(ma ls hd).bind λp=>some (.rt p.1,p.2):=rfl
@[simp] theorem c8:aX ls hd=some (.rt (.im .non),hd):=rfl
@[simp] theorem bX:Yz ls hd=some (.bk ls,hd):=rfl
@[simp] theorem cH:aY ls hd=some (.ct ls,hd):=rfl
@[simp] theorem QB:B2 ta a b ls hd=(ta ls hd).bind λp=>if p.1=true then a ls p.2 else b ls p.2:=rfl
@[simp] theorem D3:Fz ma n ls hd=(ma ls hd).bind λp=>(n p.1 ls p.2).map λls'=>(.nx ls',p.2):=rfl
@[simp] theorem Fb(i:Nat):AG i d ls hd=some (ls.set i (some d)):=rfl
@[simp] theorem cA(k:Nat):Bx k ns d ls hd=(AN d).bind λds=>if ds.length=k then ns ds ls hd else none:=rfl
@[simp] theorem bU(d:D)(ds:List D):Ac n ns (d::ds) ls hd=(n d ls hd).bind λls1=>ns ds ls1 hd:=rfl
@[simp] theorem cC:CF [] ls hd=some ls:=rfl
@[simp] theorem cO(ix:List Nat):I0 ix m ls hd=(m ls hd).bind λp=>if p.1.length=ix.length then some (.nx ((ix.zip p.1).foldl (λl q=>l.set q.1 (some q.2)) ls),p.2)else none:=rfl
@[simp] theorem c9(i j k:Nat):Ii i j k m ls hd=I0 [k,j,i] (λls hd=>(m ls hd).map λp=>(p.1.reverse,p.2)) ls hd:=rfl
@[simp] theorem EJ(i:Nat):A2 i ls hd=match ls[i]? with
 |some (some d)=>some (d,hd)
 |_=>none:=rfl
@[simp] theorem OS(i:I):mC i ls hd=some (.im i,hd):=rfl
@[simp] theorem KY(f:D->D->Hd->Option (D×Hd)):mOp f ma mb ls hd=(ma ls hd).bind λp=>(mb ls p.2).bind λq=>f p.1 q.1 q.2:=rfl
@[simp] theorem cT:EQ ta tb ls hd=(ta ls hd).bind λp=>if p.1=true then tb ls p.2 else some (false,p.2):=rfl
@[simp] theorem cn:mOr ta tb ls hd=(ta ls hd).bind λp=>if p.1=true then some (true,p.2)else tb ls p.2:=rfl
@[simp] theorem cQ:Dx ta ls hd=(ta ls hd).bind λp=>some (!p.1,p.2):=rfl
@[simp] theorem Q4:Bg ma ls hd=(ma ls hd).bind λp=>(DY p.2 p.1).map (·,p.2):=rfl
@[simp] theorem JY:AR ma ls hd=(ma ls hd).bind λp=>match p.1 with
 |.im (.bl b)=>some (b,p.2)
 |_=>none:=rfl
@[simp] theorem af:mIf ta ma mb ls hd=(ta ls hd).bind λp=>if p.1=true then ma ls p.2 else mb ls p.2:=rfl
@[simp] theorem cI:Cb ma mb ls hd=(AR ma ls hd).bind λp=>if p.1=true then mb ls p.2 else some (.im (.bl false),p.2):=rfl
@[simp] theorem cP:bK ma mb ls hd=(AR ma ls hd).bind λp=>if p.1=true then some (.im (.bl true),p.2)else mb ls p.2:=rfl
@[simp] theorem cB:EU ma ls hd=(AR ma ls hd).bind λp=>some (.im (.bl (!p.1)),p.2):=rfl
@[simp] theorem Fa:A5 ls hd=some ([],hd):=rfl
@[simp] theorem Fc:A1 ma m ls hd=(ma ls hd).bind λp=>(m ls p.2).bind λq=>some (p.1::q.1,q.2):=rfl
open Classical in
@[simp] theorem ZN:AI m ls hd=(m ls hd).bind λp=>if Be p.1.length then some (AK p.1,p.2)else none:=rfl
open Classical in
@[simp] theorem Lm:AV m ls hd=(m ls hd).bind λp=>if Be p.1.length then some (p.1,p.2)else none:=rfl
@[simp] theorem Ll:AO m ls hd=(m ls hd).bind λp=>some (.mu p.2.length,p.2++[.lst p.1]):=rfl
@[simp] theorem ZS:C7 ma ls hd=(ma ls hd).bind λp=>match p.1 with
 |.im (.int i)=>some (.im (.int (-i)),p.2)
 |_=>none:=rfl
@[simp] theorem cR(neg:Bool):bL neg ma ls hd=(ma ls hd).bind λp=>some (.im (.bl (match p.1 with
 |.im .non=>!neg
 | _=>neg)),p.2):=rfl
@[simp] theorem ag(g:Int->Int->Option I)(i j:Int):fI g (.im (.int i)) (.im (.int j)) hd=(g i j).map (.im ·,hd):=rfl
@[simp] theorem NB(f g:D->D->Hd->Option (D×Hd)):CK f g d e hd=match f d e hd with
 |some z=>some z
 |none=>g d e hd:=rfl
@[simp] theorem ZU(neg:Bool)(i j:Int):FH neg (.im (.int i)) (.im (.int j)) hd=some (.im (.bl (if neg then !decide (i=j)else decide (i=j))),hd):=by simp[FH,scI,LD]
@[simp] theorem cS(neg:Bool)(i j:Str):FH neg (.im (.str i)) (.im (.str j)) hd=some (.im (.bl (if neg then !decide (i=j)else decide (i=j))),hd):=by simp[FH,scI,LD]
@[simp] theorem TU(i:Int):gIx d (.im (.int i)) hd=(B9 hd d).bind λds=>(atI ds i).map (·,hd):=rfl
@[simp] theorem WG:BY d e hd=(BV hd d).bind λkvs=>(Ch e).bind λk=>(B1 kvs k).map (·,hd):=rfl
@[simp] theorem cq(f:List D->Hd->Option (D×Hd)):mCB f m ls hd=(m ls hd).bind λp=>f p.1 p.2:=rfl
@[simp] theorem ah(tp:Bool)(g:List D->Option D):f1 tp g [d] hd=((if tp then B9 hd d else BL hd d)).bind λds=>(g ds).map (·,hd):=rfl
@[simp] theorem QC(g:List D->Option D):Dk g m ls hd=(m ls hd).bind λp=>(g p.1).map (·,p.2):=rfl
@[simp] theorem OR(f:D->List D->Hd->Option (D×Hd)):mMt f ma m ls hd=(ma ls hd).bind λp=>match BL p.2 p.1 with
 |some _=>(m ls p.2).bind λq=>f p.1 q.1 q.2
 |none=>none:=rfl
@[simp] theorem cF(i j:Int):ae [.im (.int i),.im (.int j)] hd=some (.im (.int (if j>i then j else i)),hd):=rfl
@[simp] theorem cE(i j:Int):HQ [.im (.int i),.im (.int j)] hd=some (.im (.int (if j<i then j else i)),hd):=rfl
@[simp] theorem cU(i:Int):bR [.im (.int i)] hd=some (.im (.int (if i<0 then -i else i)),hd):=rfl
@[simp] theorem Q6:Bi m ma ls hd=(m ls hd).bind λp=>(ma ls p.2).bind λq=>match q.1 with
 |.im (.int i)=>(atI p.1 i).map (·,q.2)
 |_=>none:=rfl
@[simp] theorem Q7:BD ma ls hd=(ma ls hd).bind λp=>(AN p.1).map λds=>((ds,[]),p.2):=rfl
@[simp] theorem ZT:IA m ls hd=(m ls hd).map λp=>((p.1,[]),p.2):=rfl
@[simp] theorem Q9:CY ma ls hd=(ma ls hd).bind λp=>match p.1 with
 |.mu n=>match p.2[n]? with
  |some (.lst ds)=>some ((ds,[(n,ds)]),p.2)
  |_=>none
 |.ro ns=>some ((ns.map λn=>.im (.int n),[]),p.2)
 |_=>none:=rfl
open Classical in
@[simp] theorem Q8:Cq m ls hd=(m ls hd).bind λp=>match p.1 with
 |[.im (.int j)]=>if Et j then some ((Ai 0 j.toNat,[]),p.2)else none
 |_=>none:=rfl
open Classical in
@[simp] theorem NA:E4 m ls hd=(m ls hd).bind λp=>match p.1 with
 |[.im (.int i),.im (.int j)]=>if LK i j then some ((Ai i (j-i).toNat,[]),p.2)else none
 |_=>none:=rfl
@[simp] theorem Ln(mi:MI):BO mi n a ls hd=(mi ls hd).bind λp=>BR n a p.1.2 p.1.1 ls p.2:=rfl
open Classical in
@[simp] theorem WH(k:Nat)(ix:List Nat)(mi:MI):B5 k ix mi n ta ma ls hd=(mi ls hd).bind λp=>if Be p.1.1.length then As n ta ma p.1.2 p.1.1 (E8 k ix ls) p.2 else none:=rfl
@[simp] theorem cM:Bc ls hd=some (true,hd):=rfl
@[simp] theorem bW(F:List D->Hd->Option (D×Hd)):Ak F m ls hd=(m ls hd).bind λp=>F p.1 p.2:=rfl
@[simp] theorem Q5:AJ ls hd=some (none,hd):=rfl
@[simp] theorem N9:AQ ma ls hd=(ma ls hd).bind λp=>match p.1 with
 |.im (.int i)=>some (some i,p.2)
 |_=>none:=rfl
@[simp] theorem WC:EV ma ls hd=(ma ls hd).bind λp=>(B9 p.2 p.1).map (·,p.2):=rfl
@[simp] theorem bV:FW m ls hd=m ls hd:=rfl
@[simp] theorem ZP(ml mh:MO1):Gc ma ml mh ls hd=(ma ls hd).bind λp=>(ml ls p.2).bind λl=>(mh ls l.2).bind λh=>(BL h.2 p.1).bind λds=>some (Bj ds l.1 h.1,h.2):=rfl
@[simp] theorem ZO(ml mh:MO1):Bh ma ml mh ls hd=(ma ls hd).bind λp=>(ml ls p.2).bind λl=>(mh ls l.2).bind λh=>(AN p.1).bind λds=>if ¬ (HT.sIx ds.length 0 l.1=0/\HT.sIx ds.length ds.length h.1=ds.length)then some (AK (Bj ds l.1 h.1),h.2)else none:=rfl
@[simp] theorem c6:aW m ls hd=(Ge m ls hd).bind λp=>some (AK p.1,p.2):=rfl
open Classical in
@[simp] theorem ZQ:Ge m ls hd=(m ls hd).bind λp=>match p.1 with
 |[.im (.int j)]=>if KN j then some (Ai 0 j.toNat,p.2)else none
 |[.im (.int i),.im (.int j)]=>if T4 i j then some (Ai i (j-i).toNat,p.2)else none
 |_=>none:=rfl
@[simp] theorem ax(mi:MI):Vs mi ls hd=(mi ls hd).bind λp=>(BZ p.1.1).bind λns=>if ns.length<64 then some ((Sx ns).map λi=>.im (.int i),p.2)else none:=rfl
@[simp] theorem cG(ms:List (ME×ME)):Ij ms ls hd=(EF ms ls hd).bind λp=>if p.1.length<=15 then some (.mu p.2.length,p.2++[.dic (FU [] p.1)])else none:=rfl
@[simp] theorem ay:EF [] ls hd=some ([],hd):=rfl
@[simp] theorem bS(r:List (ME×ME)):EF ((ma,mb)::r) ls hd=(ma ls hd).bind λp=>(mb ls p.2).bind λq=>(EF r ls q.2).bind λz=>(Ch p.1).map λk=>((k,q.1)::z.1,z.2):=rfl
open Classical in
@[simp] theorem WD:C5 ma mb mc ls hd=(mc ls hd).bind λp=>(ma ls p.2).bind λq=>(mb ls q.2).bind λr=>(Ch r.1).bind λk=>match q.1 with
 |.mu n=>match r.2[n]? with
  |some (.dic kvs)=>if D9 kvs.length then some (.nx ls,r.2.set n (.dic (Bm kvs k p.1)))else none
  |_=>none
 |_=>none:=rfl
@[simp] theorem WB:Dj ma mb mc ls hd=(mc ls hd).bind λp=>(ma ls p.2).bind λq=>(mb ls q.2).bind λr=>match q.1,r.1 with
 |.mu n,.im (.int i)=>match r.2[n]? with
  |some (.lst ds)=>(ixN ds.length i).map λj=>(.nx ls,r.2.set n (.lst (ds.set j p.1)))
  |_=>none
 |_,_=>none:=rfl
@[simp] theorem We(is:List I):AN (.im (.tup is))=some (is.map .im):=rfl
@[simp] theorem cY(ds:List D):AN (.tm ds)=some ds:=rfl
@[simp] theorem cb(k:Nat):AN (.mu k)=none:=rfl
@[simp] theorem cZ(k:List Int):AN (.ro k)=none:=rfl
@[simp] theorem IP(is:List I):B9 hd (.im (.tup is))=some (is.map .im):=rfl
@[simp] theorem cf(ds:List D):B9 hd (.tm ds)=some ds:=rfl
@[simp] theorem Nf(k:Nat):B9 hd (.mu k)=BL hd (.mu k):=rfl
@[simp] theorem cg(k:List Int):B9 hd (.ro k)=some (k.map λn=>.im (.int n)):=rfl
@[simp] theorem Il(k:Nat):BL hd (.mu k)=match hd[k]? with
 |some (.lst ds)=>some ds
 |_=>none:=rfl
@[simp] theorem ci(k:List Int):BL hd (.ro k)=some (k.map λn=>.im (.int n)):=rfl
@[simp] theorem cr(k:Nat):BV hd (.mu k)=match hd[k]? with
 |some (.dic ds)=>some ds
 |_=>none:=rfl
@[simp] theorem ck(i:Int):Ch (.im (.int i))=some (.inl i):=rfl
@[simp] theorem cj(i:Str):Ch (.im (.str i))=some (.inr i):=rfl
@[simp] theorem Zm:B8 []=some []:=rfl
@[simp] theorem cv(i:I)(r:List D):B8 (.im i::r)=(B8 r).map (i::·):=rfl
@[simp] theorem cK:BZ []=some []:=rfl
@[simp] theorem cL(i:Int)(r:List D):BZ (.im (.int i)::r)=(BZ r).map (i::·):=rfl
@[simp] theorem cX:CM []=some []:=rfl
@[simp] theorem cu(i:Bool)(r:List D):CM (.im (.bl i)::r)=(CM r).map (i::·):=rfl
@[simp] theorem DG(is:List I):AK (is.map .im)=.im (.tup is):=by simp[AK]
@[simp] theorem Pp:AK []=.im (.tup []):=rfl
@[simp] theorem bx(i:I):AK [.im i]=.im (.tup [i]):=rfl
@[simp] theorem Vn(i j:I):AK [.im i,.im j]=.im (.tup [i,j]):=rfl
@[simp] theorem bv(i j k:I):AK [.im i,.im j,.im k]=.im (.tup [i,j,k]):=rfl
@[simp] theorem bu(i j k l:I):AK [.im i,.im j,.im k,.im l]=.im (.tup [i,j,k,l]):=rfl
@[simp] theorem cW(w:Nat)(i:I):clD w (.im i)=true:=by simp[clD]
@[simp] theorem cV(w n:Nat):clD w (.mu n)=decide (n<w):=by simp[clD]
@[simp] theorem bZ(w:Nat):B6 w []=true:=by simp[B6]
@[simp] theorem QP(w:Nat)(d:D)(ds:List D):B6 w (d::ds)=(clD w d&&B6 w ds):=by simp[B6]
@[simp] theorem M8{α:Type}(x:α)(r:List α):atI (x::r) 0=some x:=Fj (j:=0) rfl
@[simp] theorem Je{α:Type}(x y:α)(r:List α):atI (x::y::r) 1=some y:=Fj (j:=1) rfl
@[simp] theorem Zk{α:Type}(x y z:α)(r:List α):atI (x::y::z::r) 2=some z:=Fj (j:=2) rfl
def C0{α:Type}{xs:List α}{i:Int}{k:Nat}{x:α}(hi:i=k)(h:xs[k]?=some x):atI xs i=some x:=by subst hi;exact Fj h
@[simp] theorem Cw:Be 0:=AL (by decide)
@[simp] theorem CG:Be 1:=AL (by decide)
@[simp] theorem EI:Be 2:=AL (by decide)
@[simp] theorem Aq:Be 3:=AL (by decide)
@[simp] theorem ZJ:Be 4:=AL (by decide)
@[simp] theorem c5:D9 4:=Bp (by decide)
open Classical in
@[simp] theorem Lo(k:Nat)(x:D):Ao (.mu k) [x] hd=match hd[k]? with
 |some (.lst ds)=>if D9 ds.length then some (.im .non,hd.set k (.lst (ds++[x])))else none
 |_=>none:=rfl
def QY{F:List D->Hd->Option (D×Hd)}{ds:List D}{hd1 h2:Hd}{i:I}(h1:m ls hd=some (ds,hd1))(hc:B6 0 ds=true)(hF:F ds []=some (.im i,h2)):AA 0 F m ls hd=some (.im i,hd1):=by
 simp[AA,h1,hc,hF,fin]
def GI{w:Nat}{F:List D->Hd->Option (D×Hd)}{ds:List D}{pre pre' rest g:Hd}{i:I}(hw:pre.length=w)(hw':pre'.length=w)(h1:m ls hd=some (ds,pre++rest))(hc:B6 w ds=true)(hp:pre.all (clO w)=true)(hp':pre'.all (clO w)=true)(hF:F ds pre=some (.im i,pre'++g)):AA w F m ls hd=some (.im i,pre'++rest):=by
 subst hw;have e1:(pre++rest).take pre.length=pre:=by simp
 have e2:(pre'++g).take pre.length=pre':=by rw[<- hw'];simp
 simp only[AA,h1,bind_some,e1,hc,hp,hF,fin,e2,hp'];simp
end
def Dy{n:MG}{b:MS}{g:Gd}{ls:Ls}{hd:Hd}:BR n b g [] ls hd=some (.nx ls,hd):=by unfold BR;rfl
def Cg{n:MG}{b:MS}{g:Gd}{d:D}{r:List D}{ls ls1 ls2:Ls}{hd hd2:Hd}(h1:n d ls hd=some ls1)(h2:b ls1 hd=some (.nx ls2,hd2))(h3:GOk hd2 g):BR n b g (d::r) ls hd=BR n b g r ls2 hd2:=by
 conv=>lhs;unfold BR
 simp[h1,h2,h3]
abbrev LC2(elt tg iter:Expr)(ifs:List Expr)(tg2 iter2:Expr)(ifs2:List Expr)(scope:Scope)(pos:Pos):Expr:=.ListComp elt [⟨tg,iter,ifs,0⟩,⟨tg2,iter2,ifs2,0⟩] scope pos
def Ts(elt tg iter:Expr)(ifs:List Expr)(tg2 iter2:Expr)(ifs2:List Expr)(scope:Scope)(pos:Pos)(it acc:Value)(env:Env):
 compTurn (LC2 elt tg iter ifs tg2 iter2 ifs2 scope pos) 0 it acc env=(do
  standAt iter.pos
  match <- pyNext it with
  |none=>pure (.done .next)
  |some v=>
   letOwnedTupleGo tg it v
   assign tg env v
   let mut ok:=true
   for c in ifs do
    if ok then ok <- isTrue c env (eval c env)
   if ok then
    let x <- eval iter2 env
    standAt iter2.pos
    let x <- foldedSetIterable iter2 env x
    let _ <- runOwn (.compStart (LC2 elt tg iter ifs tg2 iter2 ifs2 scope pos) 1 (<- holding [x] (pyIter x)) acc env) env
   again (.compLoop (LC2 elt tg iter ifs tg2 iter2 ifs2 scope pos) 0 it acc env)):=by rfl
def Tr(elt tg iter:Expr)(ifs:List Expr)(tg2 iter2:Expr)(ifs2:List Expr)(scope:Scope)(pos:Pos)(it acc:Value)(env:Env):
 compTurn (LC2 elt tg iter ifs tg2 iter2 ifs2 scope pos) 1 it acc env=(do
  standAt iter2.pos
  match <- pyNext it with
  |none=>pure (.done .next)
  |some v=>
   letOwnedTupleGo tg2 it v
   assign tg2 env v
   let mut ok:=true
   for c in ifs2 do
    if ok then ok <- isTrue c env (eval c env)
   if ok then
    (do let _ <- call (.builtin "list.append") [acc,<- eval elt env])
   again (.compLoop (LC2 elt tg iter ifs tg2 iter2 ifs2 scope pos) 1 it acc env)):=by rfl
section
variable{prog:Program}{w:World}{A:Around}{R:Result->Shared->Prop}{s:Shared}{elt tg iter tg2 iter2:Expr}{ifs ifs2:List Expr}{scope:Scope}{pos:Pos}{it acc:Value}{env:Env}
def Vu(I:Nat->Shared->Prop)
 (turn:∀n s,I n s->wpAny (model prog w) A (pyNext it) (λr s₁=>match r with
  |none=>R (.ok .next) s₁
  | some v=>wpAny (model prog w) A (letOwnedTupleGo tg2 it v) (λ_ s₁=>wpAny (model prog w) A (assign tg2 env v) (λ_ s₂=>
   wpAny (model prog w) A (forIn ifs2 true λc r=>if r=true then do let ok <- isTrue c env (eval c env);pure (ForInStep.yield ok)else pure (ForInStep.yield r)) (λok s₃=>
    if ok=true then wpAny (model prog w) A (eval elt env) (λx s₄=>
     wpAny (model prog w) A (call (.builtin "list.append") [acc,x]) (λ_ s₅=>∃m,m<n/\I m s₅) (λ_ _=>False) s₄) (λ_ _=>False) s₃
    else ∃m,m<n/\I m s₃) (λ_ _=>False) s₂) (λ_ _=>False) s₁) (λ_ _=>False) s₁) (λ_ _=>False) s)
 (n:Nat) (h:I n s):codeAny (model prog w) A (.compLoop (LC2 elt tg iter ifs tg2 iter2 ifs2 scope pos) 1 it acc env) R s:=by
 refine codeAny_loop rfl I (λn s hI=>?_) n h;show wpAny _ A ((compTurn (LC2 elt tg iter ifs tg2 iter2 ifs2 scope pos) 1 it acc env).onRaise (λx=>do noteFrame x env;theTreesLotGoes x)) _ _ s;refine wpAny_noted ?_;rw[Tr];refine wpAny_bind (wpAny_standAt (wpAny_bind (wpAny_mono (turn n s hI) (λr s₁ h₁=>?_) λ_ _ h'=>h'.elim)));cases r with
 |none=>exact wpAny_pure h₁
 |some v=>
  refine wpAny_bind (wpAny_mono h₁ (λ_ s₁ h₁=>?_) λ_ _ h'=>h'.elim);refine wpAny_bind (wpAny_mono h₁ (λ_ s₂ h₂=>wpAny_bind (wpAny_mono h₂ (λok s₃ h₃=>?_) λ_ _ h'=>h'.elim)) λ_ _ h'=>h'.elim);cases ok with
  |false=>exact wpAny_pure ⟨rfl,h₃⟩
  |true=>
   exact wpAny_bind (wpAny_bind (wpAny_mono h₃ (λx s₄ h₄=>wpAny_bind (wpAny_mono h₄ (λ_ s₅ h₅=>wpAny_pure (wpAny_pure ⟨rfl,h₅⟩)) λ_ _ h'=>h'.elim)) λ_ _ h'=>h'.elim))
def Vv(hs:∀x,foldedSetIterable iter2 env x=pure x)(I:Nat->Shared->Prop)
 (turn:∀n s,I n s->wpAny (model prog w) A (pyNext it) (λr s₁=>match r with
  |none=>R (.ok .next) s₁
  | some v=>wpAny (model prog w) A (letOwnedTupleGo tg it v) (λ_ s₁=>wpAny (model prog w) A (assign tg env v) (λ_ s₂=>
   wpAny (model prog w) A (forIn ifs true λc r=>if r=true then do let ok <- isTrue c env (eval c env);pure (ForInStep.yield ok)else pure (ForInStep.yield r)) (λok s₃=>
    if ok=true then wpAny (model prog w) A (eval iter2 env) (λx s₄=>wpAny (model prog w) A (pyIter x) (λit2 s₅=>
     codeAny (model prog w) A (.compStart (LC2 elt tg iter ifs tg2 iter2 ifs2 scope pos) 1 it2 acc env) (λr s₆=>r=.ok .next/\∃m,m<n/\I m s₆) s₅) (λ_ _=>False) s₄) (λ_ _=>False) s₃
    else ∃m,m<n/\I m s₃) (λ_ _=>False) s₂) (λ_ _=>False) s₁) (λ_ _=>False) s₁) (λ_ _=>False) s)
 (n:Nat) (h:I n s):codeAny (model prog w) A (.compLoop (LC2 elt tg iter ifs tg2 iter2 ifs2 scope pos) 0 it acc env) R s:=by
 refine codeAny_loop rfl I (λn s hI=>?_) n h;show wpAny _ A ((compTurn (LC2 elt tg iter ifs tg2 iter2 ifs2 scope pos) 0 it acc env).onRaise (λx=>do noteFrame x env;theTreesLotGoes x)) _ _ s;refine wpAny_noted ?_;rw[Ts];refine wpAny_bind (wpAny_standAt (wpAny_bind (wpAny_mono (turn n s hI) (λr s₁ h₁=>?_) λ_ _ h'=>h'.elim)));cases r with
 |none=>exact wpAny_pure h₁
 |some v=>
  refine wpAny_bind (wpAny_mono h₁ (λ_ s₁ h₁=>?_) λ_ _ h'=>h'.elim);refine wpAny_bind (wpAny_mono h₁ (λ_ s₂ h₂=>wpAny_bind (wpAny_mono h₂ (λok s₃ h₃=>?_) λ_ _ h'=>h'.elim)) λ_ _ h'=>h'.elim);cases ok with
  |false=>exact wpAny_pure ⟨rfl,h₃⟩
  |true=>
   refine wpAny_bind (wpAny_mono h₃ (λx s₄ h₄=>wpAny_bind (wpAny_standAt ?_)) λ_ _ h'=>h'.elim);rw[hs];refine wpAny_bind (wpAny_pure (wpAny_bind (wpAny_holding (wpAny_mono h₄ (λit2 s₅ h₅=>wpAny_bind (wpAny_runOwn (codeAny_mono h₅ λr s₆ h₆=>?_))) λ_ _ h'=>h'.elim))));obtain⟨rfl,h₆⟩:=h₆;exact wpAny_pure ⟨rfl,h₆⟩
def RU(h0:codeAny (model prog w) A (.compLoop (LC2 elt tg iter ifs tg2 iter2 ifs2 scope pos) 1 it acc env) R s)
 (h:wpAny (model prog w) A (pyIter it) (λit' s'=>codeAny (model prog w) A (.compLoop (LC2 elt tg iter ifs tg2 iter2 ifs2 scope pos) 1 it' acc env) R s') (λ_ _=>False) s):
 codeAny (model prog w) A (.compStart (LC2 elt tg iter ifs tg2 iter2 ifs2 scope pos) 1 it acc env) R s:=by
 refine codeAny_of_tree ?_;show wpAny _ _ ((compStart (LC2 elt tg iter ifs tg2 iter2 ifs2 scope pos) 1 it acc env).onRaise (λx=>do noteFrame x env;standAt theWindowsPlace)) _ _ s;refine wpAny_notedAt ?_;unfold compStart;show wpAny _ _ (ask >>= _) _ _ s;refine wpAny_bind (wpAny_askSetting (wpAny_ite ?_));split
 .exact wpAny_bind (wpAny_pure (wpAny_pure (And.intro rfl h0)))
 .exact wpAny_bind (wpAny_rule (wpAny_bind (wpAny_standAt (wpAny_bind (wpAny_mono h (λit' s' h'=>wpAny_pure (And.intro rfl h')) λ_ _ x=>x.elim)))))
end
def Oh(J:It)(D:Addr)(σ0:St)(H0:Hp)(g:TG)(tf:TT)(te:TE)(Q:St->Hp->Prop):Prop:=∃W:Nat->Nat->St->Hp->Prop,
 (∃m,W 0 m σ0 H0)/\∀i m σ H,W i m σ H ->
  ((J.stop i H/\Q σ H)∨(J.go i H/\∃N:St->Hp->Prop,(∀σ' H',N σ' H'->∃m',m'<m/\W (i+1) m' σ' H')/\
    ∀x H',J.yld i H x H'->g x σ H' λσ2 H2=>tf σ2 H2 λb H3=>
     if b=true then te σ2 H3 λv H4=>∃ys,H4 D=some (.lst ys)/\ys.length<sizeLine/\N σ2 (upd H4 D (.lst (ys++[v])))
     else N σ2 H3))
def Qe(J:It)(D:Addr)(σ0:St)(H0:Hp)(g:TG)(tf:TT)(wi2:TI)(g2:TG)(tf2:TT)(te:TE)(Q:VK):Prop:=∃W:Nat->Nat->St->Hp->Prop,
 (∃m,W 0 m σ0 (upd H0 D (.lst [])))/\∀i m σ H,W i m σ H ->
  ((J.stop i H/\Q (.ref D) H)∨(J.go i H/\∃N:St->Hp->Prop,(∀σ' H',N σ' H'->∃m',m'<m/\W (i+1) m' σ' H')/\
    ∀x H',J.yld i H x H'->g x σ H' λσ2 H2=>tf σ2 H2 λb H3=>
     if b=true then wi2 σ2 H3 λJ2 H4=>Oh J2 D σ2 H4 g2 tf2 te N
     else N σ2 H3))
def Ep(n:Nat)(ix:List Nat)(wi:TI)(g:TG)(tf:TT)(wi2:TI)(g2:TG)(tf2:TT)(te:TE):TE:=λσ H Q=>wi σ H λJ H1=>∀D,H1 D=none->Qe J D (FK n ix σ) H1 g tf wi2 g2 tf2 te Q
section
variable{X:Cx}
def OW{elt tg iter tg2 iter2:Expr}{ifs ifs2:List Expr}{scope:Scope}{pos:Pos}{N':List Str}{s3:Shared}{H3:Hp}{fp3:List Addr}{g:TG}{tf:TT}{te:TE}{pins:List (Addr×Obj)}{σ:St}{H:Hp}{s:Shared}{D it:Addr}{fp:List Addr}{tn:Nat->Heap->Prop}{J:It}{Q:St->Hp->Prop}
 (hc:X.calm=true) (hg:PG (cCx X N' scope s3 H3 fp3) tg2 g) (hf:PF (cCx X N' scope s3 H3 fp3) ifs2 tf) (he:PE (cCx X N' scope s3 H3 fp3) elt te)
 (I:Inv (cCx X N' scope s3 H3 fp3) pins σ H s) (T:Turn X.prog X.w X.K tg2 J fp it tn) (st:tn 0 s.heap) (f2:∀b∈fp,C1 (cCx X N' scope s3 H3 fp3) pins H b) (hW:Oh J D σ H g tf te Q):
 codeAny (model X.prog X.w) X.A (.compStart (LC2 elt tg iter ifs tg2 iter2 ifs2 scope pos) 1 (.ref it) (.ref D) (cCx X N' scope s3 H3 fp3).env)
  (λr s'=>r=.ok .next/\∃σ' H',Inv (cCx X N' scope s3 H3 fp3) pins σ' H' s'/\Q σ' H') s:=by
 obtain⟨W,⟨m0,w0⟩,turn⟩:=hW;have fpX:∀{H':Hp},(∀b∈fp,H' b=none)->∀b∈fp,C1 (cCx X N' scope s3 H3 fp3) pins H' b:=λhn b hb=>⟨hn b hb,(f2 b hb).2⟩
 have loop:codeAny (model X.prog X.w) X.A (.compLoop (LC2 elt tg iter ifs tg2 iter2 ifs2 scope pos) 1 (.ref it) (.ref D) (cCx X N' scope s3 H3 fp3).env)
  (λr s'=>r=.ok .next/\∃σ' H',Inv (cCx X N' scope s3 H3 fp3) pins σ' H' s'/\Q σ' H') s:=by
  refine Vu (λn s'=>∃i σ' H',Inv (cCx X N' scope s3 H3 fp3) pins σ' H' s'/\tn i s'.heap/\(∀b∈fp,H' b=none)/\W i n σ' H') ?_ m0
   ⟨0,_,_,I,st,λb hb=>(f2 b hb).1,w0⟩
  rintro n s5 ⟨i,σ5,H5,I5,st5,fr5,w5⟩;have w5:=turn i n σ5 H5 w5;rcases w5 with⟨stop,qn⟩|⟨go,N,hN,step⟩
  .refine thn (T.done (cCx X N' scope s3 H3 fp3) rfl rfl rfl hc i pins s5 σ5 H5 _ I5 (fpX fr5) st5 stop) λr s6 ⟨hr,I6⟩=>?_;subst hr;exact⟨rfl,σ5,H5,I6,qn⟩
  .refine thn (T.item (cCx X N' scope s3 H3 fp3) rfl rfl rfl hc i pins s5 σ5 H5 _ I5 (fpX fr5) st5 go) λr s6 ⟨u,hr,h6⟩=>?_;subst hr;refine thn h6 λ_ s7 ⟨x,H7,I7,r7,y7,st7,fr7⟩=>?_;have I7':=I7.pinned (fpX fr7) (T.obj _ _ st7);have keepI:∀{σ8:St} {H8:Hp} {s8:Shared},Inv (cCx X N' scope s3 H3 fp3) (pins++EB fp s7.heap) σ8 H8 s8->tn (i+1) s8.heap/\∀b∈fp,H8 b=none:=λ{σ8 H8 s8} I8=>by
    refine⟨T.keep _ _ _ st7 λb hb o e=>(I8.pin (b,o) (mem_append_right _ (mem_append_right _ (BW hb e)))).1,λb hb=>?_⟩;obtain⟨o,e,d⟩:=T.obj _ _ st7 b hb;exact(I8.pin (b,o) (mem_append_right _ (mem_append_right _ (BW hb e)))).2.1
   refine thn (hg _ s7 σ5 H7 x u _ I7' r7 (step x H7 y7)) λ_ s8 ⟨σ8,H8,I8,q8⟩=>?_;refine thn (hf _ s8 σ8 H8 _ I8 q8) λb s9 ⟨H9,I9,q9⟩=>?_;cases b with
   |false=>
    rw[if_neg Bool.false_ne_true]at q9 ⊢;obtain⟨m',hm,w9⟩:=hN _ _ q9;exact⟨m',hm,i+1,σ8,H9,I9.unpinned,(keepI I9).1,(keepI I9).2,w9⟩
   |true=>
    rw[if_pos rfl]at q9 ⊢;refine thn (he _ s9 σ8 H9 _ I9 q9) λe10 s10 ⟨v10,H10,I10,r10,ys,hD10,hz,n10⟩=>?_;obtain⟨m',hm,w10⟩:=hN _ _ n10;refine MB (X:=cCx X N' scope s3 H3 fp3) I10 hD10 r10 hz λ_ s11 I11=>?_;exact⟨m',hm,i+1,σ8,_,I11.unpinned,(keepI I11).1,(keepI I11).2,w10⟩
 exact RU loop (T.self X.A 0 _ _ _ st loop)
def Hg{elt tg iter tg2 iter2:Expr}{ifs ifs2:List Expr}{scope:Scope}{pos:Pos}{loc fr:List Str}{ix:List Nat}{g g2:TG}{tf tf2:TT}{wi2:TI}{te:TE}{pins:List (Addr×Obj)}{σ:St}{Q:VK}{it:Addr}{fp:List Addr}{tn:Nat->Heap->Prop}{J:It}{H2:Hp}{s2:Shared}{E:Value->Shared->Prop}
 {RR:Value->Addr->Result->Shared->Prop} (hc:X.calm=true) (S:CSc X scope fr ix)
 (hg:∀s H ex,PG (cCx X (loc++fr) scope s H ex) tg g) (hf:∀s H ex,PF (cCx X (loc++fr) scope s H ex) ifs tf) (hi2:∀s H ex,PI (cCx X (loc++fr) scope s H ex) tg2 iter2 wi2) (hg2:∀s H ex,PG (cCx X (loc++fr) scope s H ex) tg2 g2) (hf2:∀s H ex,PF (cCx X (loc++fr) scope s H ex) ifs2 tf2) (he:∀s H ex,PE (cCx X (loc++fr) scope s H ex) elt te)
 (hs2:∀s H ex x,foldedSetIterable iter2 (cCx X (loc++fr) scope s H ex).env x=pure x)
 (I2:Inv X pins σ H2 s2) (T:Turn X.prog X.w X.K tg J fp it tn) (st2:tn 0 s2.heap) (f2:∀b∈fp,C1 X pins H2 b) (hW:∀D,H2 D=none->Qe J D (FK loc.length ix σ) H2 g tf wi2 g2 tf2 te Q)
 (hfin:∀(s3 s6:Shared) (H5:Hp) (σ5:St) (D:Addr),Inv X pins σ (upd H2 D (.lst [])) s3->Inv (cCx X (loc++fr) scope s3 (upd H2 D (.lst [])) fp) [] σ5 H5 s6->(∀b∈fp,C1 X pins (upd H2 D (.lst [])) b)->Q (.ref D) H5->RR (.ref D) s3.heap.objs.size (.ok .next) s6):
 wpAny (model X.prog X.w) X.A (newList []) (λacc s₃=>wpAny (model X.prog X.w) X.A (newFunctionEnv scope X.env.globals (BG X.env.cells scope.names []) [] X.env.qual none .none (some X.env)) (λcenv s₄=>
  codeAny (model X.prog X.w) X.A (.compStart (LC2 elt tg iter ifs tg2 iter2 ifs2 scope pos) 0 (.ref it) acc { cenv with scope:=relabel scope X.env }) (RR acc cenv.locals) s₄) E s₃) E s2:=by
 refine wpAny_newObj_type ?_;have fresh2:H2 s2.heap.objs.size=none:=I2.hok.fresh (le_refl _);have I3:=I2.lnew (its:=[]) (ys:=[]) (t':=s2.toks) .nil (zero_le _);obtain⟨W,⟨m0,w0⟩,turn⟩:=hW s2.heap.objs.size fresh2;have lt2:∀b∈fp,b<s2.heap.objs.size:=λb hb=>let ⟨o,e,_⟩:=T.obj 0 _ st2 b hb;Heap.lt_size e
 have f3:∀b∈fp,C1 X pins (upd H2 s2.heap.objs.size (.lst [])) b:=λb hb=>⟨by rw[AW (ne_of_lt (lt2 b hb))];exact(f2 b hb).1,(f2 b hb).2⟩
 have lt3:∀b∈fp,b<(s2.heap.push { cls:=.type "list",data:=.seq ([]:List Value).toArray }).objs.size:=λb hb=>by rw[Heap.size_push];exact lt_succ_of_lt (lt2 b hb)
 generalize hs3:({ s2 with heap:=s2.heap.push { cls:=.type "list",data:=.seq ([]:List Value).toArray } }:Shared)=s3 at *;have lt3:∀b∈fp,b<s3.heap.objs.size:=by rw[<- hs3];exact lt3
 have st3:tn 0 s3.heap:=T.keep _ _ _ st2 λb hb o e=>by rw[<- hs3];exact Heap.get?_push_of_some _ e
 refine JL λh' hk hn ho ha=>?_;have I4:=IC (loc:=loc) S I3 f3 hk hn ho ha lt3;have fpX:∀{H':Hp},(∀b∈fp,H' b=none)->∀b∈fp,C1 (cCx X (loc++fr) scope s3 (upd H2 s2.heap.objs.size (.lst [])) fp) [] H' b:=λhn b hb=>
  ⟨hn b hb,(I4.ok.exf b hb).1,I4.ok.exfs b hb,.inl hb,(I4.ok.exf b hb).2,λp hp=>by cases hp⟩
 have loop:codeAny (model X.prog X.w) X.A (.compLoop (LC2 elt tg iter ifs tg2 iter2 ifs2 scope pos) 0 (.ref it) (.ref s2.heap.objs.size) (Ob scope s3.heap.objs.size X.env))
  (RR (.ref s2.heap.objs.size) s3.heap.objs.size) { s3 with heap:=h' }:=by
  refine Vv (hs2 s3 (upd H2 s2.heap.objs.size (.lst [])) fp) (λn s'=>∃i σ' H',Inv (cCx X (loc++fr) scope s3 (upd H2 s2.heap.objs.size (.lst [])) fp) [] σ' H' s'/\tn i s'.heap/\(∀b∈fp,H' b=none)/\W i n σ' H') ?_ m0
   ⟨0,_,_,I4,T.keep _ _ _ st3 λb hb o e=>hk b o e,λb hb=>(f3 b hb).1,w0⟩
  rintro n s5 ⟨i,σ5,H5,I5,st5,fr5,w5⟩;have w5:=turn i n σ5 H5 w5;rcases w5 with⟨stop,qn⟩|⟨go,N,hN,step⟩
  .refine thn (T.done (cCx X (loc++fr) scope s3 (upd H2 s2.heap.objs.size (.lst [])) fp) rfl rfl rfl hc i [] s5 σ5 H5 _ I5 (fpX fr5) st5 stop) λr s6 ⟨hr,I6⟩=>?_;subst hr;exact hfin s3 s6 H5 σ5 s2.heap.objs.size I3 I6 f3 qn
  .refine thn (T.item (cCx X (loc++fr) scope s3 (upd H2 s2.heap.objs.size (.lst [])) fp) rfl rfl rfl hc i [] s5 σ5 H5 _ I5 (fpX fr5) st5 go) λr s6 ⟨u,hr,h6⟩=>?_;subst hr;refine thn h6 λ_ s7 ⟨x,H7,I7,r7,y7,st7,fr7⟩=>?_;have I7':=I7.pinned (fpX fr7) (T.obj _ _ st7);have keepI:∀{σ8:St} {H8:Hp} {s8:Shared},Inv (cCx X (loc++fr) scope s3 (upd H2 s2.heap.objs.size (.lst [])) fp) ([]++EB fp s7.heap) σ8 H8 s8->tn (i+1) s8.heap/\∀b∈fp,H8 b=none:=λ{σ8 H8 s8} I8=>by
    refine⟨T.keep _ _ _ st7 λb hb o e=>(I8.pin (b,o) (mem_append_right _ (mem_append_right _ (BW hb e)))).1,λb hb=>?_⟩;obtain⟨o,e,d⟩:=T.obj _ _ st7 b hb;exact(I8.pin (b,o) (mem_append_right _ (mem_append_right _ (BW hb e)))).2.1
   refine thn (hg s3 (upd H2 s2.heap.objs.size (.lst [])) fp _ s7 σ5 H7 x u _ I7' r7 (step x H7 y7)) λ_ s8 ⟨σ8,H8,I8,q8⟩=>?_;refine thn (hf s3 (upd H2 s2.heap.objs.size (.lst [])) fp _ s8 σ8 H8 _ I8 q8) λb s9 ⟨H9,I9,q9⟩=>?_;cases b with
   |false=>
    rw[if_neg Bool.false_ne_true]at q9 ⊢;obtain⟨m',hm,w9⟩:=hN _ _ q9;exact⟨m',hm,i+1,σ8,H9,I9.unpinned,(keepI I9).1,(keepI I9).2,w9⟩
   |true=>
    rw[if_pos rfl]at q9 ⊢;refine thn (hi2 s3 (upd H2 s2.heap.objs.size (.lst [])) fp _ s9 σ8 H9 _ I9 q9) λv10 s10 h10=>thn h10 λit2 s11 h11=>?_;obtain⟨itb,fpb,tnb,Jb,Hb,rfl,Ib,Tb,stb,fb,hWb⟩:=h11;refine codeAny_mono (OW hc (hg2 _ _ _) (hf2 _ _ _) (he _ _ _) Ib Tb stb fb hWb) λr s12 ⟨hr,σ12,H12,I12,n12⟩=>⟨hr,?_⟩
    obtain⟨m',hm,w12⟩:=hN _ _ n12;exact⟨m',hm,i+1,σ12,H12,I12.unpinned,(keepI I12).1,(keepI I12).2,w12⟩
 exact codeAny_compStart_list loop (T.self X.A 0 _ _ _ (T.keep _ _ _ st3 λb hb o e=>hk b o e) loop)
def SJ{elt tg iter tg2 iter2:Expr}{ifs ifs2:List Expr}{scope:Scope}{pos:Pos}{loc fr:List Str}{ix:List Nat}{wi wi2:TI}{g g2:TG}{tf tf2:TT}{te:TE}(hc:X.calm=true)(S:CSc X scope fr ix)(hi:PI X tg iter wi)
 (hg:∀s H ex,PG (cCx X (loc++fr) scope s H ex) tg g) (hf:∀s H ex,PF (cCx X (loc++fr) scope s H ex) ifs tf) (hi2:∀s H ex,PI (cCx X (loc++fr) scope s H ex) tg2 iter2 wi2) (hg2:∀s H ex,PG (cCx X (loc++fr) scope s H ex) tg2 g2) (hf2:∀s H ex,PF (cCx X (loc++fr) scope s H ex) ifs2 tf2) (he:∀s H ex,PE (cCx X (loc++fr) scope s H ex) elt te)
 (hs:∀x,foldedSetIterable iter X.env x=pure x:=by intro _;rfl) (hs2:∀s H ex x,foldedSetIterable iter2 (cCx X (loc++fr) scope s H ex).env x=pure x:=by intro _ _ _ _;rfl):
 PE X (LC2 elt tg iter ifs tg2 iter2 ifs2 scope pos) (Ep loc.length ix wi g tf wi2 g2 tf2 te):=by
 intro pins s σ H Q I h;rw[eval_ListComp];have hnames:∀y∈scope.names,y.2=.local->scope.names.lookup y.1=some .local:=λy hy e=>by
  have:=all_eq_true.mp S.loc y hy;rw[e]at this;simpa using this
 refine wpAny_comprehension_free (use:=none) rfl hs (DB (S.clos I.ok)) S.kind hnames (thn (hi pins s σ H _ I h) λv s1 h1=>thn h1 λitv s2 h2=>?_);obtain⟨it,fp,tn,J,H2,rfl,I2,T,st2,f2,hW⟩:=h2;refine Hg (RR:=λacc C=>compPost (model X.prog X.w) X.A X.xe none (EP X pins σ Q) acc C) hc S hg hf hi2 hg2 hf2 he hs2 I2 T st2 f2 hW λs3 s6 H5 σ5 L I3 I6 f3 q=>?_;obtain⟨m,hm,_⟩:=I6.loc;exact⟨m,hm,λh'' hs'=>⟨.ref L,H5,FL I3 I6 f3 hs',rfl,q⟩⟩
end
open Classical in
def mIn(k:Nat)(n:MG)(c:MT)(m:ME)(g:Gd):List D->Ls->Hd->Option (Ls×Hd)
 |[],ls,hd=>some (ls,hd)
 |d::r,ls,hd=>(n d ls hd).bind λls1=>(c ls1 hd).bind λp=>if p.1=true then(m ls1 p.2).bind λq=>(Ao (.mu k) [q.1] q.2).bind λz=>if GOk z.2 g then mIn k n c m g r ls1 z.2 else none else if GOk p.2 g then mIn k n c m g r ls1 p.2 else none
open Classical in
def EO(k:Nat)(n:MG)(c:MT)(mi:MI)(n2:MG)(c2:MT)(m:ME)(g:Gd):List D->Ls->Hd->Option Hd
 |[],ls,hd=>some hd
 |d::r,ls,hd=>(n d ls hd).bind λls1=>(c ls1 hd).bind λp=>if p.1=true then(mi ls1 p.2).bind λq=>(mIn k n2 c2 m q.1.2 q.1.1 ls1 q.2).bind λz=>if GOk z.2 g then EO k n c mi n2 c2 m g r z.1 z.2 else none else if GOk p.2 g then EO k n c mi n2 c2 m g r ls1 p.2 else none
def Cu(j:Nat)(ix:List Nat)(mi:MI)(n:MG)(c:MT)(mi2:MI)(n2:MG)(c2:MT)(m:ME):ME:=λls hd=>(mi ls hd).bind λp=>(EO p.2.length n c mi2 n2 c2 m p.1.2 p.1.1 (E8 j ix ls) (p.2++[.lst []])).map λh=>(.mu p.2.length,h)
section
variable{K:PySem.W.Frag}{ρ:List Addr}{H:Hp}{hd:Hd}
def W6{h:Hd}{g:Gd}(G:GOk h g)(r:Hd):GOk (h++r) g:=λp hp=>by
 have:=G p hp;have hl:p.1<h.length:=(List.getElem?_eq_some_iff.mp this).1;rw[List.getElem?_append_left hl];exact this
def bE{g:TG}{tf:TT}{te:TE}{n:MG}{c:MT}{m:ME}(hg:RGt K g n)(hf:RT K tf c)(he:RE K te m){J:It}{ds:List D}{gd:Gd}{k:Nat}{Da:Addr}{ls ls':Ls}{hd':Hd}{σ:St}{Q:St->Hp->Prop}
 (hR:RH K ρ H hd) (hL:RL K ρ H ls σ) (G:GOk hd gd) (Y:J5 K ρ H J ds gd) (hk:ρ[k]?=some Da) (hm:mIn k n c m gd ds ls hd=some (ls',hd'))
 (hQ:∀ρ' H' σ',Ext ρ H ρ' H'->RH K ρ' H' hd'->RL K ρ' H' ls' σ'->Q σ' H'):Oh J Da σ H g tf te Q:=by
 refine⟨λi mm σ2 H2=>mm=ds.length-i/\i<=ds.length/\∃ρ2 ls2 hd2,Ext ρ H ρ2 H2/\RH K ρ2 H2 hd2/\RL K ρ2 H2 ls2 σ2/\GOk hd2 gd/\mIn k n c m gd (ds.drop i) ls2 hd2=some (ls',hd'),
  ⟨ds.length,by simp,zero_le _,ρ,ls,hd,.refl,hR,hL,G,by simpa using hm⟩,?_⟩
 rintro i mm σ2 H2 ⟨rfl,hi,ρ2,ls2,hd2,x2,R2,L2',G2,hm2⟩;obtain⟨Y1,Y2⟩:=Y ρ2 H2 hd2 x2 R2 G2 i;have hk2:ρ2[k]?=some Da:=by
  obtain⟨r,rfl,_⟩:=x2.pre;rw[List.getElem?_append_left (List.getElem?_eq_some_iff.mp hk).1];exact hk
 by_cases hlt:i<ds.length
 .obtain⟨go,Y1⟩:=Y1 hlt;have ed:ds.drop i=ds[i]::ds.drop (i+1):=drop_eq_getElem_cons hlt;rw[ed]at hm2;unfold mIn at hm2;obtain⟨ls3,e3,hm2⟩:=dF hm2;obtain⟨⟨bb,hd4⟩,e4,hm2⟩:=dF hm2;refine .inr ⟨go,λσ' H'=>∃ρ2 ls2 hd2,Ext ρ H ρ2 H'/\RH K ρ2 H' hd2/\RL K ρ2 H' ls2 σ'/\GOk hd2 gd/\mIn k n c m gd (ds.drop (i+1)) ls2 hd2=some (ls',hd'),λσ' H' z=>⟨ds.length-(i+1),by omega,rfl,hlt,z⟩,λx H3 y=>?_⟩;obtain⟨ρ3,d3,x3,rfl,R3,e5,r3⟩:=Y1 x H3 y;have e6:d3=ds[i]:=by
   have:ds[i]?=some ds[i]:=by simp[hlt]
   rw[this]at e5;exact(Option.some.inj e5).symm
  subst e6;refine hg ρ3 σ2 H3 hd2 ls2 ls3 _ x _ R3 (L2'.ext R2 x3) r3 e3 λσ4 L4=>?_;refine hf ρ3 σ4 H3 hd2 ls3 _ bb hd4 R3 L4 e4 λρ5 H5 x5 R5=>?_;have y25:=x3.trans R3 x5;cases bb with
  |false=>
   rw[if_neg Bool.false_ne_true]at hm2 ⊢;split at hm2
   .next g5=>exact⟨ρ5,ls3,hd4,x2.trans R2 y25,R5,L4.ext R3 x5,g5,hm2⟩
   .cases hm2
  |true=>
   rw[if_pos rfl]at hm2 ⊢;obtain⟨⟨z,hd6⟩,e6,hm2⟩:=dF hm2;obtain⟨⟨z7,hd7⟩,e7,hm2⟩:=dF hm2;refine he ρ5 σ4 H5 hd4 ls3 _ z hd6 R5 (L4.ext R3 x5) e6 λρ6 H6 v6 x6 R6 r6=>?_;have y26:=y25.trans R5 x6;have hk6:ρ6[k]?=some Da:=by
    obtain⟨r,rfl,_⟩:=y26.pre;rw[List.getElem?_append_left (List.getElem?_eq_some_iff.mp hk2).1];exact hk2
   unfold Ao at e7;dsimp only at e7 hm2;split at e7
   .next es q=>
    split at e7
    .next c7=>
     cases e7;obtain⟨xs,e1,e2⟩:=R6.lst hk6 q;obtain⟨R7,x7⟩:=R6.put hk6 (o:=.lst (es++[z])) (ho:=.lst (xs++[v6])) ⟨_,rfl,e2.app (.cons r6 .nil)⟩;refine⟨xs,e1,by rw[e2.len];exact c7,?_⟩;split at hm2
     .next g7=>exact⟨ρ6,ls3,_,(x2.trans R2 y26).trans R6 x7,R7,((L4.ext R3 x5).ext R5 x6).ext R6 x7,g7,hm2⟩
     .cases hm2
    .cases e7
   .cases e7
 .have e:i=ds.length:=by omega
  subst e;rw[drop_length]at hm2;unfold mIn at hm2;cases hm2;exact .inl ⟨Y2 rfl,hQ ρ2 H2 σ2 x2 R2 L2'⟩
def Rj{j:Nat}{ix:List Nat}{wi wi2:TI}{g g2:TG}{tf tf2:TT}{te:TE}{mi mi2:MI}{n n2:MG}{c c2:MT}{m:ME}(hi:RIt K wi mi)(hg:RGt K g n)(hf:RT K tf c)(hi2:RIt K wi2 mi2)(hg2:RGt K g2 n2)(hf2:RT K tf2 c2)(he:RE K te m):RE K (Ep j ix wi g tf wi2 g2 tf2 te) (Cu j ix mi n c mi2 n2 c2 m):=by
 intro ρ σ H hd ls Q out hd' hR hL hm hQ;obtain⟨⟨⟨ds,gd⟩,h1⟩,e1,hm⟩:=dF hm;obtain⟨hd2,hm,e2⟩:=dG hm;cases e2;dsimp only at hm;refine hi ρ σ H hd ls _ ds gd h1 hR hL e1 λρ1 H1 J x1 R1 G1 Y=>?_;intro Da hDa;obtain⟨R1',x1'⟩:=R1.new (o:=.lst []) (ho:=.lst []) hDa ⟨[],rfl,.nil⟩;have hk1:(ρ1++[Da])[h1.length]?=some Da:=by rw[<- R1.len];simp
 refine⟨λi mm σ2 H2=>mm=ds.length-i/\i<=ds.length/\∃ρ2 ls2 h2,Ext (ρ1++[Da]) (upd H1 Da (.lst [])) ρ2 H2/\RH K ρ2 H2 h2/\RL K ρ2 H2 ls2 σ2/\GOk h2 gd/\EO h1.length n c mi2 n2 c2 m gd (ds.drop i) ls2 h2=some hd',
  ⟨ds.length,by simp,zero_le _,_,_,_,.refl,R1',NK ((hL.ext hR x1).ext R1 x1'),W6 G1 _,by simpa using hm⟩,?_⟩
 rintro i mm σ2 H2 ⟨rfl,hi',ρ2,ls2,h2,x2,R2,L2',G2,hm2⟩;have x12:=x1'.trans R1' x2;obtain⟨Y1,Y2⟩:=Y ρ2 H2 h2 x12 R2 G2 i;have hk2:ρ2[h1.length]?=some Da:=by
  obtain⟨r,rfl,_⟩:=x2.pre;rw[List.getElem?_append_left (List.getElem?_eq_some_iff.mp hk1).1];exact hk1
 by_cases hlt:i<ds.length
 .obtain⟨go,Y1⟩:=Y1 hlt;have ed:ds.drop i=ds[i]::ds.drop (i+1):=drop_eq_getElem_cons hlt;rw[ed]at hm2;unfold EO at hm2;obtain⟨ls3,e3,hm2⟩:=dF hm2;obtain⟨⟨bb,hd4⟩,e4,hm2⟩:=dF hm2;refine .inr ⟨go,λσ' H'=>∃ρ2 ls2 h2,Ext (ρ1++[Da]) (upd H1 Da (.lst [])) ρ2 H'/\RH K ρ2 H' h2/\RL K ρ2 H' ls2 σ'/\GOk h2 gd/\EO h1.length n c mi2 n2 c2 m gd (ds.drop (i+1)) ls2 h2=some hd',λσ' H' z=>⟨ds.length-(i+1),by omega,rfl,hlt,z⟩,λx H3 y=>?_⟩;obtain⟨ρ3,d3,x3,rfl,R3,e5,r3⟩:=Y1 x H3 y;have e6:d3=ds[i]:=by
   have:ds[i]?=some ds[i]:=by simp[hlt]
   rw[this]at e5;exact(Option.some.inj e5).symm
  subst e6;refine hg ρ3 σ2 H3 h2 ls2 ls3 _ x _ R3 (L2'.ext R2 x3) r3 e3 λσ4 L4=>?_;refine hf ρ3 σ4 H3 h2 ls3 _ bb hd4 R3 L4 e4 λρ5 H5 x5 R5=>?_;have y25:=x3.trans R3 x5;cases bb with
  |false=>
   rw[if_neg Bool.false_ne_true]at hm2 ⊢;split at hm2
   .next g5=>exact⟨ρ5,ls3,hd4,x2.trans R2 y25,R5,L4.ext R3 x5,g5,hm2⟩
   .cases hm2
  |true=>
   rw[if_pos rfl]at hm2 ⊢;obtain⟨⟨⟨ds6,g6⟩,hd6⟩,e6,hm2⟩:=dF hm2;obtain⟨⟨ls7,hd7⟩,e7,hm2⟩:=dF hm2;refine hi2 ρ5 σ4 H5 hd4 ls3 _ ds6 g6 hd6 R5 (L4.ext R3 x5) e6 λρ6 H6 J6 x6 R6 G6 Y6=>?_;have y26:=y25.trans R5 x6;have hk6:ρ6[h1.length]?=some Da:=by
    obtain⟨r,rfl,_⟩:=y26.pre;rw[List.getElem?_append_left (List.getElem?_eq_some_iff.mp hk2).1];exact hk2
   refine bE hg2 hf2 he R6 ((L4.ext R3 x5).ext R5 x6) G6 Y6 hk6 e7 λρ7 H7 σ7 x7 R7 L7=>?_;dsimp only at hm2;split at hm2
   .next g7=>exact⟨ρ7,ls7,hd7,(x2.trans R2 y26).trans R6 x7,R7,L7,g7,hm2⟩
   .cases hm2
 .have e:i=ds.length:=by omega
  subst e;rw[drop_length]at hm2;unfold EO at hm2;cases hm2;refine .inl ⟨Y2 rfl,hQ ρ2 H2 _ (x1.trans R1 x12) R2 ?_⟩;simp only[RD];exact⟨Da,hk2,rfl⟩
end
def LS(K:PySem.W.Frag){X:Cx}{elt tg iter tg2 iter2:Expr}{ifs ifs2:List Expr}{scope:Scope}{pos:Pos}{loc fr:List Str}{ix:List Nat}{wi wi2:TI}{g g2:TG}{tf tf2:TT}{te:TE}{mi mi2:MI}{n n2:MG}{mf mf2:MT}{mm:ME}(hc:X.calm=true)(S:CSc X scope fr ix)(hi:QI K X tg iter wi mi)
 (hg:∀s H ex,QG K (cCx X (loc++fr) scope s H ex) tg g n) (hf:∀s H ex,QF K (cCx X (loc++fr) scope s H ex) ifs tf mf) (hi2:∀s H ex,QI K (cCx X (loc++fr) scope s H ex) tg2 iter2 wi2 mi2) (hg2:∀s H ex,QG K (cCx X (loc++fr) scope s H ex) tg2 g2 n2) (hf2:∀s H ex,QF K (cCx X (loc++fr) scope s H ex) ifs2 tf2 mf2) (he:∀s H ex,QE K (cCx X (loc++fr) scope s H ex) elt te mm)
 (hs:∀x,foldedSetIterable iter X.env x=pure x:=by intro _;rfl) (hs2:∀s H ex x,foldedSetIterable iter2 (cCx X (loc++fr) scope s H ex).env x=pure x:=by intro _ _ _ _;rfl):
 QE K X (.ListComp elt [⟨tg,iter,ifs,0⟩,⟨tg2,iter2,ifs2,0⟩] scope pos) (Ep loc.length ix wi g tf wi2 g2 tf2 te) (Cu loc.length ix mi n mf mi2 n2 mf2 mm):=
 ⟨SJ hc S hi.p (λs H ex=>(hg s H ex).p) (λs H ex=>(hf s H ex).p) (λs H ex=>(hi2 s H ex).p) (λs H ex=>(hg2 s H ex).p) (λs H ex=>(hf2 s H ex).p) (λs H ex=>(he s H ex).p) hs hs2,
  Rj hi.r (hg X.s₀ X.H₀ []).r (hf X.s₀ X.H₀ []).r (hi2 X.s₀ X.H₀ []).r (hg2 X.s₀ X.H₀ []).r (hf2 X.s₀ X.H₀ []).r (he X.s₀ X.H₀ []).r⟩
open Classical in
def Bn(ma mb:ME):MA:=λls hd=>(ma ls hd).bind λp=>(mb ls p.2).bind λq=>match p.1,q.1 with
 |.mu i,.mu j=>match q.2[i]?,q.2[j]? with
  |some (.lst xs),some (.lst ys)=>if Be (xs.length+ys.length)then some (xs++ys,q.2)else none
  |_,_=>none
 |_,_=>none
def XB{K:PySem.W.Frag}{ta tb:TE}{ma mb:ME}(ha:RE K ta ma)(hb:RE K tb mb):RN K (tOp Rs ta tb) (Bn ma mb):=by
 and_intros;obtain⟨⟨d1,h1⟩,e1,hm⟩:=dF hm;obtain⟨⟨d2,h2⟩,e2,hm⟩:=dF hm;dsimp only at hm;split at hm
 .next i j=>
  split at hm
  .next xs ys q1 q2=>
   split at hm
   .next c=>
    cases hm;refine ha ρ σ H hd ls _ _ h1 hR hL e1 λρ1 H1 v x1 R1 r1=>?_;refine hb ρ1 σ H1 h1 ls _ _ _ R1 (hL.ext hR x1) e2 λρ2 H2 u x2 R2 r2=>?_;have r1':=r1.ext R1 x2;simp only[RD]at r1' r2;obtain⟨a,ka,rfl⟩:=r1';obtain⟨b,kb,rfl⟩:=r2;obtain⟨vs,f1,f2⟩:=R2.lst ka q1;obtain⟨us,f3,f4⟩:=R2.lst kb q2;refine⟨a,b,vs,us,rfl,rfl,f1,f3,by rw[f2.len,f4.len];exact c,λp hp=>?_⟩;obtain⟨R3,x3⟩:=R2.hid (ho:=.lst (vs++us)) hp;have x12:=x1.trans R1 x2;exact hQ ρ2 _ p _ (x12.trans R2 x3) R3 (x12.none hR hp R2) (R2.out hp) Ad ((f2.app f4).ext R2 x3)
   .cases hm
  .cases hm
 .cases hm
def Xu(K:PySem.W.Frag){X:Cx}{a b:Expr}{pos:Pos}{ta tb:TE}{ma mb:ME}(ha:QE K X a ta ma)(hb:QE K X b tb mb):QN K X (.BinOp a .Add b pos) (tOp Rs ta tb) (Bn ma mb):=⟨TF Ys ha.p hb.p,XB ha.r hb.r⟩
@[simp] theorem Sd(j:Nat)(ix:List Nat)(mi mi2:MI)(n n2:MG)(c c2:MT)(m:ME)(ls:Ls)(hd:Hd):Cu j ix mi n c mi2 n2 c2 m ls hd=(mi ls hd).bind λp=>(EO p.2.length n c mi2 n2 c2 m p.1.2 p.1.1 (E8 j ix ls) (p.2++[.lst []])).map λh=>(.mu p.2.length,h):=rfl
end L2
namespace L2
open PySem PySem.Spec PyProof.Rows PySem.W
section
variable(r:Nat->Int)(n:Nat)
def PWp{α:Type}:KasT α->(α->Prop)->Prop
 |.ret a,Q=>Q a
 |.ask i j k,Q=>i<n/\j<n/\PWp (k (decide (r i<r j))) Q
def kv(p:Array Nat)(i:Nat):Int:=r (p.getD i 0)
def STo(p:Array Nat)(m:Nat):Prop:=∀i j,i<=j->j<m->kv r p i<=kv r p j
def DTo(p:Array Nat)(m:Nat):Prop:=∀i j,i<=j->j<m->kv r p j<=kv r p i
def EqL(p:Array Nat)(m q:Nat):Prop:=∀k,m-(q+1)<=k->k<m->kv r p k=kv r p (m-1)
def PAr(p:Array Nat):Prop:=p.Perm (List.range n).toArray
end
section
variable{r:Nat->Int}{n:Nat}
def PWp.bind{α β:Type}{f:α->KasT β}{Q:β->Prop}:∀{t:KasT α},PWp r n t (λa=>PWp r n (f a) Q)->PWp r n (t.bind f) Q
 |.ret _,h=>h
 |.ask i j k,h=>⟨h.1,h.2.1,PWp.bind h.2.2⟩
def PWp.mono{α:Type}{Q Q':α->Prop}:∀{t:KasT α},PWp r n t Q->(∀a,Q a->Q' a)->PWp r n t Q'
 |.ret _,h,q=>q _ h
 |.ask i j k,h,q=>⟨h.1,h.2.1,PWp.mono h.2.2 q⟩
def PWp.wp{α:Type}{cmp:Nat->Nat->(Bool->Shared->Prop)->Shared->Prop}{P:Shared->Prop}{Q:α->Shared->Prop}(hc:∀i j C s,i<n->j<n->P s->(∀s',P s'->C (decide (r i<r j)) s')->cmp i j C s):∀{t:KasT α} {s:Shared},PWp r n t (λa=>∀s,P s->Q a s)->P s->t.kasWp cmp Q s
 |.ret _,s,h,p=>h s p
 |.ask i j k,s,h,p=>hc i j _ s h.1 h.2.1 p λs' p'=>PWp.wp hc h.2.2 p'
def PAr.size{p:Array Nat}(h:PAr n p):p.size=n:=by have:=h.size_eq;simpa using this
def PAr.lt{p:Array Nat}(h:PAr n p){i:Nat}(hi:i<n):p.getD i 0<n:=by
 have hs:=h.size;have hi':i<p.size:=by omega
 have:p[i]∈(List.range n).toArray:=h.mem_iff.mp (Array.getElem_mem hi');have e:p.getD i 0=p[i]:=by simp[Array.getD,hi']
 rw[e];simpa using this
def Im{p:Array Nat}{i j:Nat}(hj:j<=p.size)(k:Nat):kv r (kas_rev p i j) k=if i<=k/\k<j then kv r p (i+j-1-k)else kv r p k:=by
 unfold kv kas_rev;simp only[Array.getD_eq_getD_getElem?];rw[getElem?_mirror_all hj];split<;>rfl
def PAr.rev{p:Array Nat}(h:PAr n p)(i j:Nat):PAr n (kas_rev p i j):=(mirror_perm _ _ _ _).trans h
def N4{p:Array Nat}{m q:Nat}(hj:m<=p.size)(hq:q+1<=m)(h:EqL r p m q)(k:Nat):kv r (kas_rev p (m-(q+1)) m) k=kv r p k:=by
 rw[Im hj];split
 .next c=>rw[h _ (by omega) (by omega),h k c.1 c.2]
 .rfl
def M9{p:Array Nat}(pa:PAr n p):∀(f m:Nat),1<=m->m+f<=n->STo r p m->PWp r n (kas_asc p f m) λm'=>m<=m'/\m'<=m+f/\STo r p m'/\(m'<m+f->kv r p m'<kv r p (m'-1))
 |0,m,h1,hn,hs=>⟨le_refl _,le_refl _,hs,λh=>by omega⟩
 |f+1,m,h1,hn,hs=>by
  refine⟨pa.lt (by omega),pa.lt (by omega),?_⟩;by_cases c:r (p.getD m 0)<r (p.getD (m-1) 0)
  .rw[decide_eq_true c];exact⟨le_refl _,by omega,hs,λ_=>c⟩
  .rw[decide_eq_false c];refine(M9 pa f (m+1) (by omega) (by omega) ?_).mono λm' h=>⟨by omega,by omega,h.2.2.1,λz=>h.2.2.2 (by omega)⟩
   intro i j hij hj;by_cases e:j<m
   .exact hs i j hij e
   .have:j=m:=by omega
    subst this;by_cases e2:i=j
    .subst e2;exact Int.le_refl _
    .have:=hs i (j-1) (by omega) (by omega);have:kv r p (j-1)<=kv r p j:=by unfold kv;omega
     omega
def IE{p:Array Nat}{m:Nat}(h1:1<=m)(h:DTo r p m)(c:kv r p m<=kv r p (m-1)):DTo r p (m+1):=by
 intro i j hij hj;by_cases e:j<m
 .exact h i j hij e
 .have:j=m:=by omega
  subst this;by_cases e2:i=j
  .subst e2;exact Int.le_refl _
  .have:=h i (j-1) (by omega) (by omega);omega
def HU:∀(f:Nat) (p:Array Nat) (m q:Nat),PAr n p->1<=m->q+1<=m->m+f<=n->DTo r p m->EqL r p m q ->
 PWp r n (kas_desc f p m q) λz=>PAr n z.1/\m<=z.2.1/\z.2.1<=m+f/\DTo r z.1 z.2.1/\EqL r z.1 z.2.1 z.2.2/\z.2.2+1<=z.2.1
 |0,p,m,q,pa,h1,hq,hn,hd,he=>⟨pa,le_refl _,le_refl _,hd,he,hq⟩
 |f+1,p,m,q,pa,h1,hq,hn,hd,he=>by
  refine⟨pa.lt (by omega),pa.lt (by omega),?_⟩;have sz:=pa.size;by_cases c:r (p.getD m 0)<r (p.getD (m-1) 0)
  .rw[decide_eq_true c];have c':kv r p m<=kv r p (m-1):=by unfold kv;omega
   dsimp only;rw[if_pos rfl];by_cases hq0:q>0
   .rw[if_pos hq0];have sm:=N4 (r:=r) (p:=p) (m:=m) (q:=q) (by omega) hq he;refine(HU f _ (m+1) 0 (pa.rev _ _) (by omega) (by omega) (by omega) ?_ ?_).mono λz h=>⟨h.1,by omega,by omega,h.2.2.2⟩
    .have:=IE h1 hd c';intro i j a b;rw[sm,sm];exact this i j a b
    .intro k a b;have:k=m:=by omega
     subst this;rfl
   .rw[if_neg hq0];refine(HU f p (m+1) 0 pa (by omega) (by omega) (by omega) (IE h1 hd c') ?_).mono λz h=>⟨h.1,by omega,by omega,h.2.2.2⟩
    intro k a b;have:k=m:=by omega
    subst this;rfl
  .rw[decide_eq_false c];dsimp only;rw[if_neg Bool.false_ne_true];refine⟨pa.lt (by omega),pa.lt (by omega),?_⟩;by_cases d:r (p.getD (m-1) 0)<r (p.getD m 0)
   .rw[decide_eq_true d];exact⟨pa,le_refl _,by show m<=m+(f+1);omega,hd,he,hq⟩
   .rw[decide_eq_false d];dsimp only;rw[if_neg Bool.false_ne_true];have e:kv r p m=kv r p (m-1):=by unfold kv;omega
    refine(HU f p (m+1) (q+1) pa (by omega) (by omega) (by omega) (IE h1 hd (by omega)) ?_).mono λz h=>⟨h.1,by omega,by omega,h.2.2.2⟩
    intro k a b;by_cases e2:k=m
    .subst e2;rfl
    .have:=he k (by omega) (by omega);have e3:m+1-1=m:=rfl;rw[e3];omega
def Run(z:Nat×Array Nat)(r:Nat->Int)(n:Nat):Prop:=PAr n z.2/\1<=z.1/\z.1<=n/\STo r z.2 z.1
def Kw{p:Array Nat}{m:Nat}(pa:PAr n p)(h1:1<=m)(hn:m<=n)(hd:DTo r p m):PWp r n (kas_tail3 m n p) λz=>Run z r n:=by
 have sz:=pa.size;have st:STo r (kas_rev p 0 m) m:=by
  intro i j a b;rw[Im (by omega),Im (by omega),if_pos ⟨by omega,by omega⟩,if_pos ⟨by omega,by omega⟩];exact hd _ _ (by omega) (by omega)
 refine PWp.bind ((M9 (pa.rev 0 m) (n-m) m h1 (by omega) st).mono λm' h=>?_);exact⟨pa.rev 0 m,by show 1<=m';omega,by show m'<=n;omega,h.2.2.1⟩
def He{p:Array Nat}{m:Nat}(pa:PAr n p)(hn:m+1<=n)(hd:DTo r p (m+1)):PWp r n (kas_descPart m n p) λz=>Run z r n:=by
 refine PWp.bind ((HU (n-(m+1)) p (m+1) 0 pa (by omega) (by omega) (by omega) hd ?_).mono λz h=>?_)
 .intro k a b;have:k=m:=by omega
  subst this;rfl
 .obtain⟨a,b,c,d,e,g⟩:=h;have sz:=a.size;by_cases hq:z.2.2>0
  .rw[if_pos hq];have sm:=N4 (r:=r) (p:=z.1) (m:=z.2.1) (q:=z.2.2) (by omega) g e;exact Kw (a.rev _ _) (by omega) (by omega) λi j x y=>by rw[sm,sm];exact d i j x y
  .rw[if_neg hq];exact Kw a (by omega) (by omega) d
def Sh(h1:1<=n):PWp r n (kas_count n (List.toArray (List.range n))) λz=>Run z r n:=by
 have pa:PAr n (List.range n).toArray:=.refl _;have sz:=pa.size;refine PWp.bind ((M9 pa (n-1) 1 (by omega) (by omega) λi j a b=>?_).mono λm h=>?_)
 .have:i=j:=by omega
  subst this;exact Int.le_refl _
 .obtain⟨a,b,c,d⟩:=h;by_cases e:(m==n)=true
  .rw[if_pos e];have:m=n:=by simpa using e
   exact⟨pa,by show 1<=m;omega,by show m<=n;omega,c⟩
  .rw[if_neg e];have hne:m≠n:=by simpa using e
   have dd:=d (by omega);by_cases h2:m>1
   .rw[if_pos h2];refine⟨pa.lt (by omega),pa.lt (by omega),?_⟩;by_cases g:r ((List.range n).toArray.getD 0 0)<r ((List.range n).toArray.getD (m-1) 0)
    .rw[decide_eq_true g];exact⟨pa,by show 1<=m;omega,by show m<=n;omega,c⟩
    .rw[decide_eq_false g];dsimp only;rw[if_neg Bool.false_ne_true];have g':kv r (List.range n).toArray (m-1)<=kv r (List.range n).toArray 0:=by unfold kv;omega
     have eq:∀k,k<m->kv r (List.range n).toArray k=kv r (List.range n).toArray 0:=λk hk=>by
      have x1:=c 0 k (by omega) hk;have x2:=c k (m-1) (by omega) (by omega);omega
     have rv:∀k,kv r (kas_rev (List.range n).toArray 0 m) k=kv r (List.range n).toArray k:=λk=>by
      rw[Im (by omega)];split
      .next z=>rw[eq _ (by omega),eq k z.2]
      .rfl
     refine He (pa.rev 0 m) (by omega) λi j x y=>?_;rw[rv,rv];by_cases z:j<m
     .rw[eq i (by omega),eq j z];exact Int.le_refl _
     .have:j=m:=by omega
      subst this;by_cases z2:i=j
      .subst z2;exact Int.le_refl _
      .rw[eq i (by omega)];have:=eq (j-1) (by omega);omega
   .rw[if_neg h2];have:m=1:=by omega
    subst this;refine He pa (by omega) λi j x y=>?_;by_cases z:i=j
    .subst z;exact Int.le_refl _
    .have:i=0:=by omega
     have:j=1:=by omega
     subst i j;have:kv r (List.range n).toArray 1<kv r (List.range n).toArray 0:=dd;omega
def Hr{p:Array Nat}{k:Nat}(pa:PAr n p)(hk:k<n)(hs:STo r p k):∀(f l q:Nat),l<=q->q<=k->q-l<=f->(∀i,i<l->kv r p i<=kv r p k)->(∀i,q<=i->i<k->kv r p k<kv r p i) ->
 PWp r n (kas_place p k f l q) λm=>m<=k/\(∀i,i<m->kv r p i<=kv r p k)/\∀i,m<=i->i<k->kv r p k<kv r p i
 |0,l,q,a,b,c,d,e=>⟨by omega,d,λi x y=>e i (by omega) y⟩
 |f+1,l,q,a,b,c,d,e=>by
  unfold kas_place;by_cases h:l>=q
  .rw[if_pos h];exact⟨by omega,d,λi x y=>e i (by omega) y⟩
  .rw[if_neg h];refine⟨pa.lt (by omega),pa.lt (by omega),?_⟩;by_cases g:r (p.getD k 0)<r (p.getD ((l+q)/2) 0)
   .rw[decide_eq_true g];dsimp only;rw[if_pos rfl];have g':kv r p k<kv r p ((l+q)/2):=g;refine Hr pa hk hs f l ((l+q)/2) (by omega) (by omega) (by omega) d λi x y=>?_;have:=hs ((l+q)/2) i x y;omega
   .rw[decide_eq_false g];dsimp only;rw[if_neg Bool.false_ne_true];have g':kv r p ((l+q)/2)<=kv r p k:=by unfold kv;omega
    refine Hr pa hk hs f ((l+q)/2+1) q (by omega) (by omega) (by omega) (λi x=>?_) e;have:=hs i ((l+q)/2) (by omega) (by omega);omega
def Jv{p:Array Nat}{k d:Nat}(hk:k<p.size)(hd:d<=k)(i:Nat):kv r (bubble p k d) i=if i=k-d then kv r p k else if k-d<i/\i<=k then kv r p (i-1)else kv r p i:=by
 unfold kv;simp only[Array.getD_eq_getD_getElem?];rw[getElem?_bubble hk d hd];split
 .rfl
 .split<;>rfl
def Qb:∀(f:Nat) (p:Array Nat) (k:Nat),PAr n p->k+f=n->STo r p k->PWp r n (kas_bin f p k) λz=>PAr n z/\STo r z n
 | 0,p,k,pa,e,hs=>⟨pa,by
  have:k=n:=by omega
  subst this;exact hs⟩
 |f+1,p,k,pa,e,hs=>by
  have sz:=pa.size;refine PWp.bind ((Hr pa (by omega) hs k 0 k (by omega) (by omega) (by omega) (λi h=>by omega) (λi a b=>by omega)).mono λm h=>?_);obtain⟨a,b,c⟩:=h;refine Qb f _ (k+1) ((bubble_perm _ _ _).trans pa) (by omega) λi j x y=>?_;rw[Jv (by omega) (by omega),Jv (by omega) (by omega)];have ek:k-(k-m)=m:=by omega
  rw[ek]
  repeat' split
  .exact Int.le_refl _
  .exact Int.le_of_lt (c _ (by omega) (by omega))
  .omega
  .exact b _ (by omega)
  .exact hs _ _ (by omega) (by omega)
  .omega
  .exact b _ (by omega)
  .exact hs _ _ (by omega) (by omega)
  .exact hs _ _ (by omega) (by omega)
def U1(h1:1<=n):PWp r n (kas_sort n) λp=>PAr n p/\STo r p n:=by
 refine PWp.bind ((Sh h1).mono λz h=>?_);obtain⟨a,b,c,d⟩:=h;by_cases e:z.1<n
 .rw[if_pos e];have:max z.1 1=z.1:=by omega
  rw[this];exact Qb _ _ _ a (by omega) d
 .rw[if_neg e];have:z.1=n:=by omega
  exact⟨a,this ▸ d⟩
end
def PairAt(h:Heap)(v:Value)(p:Int×Int):Prop:=∃(x:Addr) (o:Obj) (t u:Tok) (k:Nat),v=.ref x/\h.get? x=some o/\o.cls=.type "tuple"/\o.data=.seq #[.int p.1 t,.int p.2 u] k
def C6(p:Int×Int):Int:=p.1*4000000000+p.2
def pok(p:Int×Int):Prop:=-1000000000<=p.1/\p.1<=1000000000/\-1000000000<=p.2/\p.2<=1000000000
section
variable{prog:Program}{w:World}{A:Around}{E:Value->Shared->Prop}{s:Shared}
def Vt{x y:Value}{p q:Int×Int}{C:Bool->Shared->Prop}(hx:PairAt s.heap x p)(hy:PairAt s.heap y q)(op:pok p)(oq:pok q)(h:C (decide (C6 p<C6 q)) s):
 wpAny (model prog w) A (keyLt' (tuples' true) x y) C E s:=by
 obtain⟨a,o,t,u,k,rfl,ho,hc,hd⟩:=hx;obtain⟨a2,o2,t2,u2,k2,rfl,ho2,hc2,hd2⟩:=hy;obtain⟨p1,p2⟩:=p;obtain⟨q1,q2⟩:=q;unfold pok at op oq;unfold C6 at h;dsimp only at op oq h;refine kat_lt ho hd ho2 hd2 ?_;refine kat_cons (wpAny_eqBool_int ?_);by_cases e1:p1=q1
 .have b1:(p1==q1)=true:=by simp[e1]
  rw[b1];refine kat_yes (kat_cons (wpAny_eqBool_int ?_));by_cases e2:p2=q2
  .have b2:(p2==q2)=true:=by simp[e2]
   rw[b2];refine kat_yes (kat_nil ?_);have:decide (p1*4000000000+p2<q1*4000000000+q2)=false:=decide_eq_false (by omega);rw[this]at h;exact h
  .have b2:(p2==q2)=false:=by simp[e2]
   rw[b2];refine kat_no (kat_one _ _ (lt_int ?_));have:decide (p1*4000000000+p2<q1*4000000000+q2)=decide (p2<q2):=decide_eq_decide.mpr (by omega);rw[this]at h;exact h
 .have b1:(p1==q1)=false:=by simp[e1]
  rw[b1];refine kat_no (oneLt_int ?_);have:decide (p1*4000000000+p2<q1*4000000000+q2)=decide (p1<q1):=decide_eq_decide.mpr (by omega);rw[this]at h;exact h
def Me{h:Heap}:∀{vs:List Value} {ps:List (Int×Int)},vs.length=ps.length->(∀(i:Nat) (v:Value) (p:Int×Int),vs[i]?=some v->ps[i]?=some p->PairAt h v p)->∃fs,KatTups h vs fs/\fs.length=vs.length/\∀f∈fs,∃i t,f=.int i t
 |[],[],_,_=>⟨[],.nil,rfl,λ_ z=>by cases z⟩
 |v::vs,p::ps,hl,hp=>by
  obtain⟨fs,a,b,c⟩:=Me (vs:=vs) (ps:=ps) (by simpa using hl) λi v q e1 e2=>hp (i+1) v q (by simpa using e1) (by simpa using e2);obtain⟨x,o,t,u,k,rfl,ho,hc,hd⟩:=hp 0 v p rfl rfl;exact⟨.int p.1 t::fs,.cons ho hc hd rfl a,by simp[b],λf hf=>by
   rcases mem_cons.mp hf with rfl|hf
   .exact⟨_,_,rfl⟩
   .exact c f hf⟩
def Ej(vs:List Value)(ps:List (Int×Int))(out:List Value):Prop:=∃zs:List (Value×(Int×Int)),zs.Perm (vs.zip ps)/\(zs.map λz=>C6 z.2).Pairwise (·<=·)/\out=zs.map (·.1)
def Ou{vs:List Value}{ps:List (Int×Int)}(hl:vs.length=ps.length){p:Array Nat}(pa:PAr vs.length p)(hs:STo (λi=>C6 (ps.getD i (0,0))) p vs.length):Ej vs ps (p.toList.map λi=>vs.getD i Value.none):=by
 have sz:=pa.size;refine⟨p.toList.map λi=>(vs.getD i Value.none,ps.getD i (0,0)),?_,?_,by rw[map_map];rfl⟩
 .have e:vs.zip ps=(List.range vs.length).map λi=>(vs.getD i Value.none,ps.getD i (0,0)):=by
   refine ext_getElem? λi=>?_;by_cases hi:i<vs.length
   .have hi2:i<ps.length:=by omega
    rw[(List.getElem?_zip_eq_some (z:=(vs[i],ps[i]))).mpr ⟨by simp[hi],by simp[hi2]⟩];simp[hi,hi2]
   .rw[List.getElem?_eq_none (by simp;omega),List.getElem?_eq_none (by simp;omega)]
  rw[e];have:=Array.perm_iff_toList_perm.mp pa;simpa using this.map _
 .rw[map_map,List.pairwise_iff_getElem];intro i j hi hj hij;simp only[length_map,Array.length_toList]at hi hj;have:=hs i j (by omega) (by omega);unfold kv at this;simpa [Array.getD,hi,hj]using this
def Ng{a:Addr}{vs:List Value}{ps:List (Int×Int)}{n:Nat}{P:PySem.Fin->Shared->Prop}(ho:s.heap.get? a=some (seqObj "list" vs.toArray n))(hl:vs.length=ps.length)(h64:vs.length<64)(hok:∀p∈ps,pok p)
 (hp:∀(i:Nat) (v:Value) (p:Int×Int),vs[i]?=some v->ps[i]?=some p->PairAt (s.heap.update a (Obj.mapSeq λ_=>#[])) v p)
 (h:∀out:List Value,Ej vs ps out->P (.done (.ret .none)) { s with heap:=sortedHeap s.heap a vs out.toArray }):
 wpAny (model prog w) A (Builtin.«list.sort» ⟨[.ref a],[]⟩) P E s:=by
 have ha:=Heap.lt_size ho;have line:vs.length<=sizeLine:=by rw[sizeLine_eq];omega
 obtain⟨e1,ho1⟩:∃e1,(s.heap.update a (Obj.mapSeq λ_=>#[])).get? a=some (seqObj "list" #[] e1):=⟨_,get?_update_seq ho _⟩
 rw[list_sort_plain];refine wpAny_bind (listItems_at ho rfl (wpAny_bind (listUpdate_at ho rfl (wpAny_bind (seqEpoch_at ho1 rfl (wpAny_bind (wpAny_newTuple (wpAny_bind (wpAny_newList (wpAny_holding ?_) (zero_le _))) line)))) (by rw[size_toArray];exact line) (zero_le _))));have grow:∀b o,(s.heap.update a (Obj.mapSeq λ_=>#[])).get? b=some o->(((s.heap.update a (Obj.mapSeq λ_=>#[])).push (seqObj "tuple" vs.toArray 0)).push (seqObj "list" #[] 0)).get? b=some o:=λb o e=>Heap.get?_push_of_some _ (Heap.get?_push_of_some _ e);have ho6:=grow _ _ ho1;generalize h6:((s.heap.update a (Obj.mapSeq λ_=>#[])).push (seqObj "tuple" vs.toArray 0)).push (seqObj "list" #[] 0)=hp6 at *;have done:∀out:List Value,Ej vs ps out->P (.done (.ret .none)) { s with heap:=hp6.update a (Obj.mapSeq λ_=>out.toArray) }:=λout z=>by
  have:=h out z;unfold sortedHeap at this;rw[h6]at this;exact this
 show wpAny (model prog w) A _ P E { s with heap:=hp6 };dsimp only;have pairs6:∀(i:Nat) (v:Value) (p:Int×Int),vs[i]?=some v->ps[i]?=some p->PairAt hp6 v p:=λi v p x y=>by
  obtain⟨x',o,t,u,k,e,q,c,d⟩:=hp i v p x y;exact⟨x',o,t,u,k,e,grow _ _ q,c,d⟩
 by_cases h2:vs.toArray.size<2
 .rw[if_pos h2,if_pos h2];refine wpAny_bind (wpAny_pure ?_);rw[StateT.run_pure];refine wpAny_bind (wpAny_pure ?_);dsimp only;have hout:(arrOf (SortSt.mk' general' (vs.toArray.zip vs.toArray) #[] 7 none)).map (·.2)=vs.toArray:=by
   show(vs.toArray.zip vs.toArray).map (·.2)=vs.toArray;apply Array.toList_inj.mp;simp only[Array.toList_map,Array.toList_zip];exact List.map_snd_zip (le_refl _)
  rw[hout];refine wpAny_bind (seqEpoch_at ho6 rfl (wpAny_bind (listUpdate_at ho6 rfl ?_ (zero_le _) (by rw[size_toArray];omega))));simp only[bne_self_eq_false,Bool.false_eq_true,if_false];refine wpAny_pure (done vs ⟨vs.zip ps,.refl _,?_,?_⟩)
  .have hz:(vs.zip ps).length<2:=by simp at h2 ⊢;omega
   cases hh:vs.zip ps with
   |nil=>exact .nil
   |cons z r=>
    cases r with
    |nil=>exact List.pairwise_singleton _ _
    |cons y t=>rw[hh]at hz;exact absurd hz (by simp)
  .rw[List.map_fst_zip (by omega)]
 .rw[if_neg h2,if_neg h2];have h2':2<=vs.length:=by simp at h2;omega
  obtain⟨fs,t1,t2,t3⟩:=Me hl pairs6;have tT:∀f∈fs,Looks (model prog w) hp6 (typeOf f) (Value.type "int"):=λf hf=>by
   obtain⟨i,t,rfl⟩:=t3 f hf;exact .of_pure rfl
  refine wpAny_bind (kat_kind (s:={ s with heap:=hp6 }) t1 (by omega) tT rfl ?_);have est:SortSt.mk' (tuples' true) (vs.toArray.zip vs.toArray) #[] 7 none=kas_st (tuples' true) (pairsOf vs) (List.toArray (List.range vs.length)):=by
   unfold kas_st;rw[<- pairsOf_size vs,kas_range];rfl
  have ask:(kas_sort vs.length).kasWp (kas_cmp prog w A (tuples' true) (pairsOf vs)) (λp s'=>s'={ s with heap:=hp6 }/\Ej vs ps (p.toList.map λi=>vs.getD i Value.none)) { s with heap:=hp6 }:=by
   rw[<- kas_ask_eq];refine PWp.wp (n:=vs.length) (r:=λi=>C6 (ps.getD i (0,0))) (P:=λs'=>s'={ s with heap:=hp6 }) (λi j C s' hi hj e hC=>?_) ((U1 (by omega)).mono λp z s' e=>⟨e,Ou hl z.1 z.2⟩) rfl;subst e;have pi:ps[i]?=some (ps.getD i (0,0)):=by simp[show i<ps.length by omega]
   have pj:ps[j]?=some (ps.getD j (0,0)):=by simp[show j<ps.length by omega]
   have vi:vs[i]?=some (vs.getD i Value.none):=by simp[hi]
   have vj:vs[j]?=some (vs.getD j Value.none):=by simp[hj]
   exact Vt (s:={ s with heap:=hp6 }) (pairs6 i _ _ vi pi) (pairs6 j _ _ vj pj) (hok _ (mem_of_getElem? pi)) (hok _ (mem_of_getElem? pj)) (hC _ rfl)
  have run:=kas_runs (E:=E) (Q:=λ_ st' s'=>∃p:Array Nat,p.size=vs.length/\arrOf st'=p.map (kas_item (pairsOf vs))/\failedOf st'=none/\s'={ s with heap:=hp6 }/\Ej vs ps (p.toList.map λi=>vs.getD i Value.none)) h2' h64 (λp st' s' x1 x2 x3 x4=>⟨p,x1,x2,x3,x4⟩) ask;rw[<- est]at run;refine wpAny_bind (wpAny_mono run ?_ λ_ _ e=>e);rintro⟨⟨⟩,st'⟩ s' ⟨p,hsz,har,hf,rfl,so⟩;dsimp only;have hout:(arrOf st').map (·.2)=(p.toList.map λi=>vs.getD i Value.none).toArray:=by
   rw[har];apply Array.toList_inj.mp;simp only[Array.toList_map,map_map];exact List.map_congr_left λi _=>congrArg Prod.snd (kas_item_eq vs i)
  rw[hout];refine wpAny_bind (seqEpoch_at ho6 rfl (wpAny_bind (listUpdate_at ho6 rfl ?_ (zero_le _) (by simp[hsz];omega))));rw[hf];simp only[bne_self_eq_false,Bool.false_eq_true,if_false];exact wpAny_pure (done _ so)
end
def PairAt.keep{h h':Heap}{v:Value}{p:Int×Int}(k:∀b o,h.get? b=some o->h'.get? b=some o)(q:PairAt h v p):PairAt h' v p:=by
 obtain⟨x,o,t,u,n,e,ho,c,d⟩:=q;exact⟨x,o,t,u,n,e,k _ _ ho,c,d⟩
section
variable{prog:Program}{w:World}{A:Around}{E:Value->Shared->Prop}{s:Shared}
def L8{l:Addr}{vs:List Value}{ps:List (Int×Int)}{Q:Value->Shared->Prop}(hl:s.heap.IsList l vs.toArray)(hlen:vs.length=ps.length)(h64:vs.length<64)(hok:∀p∈ps,pok p)
 (hp:∀(i:Nat) (v:Value) (p:Int×Int),vs[i]?=some v->ps[i]?=some p->PairAt s.heap v p)
 (h:∀out:List Value,Ej vs ps out->Q (.ref (s.heap.objs.size+1)) { s with heap:=sortedAll s.heap vs out.toArray }):
 wpAny (model prog w) A (call (.builtin "sorted") [.ref l]) Q E s:=by
 have line:vs.length<=sizeLine:=by rw[sizeLine_eq];omega
 refine Calls.call_function_entry kind_sorted plain_sorted entry_sorted (args_sorted1 _) ?_;unfold Builtin.«sorted»;refine wpAny_bind (m:=checkCount "sorted" 1 1 _) (wpAny_pure (wpAny_bind (collect_list hl (wpAny_bind (wpAny_newList ?_ line)) line)));have sz:((s.heap.push (seqObj "list" #[] 0)).update s.heap.objs.size (Obj.mapSeq (·++vs.toArray))).objs.size=s.heap.objs.size+1:=by rw[Heap.size_update,size_push']
 have at1:(((s.heap.push (seqObj "list" #[] 0)).update s.heap.objs.size (Obj.mapSeq (·++vs.toArray))).push (seqObj "list" vs.toArray 0)).get? (s.heap.objs.size+1)=some (seqObj "list" vs.toArray 0):=by
  have:=Heap.get?_push_size ((s.heap.push (seqObj "list" #[] 0)).update s.heap.objs.size (Obj.mapSeq (·++vs.toArray))) (o:=seqObj "list" vs.toArray 0) rfl
  rwa [sz]at this
 have old:∀b o,s.heap.get? b=some o->((((s.heap.push (seqObj "list" #[] 0)).update s.heap.objs.size (Obj.mapSeq (·++vs.toArray))).push (seqObj "list" vs.toArray 0)).update (s.heap.objs.size+1) (Obj.mapSeq λ_=>#[])).get? b=some o:=λb o e=>by
  have lt:=Heap.lt_size e;rw[Heap.get?_update_ne _ _ _ _ (ne_of_lt (lt_succ_of_lt lt)),Heap.get?_push_ne _ _ _ (by rw[sz];exact ne_of_lt (lt_succ_of_lt lt)),Heap.get?_update_ne _ _ _ _ (ne_of_lt lt),Heap.get?_push_ne _ _ _ (ne_of_lt lt)];exact e
 show wpAny _ _ _ _ _ { s with heap:=((s.heap.push (seqObj "list" #[] 0)).update s.heap.objs.size (Obj.mapSeq (·++vs.toArray))).push (seqObj "list" vs.toArray 0) };rw[sz];refine wpAny_bind (wpAny_holding (wpAny_call_entry slot_list_sort ⟨_,at1,rfl⟩ entry_list_sort (Ng at1 hlen h64 hok (λi v p a b=>(hp i v p a b).keep old) λout z=>⟨_,rfl,?_⟩) (args_list_sort _)));exact wpAny_pure ⟨_,rfl,h out z⟩
end
section
variable(K:PySem.W.Frag){X:Cx}
def Ho:List V->Hp->VK->Prop:=λxs H Q=>∃(a:Addr) (us:List V) (ps:List (Int×Int)),xs=[.ref a]/\SqL K H a us/\us.length=ps.length/\us.length<64/\(∀q∈ps,pok q)/\
 (∀(i:Nat) (u:V) (q:Int×Int),us[i]?=some u->ps[i]?=some q->∃x,u=.ref x/\SqT K H x [.int q.1,.int q.2])/\
 ∀(p:Addr) (zs:List (V×(Int×Int))),H p=none->zs.Perm (us.zip ps)->(zs.map λz=>C6 z.2).Pairwise (·<=·)->Q (.ref p) (upd H p (.lst (zs.map (·.1))))
def Fs:Value->V
 |.ref x=>.ref x
 |_=>.non
def Kr:∀{us:List V} {its:List Value} {i:Nat} {u:V},Vals us its->us[i]?=some u->∃v,its[i]?=some v/\RelV u v
 |_,_,_,_,.nil,h=>by simp at h
 |_::_,_::_,0,_,.cons r _,h=>by
  simp at h;subst h;exact⟨_,rfl,r⟩
 |_::_,_::_,i+1,_,.cons _ t,h=>Kr (i:=i) t (by simpa using h)
def M4(hK:X.K=K:=by rfl):CallR X (.builtin "sorted") (Ho K):=by
 subst hK;intro pins s σ H xs us0 Q I r h;obtain⟨a,us,ps,rfl,hq,hlen,h64,hok,hpr,q⟩:=h;obtain⟨u,rfl,ru⟩:=C9 r;cases ru;obtain⟨its,rv,p,hz⟩:=I.list hq;have hl2:us.length=its.length:=rv.length;have point:∀(i:Nat) (v:Value) (q:Int×Int),its[i]?=some v->ps[i]?=some q->(∃x,us[i]?=some (.ref x)/\v=.ref x)/\PairAt s.heap v q:=by
  intro i v q e1 e2;have hi:i<us.length:=by rw[hl2];exact(List.getElem?_eq_some_iff.mp e1).1
  have eu:us[i]?=some us[i]:=by simp[hi]
  obtain⟨x,ex,sq⟩:=hpr i _ q eu e2;obtain⟨v',ev,rel⟩:=Kr rv eu;rw[e1]at ev;cases ev;rw[ex]at rel eu;have rel:v=Value.ref x:=rel;subst rel;refine⟨⟨x,eu,rfl⟩,?_⟩;obtain⟨jts,rj,⟨o,ho,hc,n,hd⟩,_⟩:=I.tuple sq;cases rj with
  |cons r1 t1=>
   cases t1 with
   |cons r2 t2=>
    cases t2;obtain⟨t,rfl⟩:=r1;obtain⟨t',rfl⟩:=r2;exact⟨x,o,t,t',n,rfl,ho,hc,hd⟩
 refine L8 (ps:=ps) p.isList (by omega) (by omega) hok (λi v q a b=>(point i v q a b).2) λout z=>?_;obtain⟨zs,pm,pw,rfl⟩:=z;obtain⟨e,he⟩:=sortedAll_at s.heap its (zs.map (·.1)).toArray;have mz:∀z∈zs,∃x,z.1=.ref x:=λz hz=>by
  have:=pm.mem_iff.mp hz;obtain⟨i,hi⟩:=List.mem_iff_getElem?.mp this;obtain⟨e1,e2⟩:=List.getElem?_zip_eq_some.mp hi;obtain⟨⟨x,_,ex⟩,_⟩:=point i _ _ e1 e2;exact⟨x,ex⟩
 have vz:∀{zs:List (Value×(Int×Int))},(∀z∈zs,∃x,z.1=.ref x)->Vals (zs.map λz=>Fs z.1) (zs.map (·.1)):=by
  intro zs
  induction zs with
  |nil=>intro _;exact .nil
  |cons z r ih=>
   intro h;obtain⟨x,ex⟩:=h z mem_cons_self;refine .cons ?_ (ih λy hy=>h y (mem_cons_of_mem _ hy));show RelV (Fs z.1) z.1;rw[ex];rfl
 have pm2:(zs.map λz=>(Fs z.1,z.2)).Perm (us.zip ps):=by
  have:=pm.map λz:Value×(Int×Int)=>(Fs z.1,z.2)
  have e:((its.zip ps).map λz:Value×(Int×Int)=>(Fs z.1,z.2))=us.zip ps:=by
   refine ext_getElem? λi=>?_;by_cases hi:i<us.length
   .have h1:i<its.length:=by omega
    have h2:i<ps.length:=by omega
    have e1:its[i]?=some its[i]:=by simp[h1]
    have e2:ps[i]?=some ps[i]:=by simp[h2]
    obtain⟨⟨x,ex,ev⟩,_⟩:=point i _ _ e1 e2;rw[List.getElem?_map,(List.getElem?_zip_eq_some (z:=(its[i],ps[i]))).mpr ⟨e1,e2⟩,(List.getElem?_zip_eq_some (z:=(V.ref x,ps[i]))).mpr ⟨ex,e2⟩,map_some,ev];rfl
   .rw[List.getElem?_eq_none (by simp;omega),List.getElem?_eq_none (by simp;omega)]
  rwa [e]at this
 have pw2:((zs.map λz=>(Fs z.1,z.2)).map λz:V×(Int×Int)=>C6 z.2).Pairwise (·<=·):=by rw[map_map];exact pw
 have fin:=q (s.heap.objs.size+1) _ (I.hok.fresh (Nat.le_succ _)) pm2 pw2;have em:(zs.map λz=>(Fs z.1,z.2)).map (·.1)=zs.map λz=>Fs z.1:=by rw[map_map];rfl
 rw[em]at fin;have zl:zs.length<64:=by rw[pm.length_eq];simp;omega
 refine⟨.ref (s.heap.objs.size+1),_,I.laid (a:=s.heap.objs.size+1) (o:=.lst (zs.map λz=>Fs z.1)) (t':=s.toks) (λb o hb=>sortedAll_old hb) (Nat.le_succ _) ⟨?_,_,e,vz mz,he⟩,rfl,fin⟩;rw[length_map];exact le_of_lt (Ov (by omega))
end
def Ax(p:Int×Int):D:=.im (.tup [.int p.1,.int p.2])
def De:List D->Option (List (Int×Int))
 |[]=>some []
 |.im (.tup [.int a,.int b])::r=>(De r).map ((a,b)::·)
 |_=>none
def Pe:∀{ds:List D} {ps:List (Int×Int)},De ds=some ps->ds=ps.map Ax:=by
 intro ds
 induction ds with
 |nil=>intro ps h;simp[De]at h;subst h;rfl
 |cons d r ih=>
  intro ps h;unfold De at h;split at h
  .next e=>cases e
  .next a b r' e=>
   cases e;obtain⟨qs,e1,rfl⟩:=dG h;rw[ih e1];rfl
  .cases h
@[simp] theorem O6(ps:List (Int×Int)):De (ps.map Ax)=some ps:=by
 induction ps with
 |nil=>rfl
 |cons p r ih=>simp[De,Ax]at ih ⊢;exact ih
def Bt(ps:List (Int×Int)):List (Int×Int):=ps.mergeSort λa b=>decide (C6 a<=C6 b)
def Fq(ps:List (Int×Int)):(Bt ps).Perm ps:=List.mergeSort_perm ..
def GR(ps:List (Int×Int)):(Bt ps).Pairwise λa b=>C6 a<=C6 b:=by
 have:=List.pairwise_mergeSort (le:=λa b:Int×Int=>decide (C6 a<=C6 b)) (by intro a b c h1 h2;simp at *;omega) (by intro a b;simp;omega) ps;exact this.imp (by simp)
def SD{p q:Int×Int}(a:pok p)(b:pok q)(h:C6 p=C6 q):p=q:=by
 unfold pok at a b;unfold C6 at h;exact Prod.ext (by omega) (by omega)
open Classical in
def Dw(m:MI):MA:=λls hd=>(m ls hd).bind λp=>(De p.1.1).bind λps=>if ps.length<64/\∀q∈ps,pok q then some ((Bt ps).map Ax,p.2)else none
section
variable{K:PySem.W.Frag}{ρ:List Addr}{H:Hp}{hd:Hd}
def Ua{p:Int×Int}{v:V}(h:RD K ρ H (Ax p) v):∃x,v=.ref x/\SqT K H x [.int p.1,.int p.2]:=by
 simp only[Ax,RD,RI,RIs]at h;obtain⟨a,xs,rfl,q,x,r,rfl,rfl,y,r2,rfl,rfl,rfl⟩:=h;exact⟨a,rfl,q⟩
def Nm{t:TE}{m:MI}(h:RRw K false t m):RN K (tCB (Ho K) (Bs t Cp)) (Dw m):=by
 and_intros;obtain⟨⟨⟨d1,g1⟩,h1⟩,e1,hm⟩:=dF hm;obtain⟨ps,e2,hm⟩:=dF hm;split at hm
 .next c=>
  cases hm;refine h ρ σ H hd ls _ d1 g1 _ hR hL e1 λρ1 H1 a x1 R1 G1 S1=>?_;obtain⟨xs,q,r⟩:=S1 ρ1 H1 _ .refl R1 G1;have e2:De d1=some ps:=e2;rw[Pe e2]at r;have hl:xs.length=ps.length:=by simpa using r.len
  have each:∀(i:Nat) (u:V) (q:Int×Int),xs[i]?=some u->ps[i]?=some q->RD K ρ1 H1 (Ax q) u:=λi u q a b=>by
   obtain⟨x,e,z⟩:=r.get (i:=i) (d:=Ax q) (by simp[b]);rw[a]at e;cases e;exact z
  refine⟨a,xs,ps,rfl,q,hl,by rw[hl];exact c.1,c.2,λi u q a b=>Ua (each i u q a b),λp zs hp pm pw=>?_⟩;have es:zs.map (·.2)=Bt ps:=by
   have pp:(zs.map (·.2)).Perm ps:=by
    have:=pm.map (λz:V×(Int×Int)=>z.2)
    rwa [List.map_snd_zip (by omega)]at this
   refine(pp.trans (Fq ps).symm).eq_of_pairwise (le:=λa b=>C6 a<=C6 b) (λx y hx hy l1 l2=>SD (c.2 _ (pp.mem_iff.mp hx)) (c.2 _ ((Fq ps).mem_iff.mp hy)) (Int.le_antisymm l1 l2)) ?_ (GR ps);rw[List.pairwise_map]at pw ⊢;exact pw
  obtain⟨R2,x2⟩:=R1.hid (ho:=.lst (zs.map (·.1))) hp;have all:∀z∈zs,RD K ρ1 H1 (Ax z.2) z.1:=λz hz=>by
   obtain⟨i,hi⟩:=List.mem_iff_getElem?.mp (pm.mem_iff.mp hz);obtain⟨a1,a2⟩:=List.getElem?_zip_eq_some.mp hi;exact each i _ _ a1 a2
  have rd:∀{zs:List (V×(Int×Int))},(∀z∈zs,RD K ρ1 H1 (Ax z.2) z.1)->RDs K ρ1 H1 ((zs.map (·.2)).map Ax) (zs.map (·.1)):=by
   intro zs
   induction zs with
   |nil=>intro _;exact .nil
   |cons z r ih=>intro h;exact .cons (h z mem_cons_self) (ih λy hy=>h y (mem_cons_of_mem _ hy))
  have rz:=rd all;rw[es]at rz;exact hQ ρ1 _ p _ (x1.trans R1 x2) R2 (x1.none hR hp R1) (R1.out hp) Ad (rz.ext R1 x2)
 .cases hm
open Classical in
def FZ:D->List D->Hd->Option (D×Hd)
 |.mu n,[.im (.int i)],hd=>match hd[n]? with
  |some (.lst ds)=>if Et i then(ixN ds.length i).bind λk=>(ds[k]?).map λy=>(y,hd.set n (.lst (ds.eraseIdx k)))else none
  |_=>none
 |_,_,_=>none
def RDs.erase:∀{ds:List D} {xs:List V} (k:Nat),RDs K ρ H ds xs->RDs K ρ H (ds.eraseIdx k) (xs.eraseIdx k)
 |[],_,_,h=>by simp only[RDs]at h;subst h;simp[RDs]
 |d::ds,_,0,h=>by simp only[RDs]at h;obtain⟨x,r,rfl,_,t⟩:=h;simpa using t
 |d::ds,_,k+1,h=>by
  simp only[RDs]at h;obtain⟨x,r,rfl,a,t⟩:=h;simpa using RDs.cons a (RDs.erase k t)
end
def Re{K:PySem.W.Frag}:RM K PQ FZ:=by
 intro ρ H hd d v ds vs Q z hd' hR h1 h2 hf hQ;unfold FZ at hf;split at hf
 .split at hf
  .next q=>
   split at hf
   .next c=>
    obtain⟨k,e0,hf⟩:=dF hf;obtain⟨y,e1,e3⟩:=dG hf;cases e3;simp only[RD]at h1;obtain⟨a,hn,rfl⟩:=h1;simp only[RDs,RD,RI]at h2;obtain⟨x,r,rfl,rfl,rfl⟩:=h2;obtain⟨xs,f1,f2⟩:=hR.lst hn q;obtain⟨x,x1,x3⟩:=f2.get e1;obtain⟨R2,x2⟩:=hR.put hn (o:=.lst _) (ho:=.lst (xs.eraseIdx k)) ⟨_,rfl,f2.erase k⟩;obtain⟨s1,s2,s3,s4⟩:=JS e0;have sz:=f2.len;unfold Et at c;exact⟨a,xs,_,k,x,rfl,rfl,f1,by omega,by omega,by rw[sz];exact s1,x1,hQ ρ _ _ x2 R2 (x3.ext hR x2)⟩
   .cases hf
  .cases hf
 .cases hf
section
variable(K:PySem.W.Frag){X:Cx}{e:Expr}{te:TE}{p pos:Pos}
def O0{mi:MI}(hm:X.mg "sorted"=none)(ha:QR K false X e te mi)(hg:Gl X "sorted":=by rfl)(he:starEach [e] X.env=[(false,eval e X.env)]:=by rfl)(hK:X.K=K:=by rfl):QN K X (.Call (.Name "sorted" p) [e] [] pos) (tCB (Ho K) (Bs te Cp)) (Dw mi):=
 ⟨Ht (M4 K hK) hg hm QZ (Ck ha.p EC he) (by decide) (by decide) he rfl,Nm ha.r⟩
end
section
variable{ls:Ls}{hd:Hd}
open Classical in
@[simp] theorem Sc(k:Nat)(i:Int):FZ (.mu k) [.im (.int i)] hd=match hd[k]? with
 |some (.lst ds)=>if Et i then(ixN ds.length i).bind λj=>(ds[j]?).map λy=>(y,hd.set k (.lst (ds.eraseIdx j)))else none
 |_=>none:=rfl
open Classical in
@[simp] theorem OQ(mi:MI):Dw mi ls hd=(mi ls hd).bind λp=>(De p.1.1).bind λps=>if ps.length<64/\∀q∈ps,pok q then some ((Bt ps).map Ax,p.2)else none:=rfl
end
def Cs(p:Int×Int):I:=.tup [.int p.1,.int p.2]
end L2
namespace L2
open PySem PySem.Spec PyProof.Rows
def WP{α:Type}(o:Option (α×Hd))(Q:α->Hd->Prop):Prop:=∃z h,o=some (z,h)/\Q z h
abbrev WS(m:MS)(ls:Ls)(hd:Hd)(Q:Fl->Hd->Prop):Prop:=WP (m ls hd) Q
abbrev WE(m:ME)(ls:Ls)(hd:Hd)(Q:D->Hd->Prop):Prop:=WP (m ls hd) Q
abbrev WT(m:MT)(ls:Ls)(hd:Hd)(Q:Bool->Hd->Prop):Prop:=WP (m ls hd) Q
abbrev WA(m:MA)(ls:Ls)(hd:Hd)(Q:List D->Hd->Prop):Prop:=WP (m ls hd) Q
abbrev WO(m:MO1)(ls:Ls)(hd:Hd)(Q:Option Int->Hd->Prop):Prop:=WP (m ls hd) Q
abbrev WI(m:MI)(ls:Ls)(hd:Hd)(Q:List D×Gd->Hd->Prop):Prop:=WP (m ls hd) Q
abbrev WF(F:List D->Hd->Option (D×Hd))(ds:List D)(hd:Hd)(Q:D->Hd->Prop):Prop:=WP (F ds hd) Q
section
variable{α β:Type}{o:Option (α×Hd)}{Q:α->Hd->Prop}{R:β->Hd->Prop}{ls:Ls}{hd:Hd}{d e:D}
def WP.some{z:α}{h:Hd}(q:Q z h):WP (some (z,h)) Q:=⟨z,h,rfl,q⟩
def WP.mono{Q':α->Hd->Prop}(h:WP o Q)(k:∀z h,Q z h->Q' z h):WP o Q':=let ⟨z,x,e,q⟩:=h;⟨z,x,e,k z x q⟩
def WP.bind{f:α×Hd->Option (β×Hd)}(h:WP o λz x=>WP (f (z,x)) R):WP (o.bind f) R:=by
 obtain⟨z,x,e,q⟩:=h;rw[e];exact q
def WP.eq{z:α}{h:Hd}(e:o=Option.some (z,h))(q:Q z h):WP o Q:=⟨z,h,e,q⟩
end
section
variable{ls:Ls}{hd:Hd}{a b:MS}{ma mb mc:ME}{ta tb:MT}{m m1 m2:MA}{n:MG}{ns:MGs}{mi:MI}{d e:D}{i j:Nat}{QS:Fl->Hd->Prop}{QE:D->Hd->Prop}{QT:Bool->Hd->Prop}{QA:List D->Hd->Prop}{QO:Option Int->Hd->Prop}{QI:List D×Gd->Hd->Prop}
def Sw(b:MS)(Q:Fl->Hd->Prop):Fl->Hd->Prop
 |.nx l,h=>WS b l h Q
 |f,h=>Q f h
def AB(h:WS a ls hd (Sw b QS)):WS (A7 a b) ls hd QS:=by
 obtain⟨f,x,e,q⟩:=h;show WP (A7 a b ls hd) QS;rw[Do,e];cases f<;>first|exact q|exact⟨_,_,rfl,q⟩
def A8{l:Ls}{h:Hd}(q:WS b l h QS):Sw b QS (.nx l) h:=q
def Ae(h:QS (.nx ls) hd):WS Ap ls hd QS:=⟨_,_,rfl,h⟩
def Af(h:WE ma ls hd λd x=>QS (.rt d) x):WS (Aa ma) ls hd QS:=WP.bind (h.mono λ_ _ q=>WP.some q)
def AX(h:WE ma ls hd λd x=>QS (.nx (ls.set i (some d))) x):WS (AH i ma) ls hd QS:=by
 obtain⟨d,x,e,q⟩:=h;exact⟨_,_,by simp only[D3,e,bind_some,Fb,map_some],q⟩
def IH(h:WE ma ls hd λd x=>∃l,n d ls x=some l/\QS (.nx l) x):WS (Fz ma n) ls hd QS:=by
 obtain⟨d,x,e,l,e2,q⟩:=h;exact⟨_,_,by simp only[D3,e,bind_some,e2,map_some],q⟩
def Gx(h:WE ma ls hd λ_ x=>QS (.nx ls) x):WS (BE ma) ls hd QS:=WP.bind (h.mono λ_ _ q=>WP.some q)
def Zr(h:WT ta ls hd λc x=>if c=true then WS a ls x QS else WS b ls x QS):WS (B2 ta a b) ls hd QS:=by
 refine WP.bind (h.mono λc x q=>?_);dsimp only;cases c<;>simpa using q
def Ag(h:WT ta ls hd λc x=>(c=true->WS a ls x QS)/\(c=false->WS b ls x QS)):WS (B2 ta a b) ls hd QS:=
 Zr (h.mono λc x q=>by cases c<;>simp_all)
def WL(n:MG)(b:MS)(g:Gd)(ds:List D)(ls:Ls)(hd:Hd)(Q:Fl->Hd->Prop):Prop:=WP (BR n b g ds ls hd) Q
def Cr(h:WI mi ls hd λp x=>WL n b p.2 p.1 ls x QS):WS (BO mi n b) ls hd QS:=WP.bind (h.mono λ_ _ q=>q)
def Zu(g:Gd)(P:Ls->Hd->Prop)(Q:Fl->Hd->Prop):Fl->Hd->Prop
 |.nx l,h=>GOk h g/\P l h
 |.ct l,h=>GOk h g/\P l h
 |.bk l,h=>Q (.nx l) h
 |.rt d,h=>Q (.rt d) h
def CQ{g:Gd}(P:List D->Ls->Hd->Prop):∀{ds:List D} {ls:Ls} {hd:Hd},P ds ls hd ->
 (∀d r ls hd,P (d::r) ls hd->∃ls1,n d ls hd=some ls1/\WS b ls1 hd (Zu g (P r) QS))->(∀ls hd,P [] ls hd->QS (.nx ls) hd)->WL n b g ds ls hd QS
 |[],ls,hd,h,_,z=>⟨_,_,by unfold BR;rfl,z _ _ h⟩
 |d::r,ls,hd,h,k,z=>by
  obtain⟨ls1,e1,f,x,e2,q⟩:=k d r ls hd h;unfold WL;unfold BR;rw[e1,bind_some,e2,bind_some];cases f with
  |nx l=>exact(show GOk x g/\P r l x from q).1 |> λg1=>by dsimp only;rw[if_pos g1];exact CQ P q.2 k z
  |ct l=>exact(show GOk x g/\P r l x from q).1 |> λg1=>by dsimp only;rw[if_pos g1];exact CQ P q.2 k z
  |bk l=>exact⟨_,_,rfl,q⟩
  |rt l=>exact⟨_,_,rfl,q⟩
def A3(h:ls[i]?=some (some d))(q:QE d hd):WE (A2 i) ls hd QE:=⟨d,hd,by rw[EJ,h],q⟩
def AC{i:I}(q:QE (.im i) hd):WE (mC i) ls hd QE:=⟨_,_,rfl,q⟩
def A9{f:D->D->Hd->Option (D×Hd)}(h:WE ma ls hd λd x=>WE mb ls x λe y=>WP (f d e y) QE):WE (mOp f ma mb) ls hd QE:=WP.bind (h.mono λ_ _ q=>WP.bind (q.mono λ_ _ q=>q))
def AT(h:WA m ls hd λds x=>Be ds.length/\QE (AK ds) x):WE (AI m) ls hd QE:=WP.bind (h.mono λds x q=>by dsimp only;rw[if_pos q.1];exact WP.some q.2)
def Ah(h:WA m ls hd λds x=>QE (.mu x.length) (x++[.lst ds])):WE (AO m) ls hd QE:=WP.bind (h.mono λ_ _ q=>WP.some q)
def Km{g:List D->Option D}(h:WA m ls hd λds x=>∃d,g ds=some d/\QE d x):WE (Dk g m) ls hd QE:=by
 obtain⟨ds,x,e,d,e2,q⟩:=h;exact⟨d,x,by simp only[QC,e,bind_some,e2,map_some],q⟩
def Wb(h:WA m ls hd λds x=>WE ma ls x λe y=>∃i d,e=.im (.int i)/\atI ds i=some d/\QE d y):WE (Bi m ma) ls hd QE:=by
 obtain⟨ds,x,e,d,y,e2,i,z,rfl,e4,q⟩:=h;exact⟨z,y,by simp only[Q6,e,bind_some,e2,e4,map_some],q⟩
def BN{f:List D->Hd->Option (D×Hd)}(h:WA m ls hd λds x=>WP (f ds x) QE):WE (mCB f m) ls hd QE:=WP.bind (h.mono λ_ _ q=>q)
def KJ{f:D->List D->Hd->Option (D×Hd)}(h:WE ma ls hd λd x=>(∃l,BL x d=some l)/\WA m ls x λds y=>WP (f d ds y) QE):WE (mMt f ma m) ls hd QE:=by
 obtain⟨d,x,e,⟨l,hl⟩,q⟩:=h;unfold WE;rw[OR,e,bind_some];dsimp only;rw[hl];exact WP.bind (q.mono λ_ _ q=>q)
def B0{F:List D->Hd->Option (D×Hd)}(h:WA m ls hd λds x=>WF F ds x QE):WE (Ak F m) ls hd QE:=WP.bind (h.mono λ_ _ q=>q)
def DU(h:WE ma ls hd λd x=>∃i,d=.im (.int i)/\QE (.im (.int (-i))) x):WE (C7 ma) ls hd QE:=by
 obtain⟨d,x,e,i,rfl,q⟩:=h;exact⟨_,x,by simp only[ZS,e,bind_some],q⟩
def DM(h:WT (AR ma) ls hd λc x=>if c=true then WE mb ls x QE else QE (.im (.bl false)) x):WE (Cb ma mb) ls hd QE:=by
 refine WP.bind (h.mono λc x q=>?_);dsimp only;cases c
 .exact WP.some (by simpa using q)
 .simpa using q
def JD(h:WT (AR ma) ls hd λc x=>QE (.im (.bl (!c))) x):WE (EU ma) ls hd QE:=WP.bind (h.mono λ_ _ q=>WP.some q)
def AZ(h:WE ma ls hd λd x=>∃b,d=.im (.bl b)/\QT b x):WT (AR ma) ls hd QT:=by
 obtain⟨d,x,e,b,rfl,q⟩:=h;exact⟨b,x,by simp only[JY,e,bind_some],q⟩
def Au(h:WE ma ls hd λd x=>∃b,DY x d=some b/\QT b x):WT (Bg ma) ls hd QT:=by
 obtain⟨d,x,e,b,e2,q⟩:=h;exact⟨b,x,by simp only[Q4,e,bind_some,e2,map_some],q⟩
def DR(h:WT ta ls hd λc x=>QT (!c) x):WT (Dx ta) ls hd QT:=WP.bind (h.mono λ_ _ q=>WP.some q)
def El(h:WT ta ls hd λc x=>if c=true then WT tb ls x QT else QT false x):WT (EQ ta tb) ls hd QT:=by
 refine WP.bind (h.mono λc x q=>?_);dsimp only;cases c
 .exact WP.some (by simpa using q)
 .simpa using q
def Gw(h:WT ta ls hd λc x=>if c=true then QT true x else WT tb ls x QT):WT (mOr ta tb) ls hd QT:=by
 refine WP.bind (h.mono λc x q=>?_);dsimp only;cases c
 .simpa using q
 .exact WP.some (by simpa using q)
def CP(h:QT true hd):WT Bc ls hd QT:=⟨_,_,rfl,h⟩
def A6(h:QA [] hd):WA A5 ls hd QA:=⟨_,_,rfl,h⟩
def A4(h:WE ma ls hd λd x=>WA m ls x λds y=>QA (d::ds) y):WA (A1 ma m) ls hd QA:=WP.bind (h.mono λ_ _ q=>WP.bind (q.mono λ_ _ q=>WP.some q))
def B7(h:WA m ls hd λds x=>Be ds.length/\QA ds x):WA (AV m) ls hd QA:=WP.bind (h.mono λds x q=>by dsimp only;rw[if_pos q.1];exact WP.some q.2)
def Md(h:WE ma ls hd λd x=>∃ds,B9 x d=some ds/\QA ds x):WA (EV ma) ls hd QA:=by
 obtain⟨d,x,e,ds,e2,q⟩:=h;exact⟨ds,x,by simp only[WC,e,bind_some,e2,map_some],q⟩
def Kk{ml mh:MO1}(h:WE ma ls hd λd x=>WO ml ls x λl y=>WO mh ls y λu z=>∃ds,AN d=some ds/\¬ (HT.sIx ds.length 0 l=0/\HT.sIx ds.length ds.length u=ds.length)/\QE (AK (Bj ds l u)) z):WE (Bh ma ml mh) ls hd QE:=by
 obtain⟨d,x,e,l,y,e2,u,z,e3,ds,e4,c,q⟩:=h;exact⟨_,z,by simp only[ZO,e,bind_some,e2,e3,e4];rw[if_pos c],q⟩
def DS(h:QO none hd):WO AJ ls hd QO:=⟨_,_,rfl,h⟩
def BU(h:WE ma ls hd λd x=>∃i,d=.im (.int i)/\QO (some i) x):WO (AQ ma) ls hd QO:=by
 obtain⟨d,x,e,i,rfl,q⟩:=h;exact⟨_,x,by simp only[N9,e,bind_some],q⟩
def Qk(h:WA m ls hd λds x=>∃k,ds=[.im (.int k)]/\Et k/\QI (Ai 0 k.toNat,[]) x):WI (Cq m) ls hd QI:=by
 obtain⟨ds,x,e,k,rfl,c,q⟩:=h;exact⟨_,x,by simp only[Q8,e,bind_some,c,if_true],q⟩
def Zt(h:WA m ls hd λds x=>∃j k,ds=[.im (.int j),.im (.int k)]/\LK j k/\QI (Ai j (k-j).toNat,[]) x):WI (E4 m) ls hd QI:=by
 obtain⟨ds,x,e,j,k,rfl,c,q⟩:=h;exact⟨_,x,by simp only[NA,e,bind_some,c,if_true],q⟩
def CI(h:WE ma ls hd λd x=>∃ds,AN d=some ds/\QI (ds,[]) x):WI (BD ma) ls hd QI:=by
 obtain⟨d,x,e,ds,e2,q⟩:=h;exact⟨_,x,by simp only[Q7,e,bind_some,e2,map_some],q⟩
def b7(h:WA m ls hd λds x=>QI (ds,[]) x):WI (IA m) ls hd QI:=by
 obtain⟨ds,x,e,q⟩:=h;exact⟨_,x,by simp only[ZT,e,map_some],q⟩
def JA(h:WE ma ls hd λd x=>∃k ds,d=.mu k/\x[k]?=some (.lst ds)/\QI (ds,[(k,ds)]) x):WI (CY ma) ls hd QI:=by
 obtain⟨d,x,e,k,ds,rfl,e2,q⟩:=h;exact⟨_,x,by simp only[Q9,e,bind_some,e2],q⟩
def BK{k:Nat}{ix:List Nat}(h:WI mi ls hd λp x=>Be p.1.length/\WP (As n ta ma p.2 p.1 (E8 k ix ls) x) QA):WA (B5 k ix mi n ta ma) ls hd QA:=WP.bind (h.mono λp x q=>by dsimp only;rw[if_pos q.1];exact q.2)
def Ko{g:Gd}(P:List D->List D->Ls->Hd->Prop):∀{ds es:List D} {ls:Ls} {hd:Hd},P ds es ls hd ->
 (∀d r es ls hd,P (d::r) es ls hd->∃ls1,n d ls hd=some ls1/\WT ta ls1 hd λc x=>if c=true then WE ma ls1 x λz y=>GOk y g/\P r (es++[z]) ls1 y else GOk x g/\P r es ls1 x) ->
 WP (As n ta ma g ds ls hd) λzs x=>∃ls',P [] (es++zs) ls' x
 |[],es,ls,hd,h,k=>⟨_,_,by unfold As;rfl,ls,by simpa using h⟩
 |d::r,es,ls,hd,h,k=>by
  obtain⟨ls1,e1,c,x,e2,q⟩:=k d r es ls hd h;unfold As;rw[e1,bind_some,e2,bind_some];cases c with
  |true=>
   rw[if_pos rfl]at q ⊢;obtain⟨z,y,e3,g3,p3⟩:=q;obtain⟨zs,y2,e4,ls',p4⟩:=Ko P p3 k;rw[e3,bind_some];dsimp only;rw[if_pos g3,e4];exact⟨z::zs,y2,rfl,ls',by simpa using p4⟩
  |false=>
   rw[if_neg Bool.false_ne_true]at q ⊢;dsimp only;rw[if_pos q.1];exact Ko P q.2 k
def BA{i j:Int}(q:QE (.im (.int (i+j))) hd):WP (AE (.im (.int i)) (.im (.int j)) hd) QE:=⟨_,_,by simp,q⟩
def CB{i j:Int}(q:QE (.im (.int (i-j))) hd):WP (B3 (.im (.int i)) (.im (.int j)) hd) QE:=⟨_,_,by simp,q⟩
def Tg{i j:Int}(c:GF j)(q:QE (.im (.int (i/j))) hd):WP (Dm (.im (.int i)) (.im (.int j)) hd) QE:=⟨_,_,by simp[c],q⟩
def Gy{i j:Int}(q:QE (.im (.bl (decide (i<j)))) hd):WP (gLt (.im (.int i)) (.im (.int j)) hd) QE:=⟨_,_,by simp,q⟩
def II{i j:Int}(q:QE (.im (.bl (decide (i<=j)))) hd):WP (gLe (.im (.int i)) (.im (.int j)) hd) QE:=⟨_,_,by simp,q⟩
def Gz{i j:Int}(q:QE (.im (.bl (decide (j<i)))) hd):WP (gGt (.im (.int i)) (.im (.int j)) hd) QE:=⟨_,_,by simp,q⟩
def Sr{i j:Int}(q:QE (.im (.bl (decide (j<=i)))) hd):WP (gGe (.im (.int i)) (.im (.int j)) hd) QE:=⟨_,_,by simp,q⟩
def EA{i j:Int}(q:QE (.im (.bl (decide (i=j)))) hd):WP (gEq (.im (.int i)) (.im (.int j)) hd) QE:=⟨_,_,by simp,q⟩
def Oj{i j:Int}(q:QE (.im (.bl (!decide (i=j)))) hd):WP (gNe (.im (.int i)) (.im (.int j)) hd) QE:=⟨_,_,by simp,q⟩
def Oi{i j:Str}(q:QE (.im (.bl (!decide (i=j)))) hd):WP (gNe (.im (.str i)) (.im (.str j)) hd) QE:=⟨_,_,by simp,q⟩
def Aw{i:Int}{ds:List D}(e1:B9 hd d=some ds)(e2:atI ds i=some e)(q:QE e hd):WP (gIx d (.im (.int i)) hd) QE:=⟨_,_,by rw[TU,e1,bind_some,e2];rfl,q⟩
def Mb{k:Key}{kvs:List (Key×D)}{z:D}(e1:BV hd d=some kvs)(e2:Ch e=some k)(e3:B1 kvs k=some z)(q:QE z hd):WP (BY d e hd) QE:=⟨_,_,by rw[WG,e1,bind_some,e2,bind_some,e3];rfl,q⟩
def C8{tp:Bool}{g:List D->Option D}{ds:List D}{z:D}(e1:(if tp then B9 hd d else BL hd d)=some ds)(e2:g ds=some z)(q:QE z hd):WP (f1 tp g [d] hd) QE:=⟨_,_,by rw[ah,e1,bind_some,e2];rfl,q⟩
def IJ{k:Nat}{x:D}{ds:List D}(e1:hd[k]?=some (.lst ds))(c:D9 ds.length)(q:QE (.im .non) (hd.set k (.lst (ds++[x])))):WP (Ao (.mu k) [x] hd) QE:=⟨_,_,by rw[Lo,e1];simp only[c,if_true],q⟩
def MY{k:Key}{w:Nat}(h:WE mc ls hd λp x=>WE ma ls x λq y=>WE mb ls y λr z=>∃w k kvs,q=.mu w/\Ch r=some k/\z[w]?=some (.dic kvs)/\D9 kvs.length/\QS (.nx ls) (z.set w (.dic (Bm kvs k p)))):WS (C5 ma mb mc) ls hd QS:=by
 obtain⟨p,x,e1,q,y,e2,r,z,e3,w,k,kvs,rfl,e4,e5,c,qq⟩:=h;exact⟨_,_,by simp only[WD,e1,bind_some,e2,e3,e4,e5,c,if_true],qq⟩
def MX(h:WE mc ls hd λp x=>WE ma ls x λq y=>WE mb ls y λr z=>∃w i j ds,q=.mu w/\r=.im (.int i)/\z[w]?=some (.lst ds)/\ixN ds.length i=some j/\QS (.nx ls) (z.set w (.lst (ds.set j p)))):WS (Dj ma mb mc) ls hd QS:=by
 obtain⟨p,x,e1,q,y,e2,r,z,e3,w,i,j,ds,rfl,rfl,e5,c,qq⟩:=h;exact⟨_,_,by simp only[WB,e1,bind_some,e2,e3,e5,c,map_some],qq⟩
def Br{k n:Nat}{m:MS}{ds:List D}{Q:D->Hd->Prop}(hl:ds.length=k)(h:WS m (ds.map some++List.replicate (n-k) none) hd λf x=>match f with
 |.rt d=>Q d x
 |.nx _=>Q (.im .non) x
 | _=>False):WF (mkF k n m) ds hd Q:=by
 obtain⟨f,x,e,q⟩:=h;unfold WF mkF;rw[if_pos hl,e];cases f with
 |nx l=>exact⟨_,_,rfl,q⟩
 |rt l=>exact⟨_,_,rfl,q⟩
 |bk l=>exact q.elim
 |ct l=>exact q.elim
def Fk{F:List D->Hd->Option (D×Hd)}(h:WA m ls hd λds x=>B6 0 ds=true/\WF F ds [] λd _=>∃i,d=.im i/\QE (.im i) x):WE (AA 0 F m) ls hd QE:=by
 obtain⟨ds,x,e,c,d,y,e2,i,rfl,q⟩:=h;exact⟨_,_,QY e c e2,q⟩
end
structure Tap(T:Nat->MO->MO->Prop)(P:List D->Hd->Option (D×Hd)):Prop where
 cl:∀{k:Nat} {a b:MO},T k a b->clO 2 a=true/\clO 2 b=true
 le:∀{j k:Nat} {a b:MO},T k a b->j<=k->T j a b
 pick:∀{k:Nat} {a b:MO} {many:Int},T (k+1) a b->0<many->many<1073741824->∃r a' b',0<=r/\r<many/\P [.mu 1,.im (.int many)] [a,b]=some (.im (.int r),[a',b'])/\T k a' b'
section
variable{T:Nat->MO->MO->Prop}{P:List D->Hd->Option (D×Hd)}{a b:MO}{rest:Hd}{ls:Ls}{m:MA}{QE:D->Hd->Prop}{n c:Nat}
def Tap.draw(t:Tap T P)(hT:T (n+1) a b){many:Int}{hd:Hd}(e:m ls hd=some ([.mu 1,.im (.int many)],a::b::rest))(h0:0<many)(h1:many<1073741824)
 (k:∀r a' b',T n a' b'->0<=r->r<many->QE (.im (.int r)) (a'::b'::rest)):WE (AA 2 P m) ls hd QE:=by
 obtain⟨r,a',b',p1,p2,e2,hT'⟩:=t.pick hT h0 h1;refine⟨_,_,GI (w:=2) (ds:=[.mu 1,.im (.int many)]) (pre:=[a,b]) (pre':=[a',b']) (rest:=rest) (g:=[]) rfl rfl e (by simp) ?_ ?_ (by simpa using e2),k r a' b' hT' p1 p2⟩
 .simp[t.cl hT]
 .simp[t.cl hT']
end
section
variable{K:PySem.W.Frag}{ρ ρ':List Addr}{H H':Hp}{hd hd':Hd}
def Fm(w:Nat)(ls:Ls):Ls:=ls.map λo=>match o with
 |some d=>if clD w d=true then some d else none
 |none=>none
def Fo(w:Nat):Fl->Option Fl
 |.nx ls=>some (.nx (Fm w ls))
 |.bk ls=>some (.bk (Fm w ls))
 |.ct ls=>some (.ct (Fm w ls))
 |.rt d=>if clD w d=true then some (.rt d)else none
def Ih(w:Nat)(m:MS):MS:=λls hd=>if hd.length<=w then(m ls hd).bind λp=>if(p.2.take w).all (clO w)=true then(Fo w p.1).map λf=>(f,p.2.take w)else none else none
def RL.trim{ls:Ls}{σ:St}(h:RL K ρ H ls σ)(w:Nat):RL K (ρ.take w) H (Fm w ls) σ:=by
 refine⟨by simp[Fm,h.len],λi d e=>?_⟩;unfold Fm at e;rw[List.getElem?_map]at e;cases q:ls[i]? with
 |none=>rw[q]at e;cases e
 |some o=>
  rw[q]at e;cases o with
  |none=>simp at e
  |some z=>
   simp only[map_some,Option.some.injEq]at e;split at e
   .next c=>
    cases e;obtain⟨v,e1,e2⟩:=h.ob i _ q;exact⟨v,e1,e2.take w c⟩
   .cases e
def Ext.trim(x:Ext ρ H ρ' H'){w:Nat}(h:ρ.length<=w):Ext ρ H (ρ'.take w) H':=by
 obtain⟨r,rfl,fr⟩:=x.pre;refine⟨⟨r.take (w-ρ.length),?_,λb hb=>fr b (mem_of_mem_take hb)⟩,x.keep,x.tab⟩;rw[List.take_append,take_of_length_le h]
def UC{t:TS}{m:MS}(w:Nat)(h:RS K t m):RS K t (Ih w m):=by
 intro ρ σ H hd ls E f hd' hR hL hm hQ;unfold Ih at hm;split at hm
 .next hw=>
  obtain⟨⟨f1,h1⟩,e1,hm⟩:=dF hm;dsimp only at hm;split at hm
  .next c=>
   obtain⟨f2,e2,e3⟩:=dG hm;cases e3;refine h ρ σ H hd ls E f1 h1 hR hL e1 λρ1 H1 x1 R1=>?_;have q:=hQ (ρ1.take w) H1 (x1.trim (by rw[hR.len];exact hw)) (R1.take w c);cases f1 with
   |nx l=>simp only[Fo,Option.some.injEq]at e2;subst e2;exact λσ' L=>q σ' (L.trim w)
   |bk l=>simp only[Fo,Option.some.injEq]at e2;subst e2;exact λσ' L=>q σ' (L.trim w)
   |ct l=>simp only[Fo,Option.some.injEq]at e2;subst e2;exact λσ' L=>q σ' (L.trim w)
   |rt d=>
    simp only[Fo]at e2;split at e2
    .next c2=>cases e2;exact λv r=>q v (r.take w c2)
    .cases e2
  .cases hm
 .cases hm
def Td{w:Nat}{m:MS}{ls:Ls}{Q:Fl->Hd->Prop}(hw:hd.length<=w)(h:WS m ls hd λf x=>(x.take w).all (clO w)=true/\∃f',Fo w f=some f'/\Q f' (x.take w)):WS (Ih w m) ls hd Q:=by
 obtain⟨f,x,e,c,f',e2,q⟩:=h;exact⟨f',x.take w,by unfold Ih;rw[if_pos hw,e,bind_some];dsimp only;rw[if_pos c,e2];rfl,q⟩
def FV(m:MS):MS:=λls hd=>Ih hd.length m ls hd
def RZ{t:TS}{m:MS}(h:RS K t m):RS K t (FV m):=λρ σ H hd ls E f hd' hR hL hm hQ=>UC hd.length h ρ σ H hd ls E f hd' hR hL hm hQ
def PR(K:PySem.W.Frag){X:Cx}{st:List Stmt}{t:TS}{m:MS}(h:QSs K X st t m):QSs K X st t (FV m):=⟨h.p,RZ h.r⟩
def Kg{m:MS}{ls:Ls}{Q:Fl->Hd->Prop}(h:WS m ls hd λf x=>(x.take hd.length).all (clO hd.length)=true/\∃f',Fo hd.length f=some f'/\Q f' (x.take hd.length)):WS (FV m) ls hd Q:=Td (le_refl _) h
def Ik:ME:=λ_ hd=>some (.mu hd.length,hd++[.dic []])
def UW:RE K Kx Ik:=by
 and_intros;cases hm;intro p hp;obtain⟨R0,x0⟩:=hR.new hp (o:=.dic []) (ho:=.dK []) ⟨[],rfl,by simp[RKs]⟩;refine hQ (ρ++[p]) _ _ x0 R0 ?_;simp only[RD];exact⟨p,by rw[<- hR.len];simp,rfl⟩
def V6(K:PySem.W.Frag){X:Cx}{pos:Pos}:QE K X (.Dict [] [] pos) Kx Ik:=⟨SH,UW⟩
def Mc{ls:Ls}{Q:D->Hd->Prop}(q:Q (.mu hd.length) (hd++[.dic []])):WE Ik ls hd Q:=⟨_,_,rfl,q⟩
end
mutual
def M1{v w:Nat}(h:v<=w):∀{d:D},clD v d=true->clD w d=true
 |.im i,_=>by simp
 |.mu n,c=>by simp at c ⊢;omega
 |.tm ds,c=>by rw[clD]at c ⊢;exact Gp h c
 |.ro ns,_=>by rw[clD]
def Gp{v w:Nat}(h:v<=w):∀{ds:List D},B6 v ds=true->B6 w ds=true
 |[],_=>by simp
 |d::ds,c=>by
  simp only[QP,Bool.and_eq_true]at c ⊢;exact⟨M1 h c.1,Gp h c.2⟩
end
def K3{v w:Nat}(h:v<=w):∀{ds:List (Key×D)},FJ v ds=true->FJ w ds=true
 |[],_=>by simp[FJ]
 |d::ds,c=>by
  simp only[FJ,Bool.and_eq_true]at c ⊢;exact⟨M1 h c.1,K3 h c.2⟩
def DI{v w:Nat}(h:v<=w){o:MO}(c:clO v o=true):clO w o=true:=by
 cases o with
 |lst ds=>exact Gp h c
 |dic ds=>exact K3 h c
section
variable{T:Nat->MO->MO->Prop}{P:List D->Hd->Option (D×Hd)}{a b:MO}{rest:Hd}{ls:Ls}{m:MA}{QE:D->Hd->Prop}
def Tap.callX(t:Tap T P){n c:Nat}(hT:T (n+c) a b)(ex:Hd){w:Nat}{F:List D->Hd->Option (D×Hd)}{as:List D}{hd:Hd}{R:I->Prop}(e:m ls hd=some (.mu 1::as,a::b::(ex++rest)))(hw:w=ex.length+2)(ha:B6 w as=true)(hx:ex.all (clO w)=true)
 (hF:∀a b,T (n+c) a b->WF F (.mu 1::as) (a::b::ex) λd x=>∃i a' b' g,d=.im i/\R i/\T n a' b'/\x=a'::b'::(ex++g))
 (k:∀i a' b',T n a' b'->R i->QE (.im i) (a'::b'::(ex++rest))):WE (AA w F m) ls hd QE:=by
 subst hw;have hcl:∀o,clO 2 o=true->clO (ex.length+2) o=true:=λo h=>DI (by omega) h;obtain⟨d,x,e2,i,a',b',g,rfl,hR,hT',rfl⟩:=hF a b hT;refine⟨_,_,GI (w:=ex.length+2) (ds:=.mu 1::as) (pre:=a::b::ex) (pre':=a'::b'::ex) (rest:=rest) (g:=g) rfl rfl e (by simp[ha]) ?_ ?_ e2,k i a' b' hT' hR⟩
 .simp[hcl _ (t.cl hT).1,hcl _ (t.cl hT).2];simpa using hx
 .simp[hcl _ (t.cl hT').1,hcl _ (t.cl hT').2];simpa using hx
def Tap.call(t:Tap T P){n c:Nat}(hT:T (n+c) a b){F:List D->Hd->Option (D×Hd)}{as:List D}{hd:Hd}{R:I->Prop}(e:m ls hd=some (.mu 1::as,a::b::rest))(ha:B6 2 as=true)
 (hF:∀a b,T (n+c) a b->WF F (.mu 1::as) [a,b] λd x=>∃i a' b' g,d=.im i/\R i/\T n a' b'/\x=a'::b'::g)
 (k:∀i a' b',T n a' b'->R i->QE (.im i) (a'::b'::rest)):WE (AA 2 F m) ls hd QE:=
 t.callX hT [] (w:=2) e rfl ha rfl hF k
end
end L2
namespace Bd
open PySem L2
@[reducible] def cz:MS:=(A7 (AH 2 (AO (B5 1 [] (BD (A2 0)) (AG 0) Bc (mC (.int 0)))))
 (A7 (BO (BD (A2 1)) (Bx 3 (Ac (AG 3) (Ac (AG 4) (Ac (AG 5) CF))))
  (Dj (A2 2) (A2 3) (A2 5)))
 (Aa (mCB (f1 true BQ) (A1 (A2 2) A5)))))
def F_ends_of:List D->Hd->Option (D×Hd):=mkF 2 6 cz
@[reducible] def dD:MS:=(Aa (Ij [((mC (.str "cells")),(AO (FW (Gc (A2 0) AJ (AQ (mC (.int 63))))))),((mC (.str "next")),(mC (.int 0))),((mC (.str "left")),(mC (.int 0))),((mC (.str "turn")),(mC (.int 0)))]))
def F_tape:List D->Hd->Option (D×Hd):=mkF 1 1 dD
@[reducible] def dE:MS:=(A7 (C5 (A2 0) (mC (.str "turn")) (mOp AE (mOp BY (A2 0) (mC (.str "turn"))) (mC (.int 1))))
 (A7 (B2 (AR (mOp gGt (mOp BY (A2 0) (mC (.str "left"))) (mC (.int 0))))
  (A7 (AH 2 (mOp CZ (mOp BY (A2 0) (mC (.str "left"))) (A2 1)))
 (A7 (C5 (A2 0) (mC (.str "left")) (mOp Dm (mOp BY (A2 0) (mC (.str "left"))) (A2 1)))
 (Aa (A2 2))))
  Ap)
 (A7 (Ii 3 4 5 (A1 (mOp BY (A2 0) (mC (.str "cells"))) (A1 (mOp BY (A2 0) (mC (.str "next"))) (A1 (mOp BY (A2 0) (mC (.str "turn"))) A5))))
 (A7 (AH 6 (mIf (AR (C4 true (A2 3) (AV A5))) (mOp gIx (A2 3) (mOp CZ (A2 4) (mCB (f1 true BI) (A1 (A2 3) A5)))) (mC (.int 23))))
 (A7 (C5 (A2 0) (mC (.str "next")) (mOp AE (A2 4) (mC (.int 1))))
 (A7 (B2 (EQ (AR (mOp gGe (A2 6) (mOp Gg (mC (.int 10)) (mC (.int 18))))) (AR (mOp gLt (A2 4) (mCB (f1 true BI) (A1 (A2 3) A5)))))
  (A7 (C5 (A2 0) (mC (.str "left")) (mOp Dm (A2 6) (A2 1)))
 (Aa (mOp CZ (A2 6) (A2 1))))
  Ap)
 (A7 (AH 7 (mOp CZ (mOp AE (mOp AE (mOp CZ (A2 6) (mC (.int 2147483587))) (mOp Dl (mC (.int 104729)) (A2 5))) (mC (.int 17))) (mC (.int 2147483629))))
 (A7 (AH 7 (mOp CZ (mOp AE (mOp Dl (A2 7) (A2 7)) (mOp Dl (mC (.int 48271)) (A2 5))) (mC (.int 2147483647))))
 (A7 (AH 7 (mOp CZ (mOp AE (mOp AE (mOp Dl (A2 7) (A2 7)) (mOp Dl (mC (.int 7919)) (A2 7))) (A2 5)) (mC (.int 2147483629))))
 (Aa (mOp CZ (mOp Dm (A2 7) (mC (.int 128))) (A2 1))))))))))))
def F_pick:List D->Hd->Option (D×Hd):=mkF 2 8 dE
@[reducible] def cy:MS:=(A7 (AH 2 (mIf (AR (mOp gEq (AA 2 F_pick (A1 (A2 0) (A1 (mC (.int 4)) A5))) (mC (.int 0)))) (mOp B3 (AA 2 F_pick (A1 (A2 0) (A1 (mC (.int 500)) A5))) (mC (.int 99))) (mOp B3 (AA 2 F_pick (A1 (A2 0) (A1 (mC (.int 40)) A5))) (mC (.int 5)))))
 (A7 (AH 3 (AA 2 F_pick (A1 (A2 0) (A1 (mC (.int 10)) A5))))
 (A7 (B2 (AR (mOp gLt (A2 1) (mC (.int 4))))
  (Aa (Bi (AV (A1 (AI (A1 (mC (.str "late")) (A1 (A2 2) A5))) (A1 (AI (A1 (mC (.str "tardy")) (A1 (A2 2) (A1 (A2 3) A5)))) (A1 (AI (A1 (mC (.str "miss")) (A1 (A2 2) (A1 (A2 3) A5)))) (A1 (AI (A1 (mC (.str "ends")) (A1 (A2 3) A5))) A5))))) (A2 1)))
  Ap)
 (A7 (I0 [4,5] (A1 (mCB HQ (A1 (A2 2) (A1 (mC (.int 200)) A5))) (A1 (mC (.int 0)) A5)))
 (A7 (AH 6 (AO (AV A5)))
 (A7 (BO (Cq (A1 (mOp AE (mC (.int 1)) (AA 2 F_pick (A1 (A2 0) (A1 (mC (.int 5)) A5)))) A5)) (AG 7)
  (A7 (AH 4 (mOp AE (mOp AE (A2 4) (mC (.int 1))) (AA 2 F_pick (A1 (A2 0) (A1 (mC (.int 40)) A5)))))
 (A7 (AH 5 (mOp AE (A2 5) (AA 2 F_pick (A1 (A2 0) (A1 (mC (.int 20)) A5)))))
 (BE (mMt Ao (A2 6) (A1 (AI (A1 (A2 4) (A1 (A2 5) A5))) A5))))))
 (Aa (AI (A1 (mC (.str "steps")) (A1 (mCB (f1 true BQ) (A1 (A2 6) A5)) A5))))))))))
def HR:List D->Hd->Option (D×Hd):=mkF 2 8 cy
@[reducible] def dC:MS:=(A7 (AH 3 (mOp Dl (AA 2 F_pick (A1 (A2 0) (A1 (mC (.int 61)) A5))) (AA 2 F_pick (A1 (A2 0) (A1 (mC (.int 2)) A5)))))
 (A7 (AH 4 (Bi (AV (A1 (mC (.int 3)) (A1 (mC (.int 20)) A5))) (AA 2 F_pick (A1 (A2 0) (A1 (mC (.int 2)) A5)))))
 (A7 (AH 5 (AO (AV A5)))
 (A7 (BO (Cq (A1 (A2 1) A5)) (AG 6)
  (A7 (AH 7 (mIf (Bg (A2 2)) (A2 3) (AA 2 F_pick (A1 (A2 0) (A1 (Bi (AV (A1 (mC (.int 8)) (A1 (mC (.int 61)) A5))) (AA 2 F_pick (A1 (A2 0) (A1 (mC (.int 2)) A5)))) A5)))))
 (BE (mMt Ao (A2 5) (A1 (AI (A1 (mOp AE (mC (.int 1)) (AA 2 F_pick (A1 (A2 0) (A1 (A2 4) A5)))) (A1 (A2 7) (A1 (AA 2 HR (A1 (A2 0) (A1 (AA 2 F_pick (A1 (A2 0) (A1 (mC (.int 5)) A5))) A5))) A5)))) A5)))))
 (Aa (mCB (f1 true BQ) (A1 (A2 5) A5)))))))
def F_works:List D->Hd->Option (D×Hd):=mkF 3 8 dC
structure Tp where
 cells:List Int
 nx:Int
 lf:Int
 tn:Int
def BH(t:Tp):List (Key×D):=[(.inr "cells",.mu 0),(.inr "next",.im (.int t.nx)),(.inr "left",.im (.int t.lf)),(.inr "turn",.im (.int t.tn))]
def tp(t:Tp):Hd:=[.lst (t.cells.map λi=>.im (.int i)),.dic (BH t)]
@[simp] theorem Oq(t:Tp):(tp t).length=2:=rfl
@[simp] theorem cx(t:Tp)(r:Hd):(tp t++r)[0]?=some (.lst (t.cells.map λi=>.im (.int i))):=rfl
@[simp] theorem cw(t:Tp)(r:Hd):(tp t++r)[1]?=some (.dic (BH t)):=rfl
@[simp] theorem tp0(t:Tp):(tp t)[0]?=some (.lst (t.cells.map λi=>.im (.int i))):=rfl
@[simp] theorem tp1(t:Tp):(tp t)[1]?=some (.dic (BH t)):=rfl
@[simp] theorem ce(t t':Tp)(h:t'.cells=t.cells):(tp t).set 1 (.dic (BH t'))=tp t':=by unfold tp;rw[h];rfl
section
variable(t:Tp)(v:Int)
@[simp] theorem bD:B1 (BH t) (.inr "cells")=some (.mu 0):=by simp[B1,BH]
@[simp] theorem bq:B1 (BH t) (.inr "next")=some (.im (.int t.nx)):=by simp[B1,BH,ne1]
@[simp] theorem br:B1 (BH t) (.inr "left")=some (.im (.int t.lf)):=by simp[B1,BH,ne2,ne4]
@[simp] theorem bn:B1 (BH t) (.inr "turn")=some (.im (.int t.tn)):=by simp[B1,BH,ne3,ne5,ne6]
@[simp] theorem bB:Bm (BH t) (.inr "next") (.im (.int v))=BH { t with nx:=v }:=by simp[Bm,BH,ne1,bJ,bI]
@[simp] theorem bC:Bm (BH t) (.inr "left") (.im (.int v))=BH { t with lf:=v }:=by simp[Bm,BH,ne2,ne4,bH]
@[simp] theorem bA:Bm (BH t) (.inr "turn") (.im (.int v))=BH { t with tn:=v }:=by simp[Bm,BH,ne3,ne5,ne6]
@[simp] theorem cJ:(BH t).length=4:=rfl
end
def Cf:∀ns:List Int,I.pys (ns.map I.int)=ns.map PyData.int
 |[]=>by simp[I.pys]
 |n::ns=>by simp[I.pys,I.py,Cf ns]
def CN(ns:List Int):B8 (ns.map λi=>D.im (.int i))=some (ns.map I.int):=by
 have:(ns.map λi=>D.im (.int i))=(ns.map I.int).map D.im:=by rw[map_map];rfl
 rw[this];exact KB _
def eqv_nil(ns:List Int):PyData.eqv (.list (ns.map PyData.int)) (.list [])=decide (ns=[]):=by
 cases ns<;>simp[PyData.eqv,PyData.eqvAll]
def SU(ns:List Int):(PyData.list (ns.map PyData.int)).canLay0=true:=by simp[PyData.canLay0,Hh]
def E2(ns:List Int)(hd:Hd)(neg:Bool):GC neg (.list (ns.map PyData.int)) (.list []) hd=some (.im (.bl (if neg then !decide (ns=[])else decide (ns=[]))),hd):=by
 unfold GC;rw[if_pos,eqv_nil];refine⟨SU ns,by simp[PyData.canLay0,PyData.canLayAll0],?_⟩;have:(PyData.list []).depth<=1:=by simp[PyData.depth,PyData.depthAll]
 omega
def ET{x:Int}(m:Int)(h:0<m):0<=x%m/\x%m<m:=⟨Int.emod_nonneg _ (by omega),Int.emod_lt_of_pos _ h⟩
def Fw(cell turn:Int):Int:=(cell%2147483587+104729*turn+17)%2147483629
def JM(x turn:Int):Int:=(x*x+48271*turn)%2147483647
def Yw(x turn:Int):Int:=(x*x+7919*x+turn)%2147483629
def Ze(hd:Hd)(neg:Bool):GC neg (.list []) (.list []) hd=some (.im (.bl (if neg then false else true)),hd):=by
 have:=E2 [] hd neg;simpa using this
def aq{xs:List Int}(h:xs≠[])(n:Int):∃c,atI (xs.map λi=>D.im (.int i)) (n%(xs.length:Int))=some (.im (.int c)):=by
 have hl:0<xs.length:=HJ h;obtain⟨a,b⟩:=ET (x:=n) (xs.length:Int) (by omega);obtain⟨k,hk⟩:=Int.eq_ofNat_of_zero_le a;have hk':k<xs.length:=by omega
 exact⟨xs[k],C0 hk (by simp[hk'])⟩
def mk1(j:Int):F9 104729 j:=Eg (by decide) (by decide)
def mk2(j:Int):F9 48271 j:=Eg (by decide) (by decide)
def mk3(j:Int):F9 7919 j:=Eg (by decide) (by decide)
def mo1:D7 2147483587:=by unfold D7;decide
def mo2:D7 2147483629:=by unfold D7;decide
def mo3:D7 2147483647:=by unfold D7;decide
def di1:GF 128:=by unfold GF;decide
def po1:KQ 10 18:=by unfold KQ;decide
def VN(τ:Tp)(many:Int)(h0:0<many)(h1:many<1073741824):∃r τ',F_pick [.mu 1,.im (.int many)] (tp τ)=some (.im (.int r),tp τ')/\0<=r/\r<many/\τ'.cells=τ.cells:=by
 have hm:D7 many:=h0;have hv:GF many:=⟨h0,h1⟩
 by_cases hl:τ.lf>0
 .refine⟨τ.lf%many,{ τ with tn:=τ.tn+1,lf:=τ.lf/many },?_,(ET many h0).1,(ET many h0).2,rfl⟩;simp[F_pick,mkF,hl,hm,hv]
 .have key:∀cell:Int,(if τ.cells=[]then cell=23 else atI (τ.cells.map λi=>D.im (.int i)) (τ.nx%(τ.cells.length:Int))=some (.im (.int cell))) ->
   ∃r τ',F_pick [.mu 1,.im (.int many)] (tp τ)=some (.im (.int r),tp τ')/\0<=r/\r<many/\τ'.cells=τ.cells:=by
   intro cell hcell;have b1:=ET (x:=cell%2147483587+104729*(τ.tn+1)+17) 2147483629 (by decide);have b2:=ET (x:=Fw cell (τ.tn+1)*Fw cell (τ.tn+1)+48271*(τ.tn+1)) 2147483647 (by decide);have c1:∀j,F9 (Fw cell (τ.tn+1)) j:=λj=>Eg (by unfold Fw;omega) (by unfold Fw;omega);have c2:∀j,F9 (JM (Fw cell (τ.tn+1)) (τ.tn+1)) j:=λj=>Eg (by unfold JM;omega) (by unfold JM;omega);by_cases hb:cell>=1000000000000000000/\τ.nx<(τ.cells.length:Int)
   .refine⟨cell%many,{ τ with tn:=τ.tn+1,nx:=τ.nx+1,lf:=cell/many },?_,(ET many h0).1,(ET many h0).2,rfl⟩;by_cases hc:τ.cells=[]
    .rw[if_pos hc]at hcell;subst hcell;omega
    .rw[if_neg hc]at hcell;have hl0:0<τ.cells.length:=HJ hc;have hl0':D7 (τ.cells.length:Int):=by unfold D7;omega
     simp[F_pick,mkF,hl,hm,hv,mk1,mk2,mk3,mo1,mo2,mo3,di1,po1,C4,pyD,CN,Cf,I.pys,E2,hc,hcell,hl0',hb.1,hb.2,BI]
   .refine⟨Yw (JM (Fw cell (τ.tn+1)) (τ.tn+1)) (τ.tn+1)/128%many,{ τ with tn:=τ.tn+1,nx:=τ.nx+1 },?_,(ET many h0).1,(ET many h0).2,rfl⟩;have hb':1000000000000000000<=cell->¬ τ.nx<(τ.cells.length:Int):=λa b=>hb ⟨a,b⟩;unfold Fw at c1 c2;unfold JM at c2;unfold Yw JM Fw;by_cases hc:τ.cells=[]
    .rw[if_pos hc]at hcell;subst hcell;simp only[Int.reduceMod]at c1 c2;simp[F_pick,mkF,hl,hm,hv,mk1,mk2,mk3,mo1,mo2,mo3,di1,po1,C4,pyD,CN,Cf,I.pys,E2,Ze,hc,BI,c1,c2]
    .rw[if_neg hc]at hcell;have hl0:0<τ.cells.length:=HJ hc;have hl0':D7 (τ.cells.length:Int):=by unfold D7;omega
     by_cases hd:1000000000000000000<=cell
     .simp[F_pick,mkF,hl,hm,hv,mk1,mk2,mk3,mo1,mo2,mo3,di1,po1,C4,pyD,CN,Cf,I.pys,E2,hc,hcell,hl0',BI,c1,c2,hd,hb' hd]
     .simp[F_pick,mkF,hl,hm,hv,mk1,mk2,mk3,mo1,mo2,mo3,di1,po1,C4,pyD,CN,Cf,I.pys,E2,hc,hcell,hl0',BI,c1,c2,hd]
  by_cases hc:τ.cells=[]
  .exact key 23 (by rw[if_pos hc])
  .obtain⟨c,e⟩:=aq hc τ.nx;exact key c (by rw[if_neg hc];exact e)
inductive Cost where
 |late (d:Int)|tardy (d w:Int)|miss (d w:Int)|ends (w:Int)|steps (rows:List (Int×Int))
def CV(r:Int×Int):I:=.tup [.int r.1,.int r.2]
def Dq:Cost->I
 |.late d=>.tup [.str "late",.int d]
 |.tardy d w=>.tup [.str "tardy",.int d,.int w]
 |.miss d w=>.tup [.str "miss",.int d,.int w]
 |.ends w=>.tup [.str "ends",.int w]
 |.steps rows=>.tup [.str "steps",.tup (rows.map CV)]
def n1:¬ (("late":Str)="steps"):=by decide +kernel
def n2:¬ (("tardy":Str)="steps"):=by decide +kernel
def n3:¬ (("miss":Str)="steps"):=by decide +kernel
def n4:¬ (("ends":Str)="steps"):=by decide +kernel
def n7:¬ (("miss":Str)="ends"):=by decide +kernel
def n8:¬ (("tardy":Str)="late"):=by decide +kernel
def n10:¬ (("miss":Str)="tardy"):=by decide +kernel
def n12:¬ (("steps":Str)="late"):=by decide +kernel
@[simp high] theorem b9(t:Tp)(x:MO)(r:Hd):(tp t++(x::r))[2]?=some x:=rfl
@[simp high] theorem Wh(t:Tp)(x y:MO)(r:Hd):(tp t++(x::y::r))[3]?=some y:=rfl
@[simp high] theorem Wg(t:Tp)(x y z:MO)(r:Hd):(tp t++(x::y::z::r))[4]?=some z:=rfl
@[simp high] theorem Zw(t:Tp)(x y:MO)(r:Hd):(tp t++(x::r)).set 2 y=tp t++(y::r):=rfl
@[simp high] theorem Zv(t:Tp)(x y z:MO)(r:Hd):(tp t++(x::y::r)).set 3 z=tp t++(x::z::r):=rfl
def CH(w:Nat)(ns:List Int):B6 w (ns.map λi=>D.im (.int i))=true:=by induction ns<;>simp_all [B6,clD]
@[simp] theorem IL(t:Tp):(tp t).all (clO 2)=true:=by simp[tp,clO,CH,BH,FJ,clD]
structure Drawn(τ:Tp)(many:Int)(r:Int)(τ':Tp):Prop where
 lo:0<=r
 hi:r<many
 cl:τ'.cells=τ.cells
 eq:F_pick [.mu 1,.im (.int many)] (tp τ)=some (.im (.int r),tp τ')
def Drawn.gen{τ τ':Tp}{many r:Int}(h:Drawn τ many r τ'){ls:Ls}{hd rest:Hd}{m:MA}(e:m ls hd=some ([.mu 1,.im (.int many)],tp τ++rest)):AA 2 F_pick m ls hd=some (.im (.int r),tp τ'++rest):=
 GI (w:=2) (ds:=[.mu 1,.im (.int many)]) (pre:=tp τ) (pre':=tp τ') (rest:=rest) (g:=[]) rfl rfl e (by simp) (IL _) (IL _) (by rw[append_nil];exact h.eq)
def Drawn.genN{τ τ':Tp}{many r:Int}(h:Drawn τ many r τ'){ls:Ls}{hd:Hd}{m:MA}(e:m ls hd=some ([.mu 1,.im (.int many)],tp τ)):AA 2 F_pick m ls hd=some (.im (.int r),tp τ'):=by
 have:=h.gen (rest:=[]) (e:=by rw[append_nil];exact e)
 rwa [append_nil]at this
def Drawn.c{τ τ':Tp}{many r:Int}(h:Drawn τ many r τ')(ls:Ls)(rest:Hd)(i:Nat)(hi:ls[i]?=some (some (.mu 1))):AA 2 F_pick (A1 (A2 i) (A1 (mC (.int many)) A5)) ls (tp τ++rest)=some (.im (.int r),tp τ'++rest):=h.gen (by simp[hi])
def Drawn.cN{τ τ':Tp}{many r:Int}(h:Drawn τ many r τ')(ls:Ls)(i:Nat)(hi:ls[i]?=some (some (.mu 1))):AA 2 F_pick (A1 (A2 i) (A1 (mC (.int many)) A5)) ls (tp τ)=some (.im (.int r),tp τ'):=h.genN (by simp[hi])
def Drawn.v{τ τ':Tp}{many r:Int}(h:Drawn τ many r τ')(ls:Ls)(rest:Hd)(i j:Nat)(hi:ls[i]?=some (some (.mu 1)))(hj:ls[j]?=some (some (.im (.int many)))):AA 2 F_pick (A1 (A2 i) (A1 (A2 j) A5)) ls (tp τ++rest)=some (.im (.int r),tp τ'++rest):=h.gen (by simp[hi,hj])
def draw(τ:Tp)(many:Int)(h0:0<many)(h1:many<1073741824):∃r τ',Drawn τ many r τ':=by
 obtain⟨r,τ',e,a,b,c⟩:=VN τ many h0 h1;exact⟨r,τ',a,b,c,e⟩
def RowsOk(lo bot:Int):List (Int×Int)->Prop
 |[]=>True
 |(b,a)::r=>lo<b/\b<=lo+40/\bot<=a/\a<=bot+19/\RowsOk b a r
def Cost.ok:Cost->Prop
 |.late d=>-99<=d/\d<=400
 |.tardy d w=>(-99<=d/\d<=400)/\0<=w/\w<=9
 |.miss d w=>(-99<=d/\d<=400)/\0<=w/\w<=9
 |.ends w=>0<=w/\w<=9
 |.steps rows=>rows≠[]/\rows.length<=5/\∃lo,-99<=lo/\lo<=200/\RowsOk lo 0 rows
def RowsOk.snoc:∀{rows:List (Int×Int)} {lo bot b a:Int},RowsOk lo bot rows->(rows.getLastD (lo,bot)).1<b->b<=(rows.getLastD (lo,bot)).1+40->(rows.getLastD (lo,bot)).2<=a->a<=(rows.getLastD (lo,bot)).2+19->RowsOk lo bot (rows++[(b,a)])
 |[],lo,bot,b,a,h,h1,h2,h3,h4=>⟨h1,h2,h3,h4,trivial⟩
 |(x,y)::r,lo,bot,b,a,⟨p1,p2,p3,p4,p5⟩,h1,h2,h3,h4=>by
   have e:((x,y)::r).getLastD (lo,bot)=r.getLastD (x,y):=by cases r<;>rfl
   rw[e]at h1 h2 h3 h4;exact⟨p1,p2,p3,p4,RowsOk.snoc p5 h1 h2 h3 h4⟩
abbrev Si:MS:=(A7 (AH 4 (mOp AE (mOp AE (A2 4) (mC (.int 1))) (AA 2 F_pick (A1 (A2 0) (A1 (mC (.int 40)) A5)))))
 (A7 (AH 5 (mOp AE (A2 5) (AA 2 F_pick (A1 (A2 0) (A1 (mC (.int 20)) A5)))))
 (BE (mMt Ao (A2 6) (A1 (AI (A1 (A2 4) (A1 (A2 5) A5))) A5)))))
def K1(w way due wt:D)(lo:Int):∀(k:Nat) (τ:Tp) (rows:List (Int×Int)) (z:Option D) (ds:List D),ds.length=k->rows.length+k<=5->RowsOk lo 0 rows->∃τ' rows' s t z',BR (AG 7) Si [] ds
 [some (.mu 1),some way,some due,some wt,some (.im (.int (rows.getLastD (lo,0)).1)),some (.im (.int (rows.getLastD (lo,0)).2)),some (.mu 2),z] (tp τ++[.lst ((rows.map CV).map .im)]) =
 some (.nx [some (.mu 1),some way,some due,some wt,s,t,some (.mu 2),z'],tp τ'++[.lst ((rows'.map CV).map .im)])/\rows'.length=rows.length+k/\RowsOk lo 0 rows'/\τ'.cells=τ.cells
 |0,τ,rows,z,ds,hk,hr,hR=>by
  have:ds=[]:=List.length_eq_zero_iff.mp hk;subst this;exact⟨τ,rows,_,_,z,Dy,rfl,hR,rfl⟩
 |k+1,τ,rows,z,[],hk,hr,hR=>by simp at hk
 |k+1,τ,rows,z,d::ds,hk,hr,hR=>by
  obtain⟨r1,τ1,d1⟩:=draw τ 40 (by decide) (by decide);obtain⟨r2,τ2,d2⟩:=draw τ1 20 (by decide) (by decide);have a1:=d1.lo;have b1:=d1.hi;have c1:=d1.cl;have a2:=d2.lo;have b2:=d2.hi;have c2:=d2.cl;have e1:=d1.c;have e2:=d2.c;have hl:D9 rows.length:=Bp (by omega);have lst:(rows++[((rows.getLastD (lo,0)).1+1+r1,(rows.getLastD (lo,0)).2+r2)]).getLastD (lo,0)=((rows.getLastD (lo,0)).1+1+r1,(rows.getLastD (lo,0)).2+r2):=by simp
  obtain⟨τ',rows',s,t,z',e,l,R,c⟩:=K1 w way due wt lo k τ2 (rows++[((rows.getLastD (lo,0)).1+1+r1,(rows.getLastD (lo,0)).2+r2)]) (some d) ds (by simpa using hk) (by simp;omega) (hR.snoc (by omega) (by omega) (by omega) (by omega));refine⟨τ',rows',s,t,z',?_,by rw[l];simp;omega,R,by rw[c,c2,c1]⟩;rw[<- e,lst];refine Cg (ls1:=[some (.mu 1),some way,some due,some wt,some (.im (.int (rows.getLastD (lo,0)).1)),some (.im (.int (rows.getLastD (lo,0)).2)),some (.mu 2),some d]) rfl ?_ (AU _);have q:(tp τ2++[MO.lst ((rows.map CV).map D.im)])[2]?=some (.lst ((rows.map CV).map D.im)):=rfl;have q2:∀x,(tp τ2++[MO.lst ((rows.map CV).map D.im)]).set 2 x=tp τ2++[x]:=λ_=>rfl;simp[e1,e2,hl,CV]
def QM(τ:Tp)(way:Int)(h0:0<=way)(h4:way<5):∃c τ' g,HR [.mu 1,.im (.int way)] (tp τ)=some (.im (Dq c),tp τ'++g)/\c.ok/\τ'.cells=τ.cells:=by
 obtain⟨r1,τ1,d1'⟩:=draw τ 4 (by decide) (by decide);have a1:=d1'.lo;have b1:=d1'.hi;have c1:=d1'.cl;have e1:=d1'.cN;have key:∀(due:Int) (τ2:Tp),-99<=due->due<=400->τ2.cells=τ.cells ->
  (∀(ls:Ls),ls[0]?=some (some (.mu 1))->mIf (AR (mOp gEq (AA 2 F_pick (A1 (A2 0) (A1 (mC (.int 4)) A5))) (mC (.int 0)))) (mOp B3 (AA 2 F_pick (A1 (A2 0) (A1 (mC (.int 500)) A5))) (mC (.int 99))) (mOp B3 (AA 2 F_pick (A1 (A2 0) (A1 (mC (.int 40)) A5))) (mC (.int 5))) ls (tp τ)=some (.im (.int due),tp τ2)) ->
  ∃c τ' g,HR [.mu 1,.im (.int way)] (tp τ)=some (.im (Dq c),tp τ'++g)/\c.ok/\τ'.cells=τ.cells:=by
  intro due τ2 d1 d2 hc hE;obtain⟨r3,τ3,d3'⟩:=draw τ2 10 (by decide) (by decide);have a3:=d3'.lo;have b3:=d3'.hi;have c3:=d3'.cl;have e3:=d3'.cN;have hE:=hE [some (.mu 1),some (.im (.int way)),none,none,none,none,none,none] rfl;have cases4:way=0∨way=1∨way=2∨way=3∨way=4:=by omega
  have e0:∀(x y z u:D),atI [x,y,z,u] 3=some u:=λx y z u=>Fj (j:=3) rfl;rcases cases4 with rfl|rfl|rfl|rfl|rfl
  .refine⟨.late due,τ3,[],?_,⟨d1,d2⟩,by rw[c3,hc]⟩;simp only[HR,mkF,cy,Do,D3,map_cons,map_nil,length_cons,length_nil,cons_append,nil_append,List.replicate,Nat.reduceAdd,Nat.reduceSub,if_true]at hE ⊢;rw[hE];simp[e3,Dq]
  .refine⟨.tardy due r3,τ3,[],?_,⟨⟨d1,d2⟩,by omega,by omega⟩,by rw[c3,hc]⟩;simp only[HR,mkF,cy,Do,D3,map_cons,map_nil,length_cons,length_nil,cons_append,nil_append,List.replicate,Nat.reduceAdd,Nat.reduceSub,if_true]at hE ⊢;rw[hE];simp[e3,Dq]
  .refine⟨.miss due r3,τ3,[],?_,⟨⟨d1,d2⟩,by omega,by omega⟩,by rw[c3,hc]⟩;simp only[HR,mkF,cy,Do,D3,map_cons,map_nil,length_cons,length_nil,cons_append,nil_append,List.replicate,Nat.reduceAdd,Nat.reduceSub,if_true]at hE ⊢;rw[hE];simp[e3,Dq]
  .refine⟨.ends r3,τ3,[],?_,⟨by omega,by omega⟩,by rw[c3,hc]⟩;simp only[HR,mkF,cy,Do,D3,map_cons,map_nil,length_cons,length_nil,cons_append,nil_append,List.replicate,Nat.reduceAdd,Nat.reduceSub,if_true]at hE ⊢;rw[hE];simp[e3,Dq,e0]
  .obtain⟨r4,τ4,d4'⟩:=draw τ3 5 (by decide) (by decide);have a4:=d4'.lo;have b4:=d4'.hi;have c4:=d4'.cl;have e4:=d4'.c;obtain⟨τ',rows',s,t,z',e,l,R,c⟩:=K1 (.im .non) (.im (.int 4)) (.im (.int due)) (.im (.int r3)) (if 200<due then 200 else due) (1+r4).toNat τ4 [] none (Ai 0 (1+r4).toNat) (Dc _ _) (by simp;omega) trivial;refine⟨.steps rows',τ',[.lst ((rows'.map CV).map .im)],?_,⟨?_,by simp at l;omega,_,?_,?_,R⟩,by rw[c,c4,c3,hc]⟩
   .simp only[HR,mkF,cy,Do,D3,map_cons,map_nil,length_cons,length_nil,cons_append,nil_append,List.replicate,Nat.reduceAdd,Nat.reduceSub,if_true]at hE ⊢;rw[hE];have q:(tp τ'++[MO.lst ((rows'.map CV).map D.im)])[2]?=some (.lst ((rows'.map CV).map D.im)):=rfl;have bd:Et (1+r4):=Dt (by omega) (by omega);have nil0:tp τ3++[MO.lst ([]:List D)]=tp τ3++[.lst ((([]:List (Int×Int)).map CV).map .im)]:=rfl;have e':=e;simp only[List.getLastD_nil,map_nil]at e';have e'':(D.im ∘ CV)=λr=>D.im (CV r):=rfl;simp only[map_map]at e';have tt:AK (List.map (D.im ∘ CV) rows')=.im (.tup (rows'.map CV)):=by rw[<- map_map];exact DG _
    simp[e3,e4,bd,e',BQ,Dq,tt]
   .intro z;rw[z]at l;simp at l;omega
   .split<;>omega
   .split<;>omega
 by_cases h:r1=0
 .obtain⟨r2,τ2,d2'⟩:=draw τ1 500 (by decide) (by decide);have a2:=d2'.lo;have b2:=d2'.hi;have c2:=d2'.cl;have e2:=d2'.cN;exact key (r2-99) τ2 (by omega) (by omega) (by rw[c2,c1]) λls hls=>by simp[e1,e2,hls,h]
 .obtain⟨r2,τ2,d2'⟩:=draw τ1 40 (by decide) (by decide);have a2:=d2'.lo;have b2:=d2'.hi;have c2:=d2'.cl;have e2:=d2'.cN;exact key (r2-5) τ2 (by omega) (by omega) (by rw[c2,c1]) λls hls=>by simp[e1,e2,hls,h]
structure Wk where
 len:Int
 com:Int
 cost:Cost
def Aj(w:Wk):I:=.tup [.int w.len,.int w.com,Dq w.cost]
structure Wk.ok(w:Wk):Prop where
 l1:1<=w.len
 l2:w.len<=20
 c1:0<=w.com
 c2:w.com<=60
 co:w.cost.ok
abbrev AY(ws:List Wk):I:=.tup (ws.map Aj)
structure DrawnI(F:List D->Hd->Option (D×Hd))(τ:Tp)(as:List D)(i:I)(τ':Tp):Prop where
 cl:τ'.cells=τ.cells
 eq:∃g,F (.mu 1::as) (tp τ)=some (.im i,tp τ'++g)
def DrawnI.gen{F:List D->Hd->Option (D×Hd)}{τ τ':Tp}{as:List D}{i:I}(h:DrawnI F τ as i τ'){ls:Ls}{hd rest:Hd}{m:MA}(e:m ls hd=some (.mu 1::as,tp τ++rest))(ha:B6 2 as=true):AA 2 F m ls hd=some (.im i,tp τ'++rest):=by
 obtain⟨g,q⟩:=h.eq;exact GI (w:=2) (ds:=.mu 1::as) (pre:=tp τ) (pre':=tp τ') (rest:=rest) (g:=g) rfl rfl e (by simp[ha]) (IL _) (IL _) q
def Se(τ:Tp)(way:Int)(h0:0<=way)(h4:way<5):∃c τ',c.ok/\DrawnI HR τ [.im (.int way)] (Dq c) τ':=by
 obtain⟨c,τ',g,e,a,b⟩:=QM τ way h0 h4;exact⟨c,τ',a,b,g,e⟩
abbrev Ji:MS:=(A7 (AH 7 (mIf (Bg (A2 2)) (A2 3) (AA 2 F_pick (A1 (A2 0) (A1 (Bi (AV (A1 (mC (.int 8)) (A1 (mC (.int 61)) A5))) (AA 2 F_pick (A1 (A2 0) (A1 (mC (.int 2)) A5)))) A5)))))
 (BE (mMt Ao (A2 5) (A1 (AI (A1 (mOp AE (mC (.int 1)) (AA 2 F_pick (A1 (A2 0) (A1 (A2 4) A5)))) (A1 (A2 7) (A1 (AA 2 HR (A1 (A2 0) (A1 (AA 2 F_pick (A1 (A2 0) (A1 (mC (.int 5)) A5))) A5))) A5)))) A5))))
def MU(alike:Bool)(begin_:Int)(hb:0<=begin_/\begin_<=60)(τ:Tp):∃com τ',(0<=com/\com<=60)/\(alike=true->com=begin_)/\τ'.cells=τ.cells/\∀(ls:Ls) (rest:Hd),ls[0]?=some (some (.mu 1))->ls[2]?=some (some (.im (.bl alike)))->ls[3]?=some (some (.im (.int begin_))) ->
 mIf (Bg (A2 2)) (A2 3) (AA 2 F_pick (A1 (A2 0) (A1 (Bi (AV (A1 (mC (.int 8)) (A1 (mC (.int 61)) A5))) (AA 2 F_pick (A1 (A2 0) (A1 (mC (.int 2)) A5)))) A5))) ls (tp τ++rest)=some (.im (.int com),tp τ'++rest):=by
 cases alike with
 |true=>exact⟨begin_,τ,hb,λ_=>rfl,rfl,λls rest h0 h2 h3=>by simp[h2,h3,DY]⟩
 |false=>
  obtain⟨r1,τ1,d1⟩:=draw τ 2 (by decide) (by decide);have e1:=d1.c;have a1:=d1.lo;have b1:=d1.hi;have hx:∃x:Int,(x=8∨x=61)/\atI [D.im (.int 8),D.im (.int 61)] r1=some (.im (.int x)):=by
   have:r1=0∨r1=1:=by omega
   rcases this with rfl|rfl
   .exact⟨8,.inl rfl,M8 _ _⟩
   .exact⟨61,.inr rfl,Je _ _ _⟩
  obtain⟨x,hx1,hx2⟩:=hx;obtain⟨r2,τ2,d2⟩:=draw τ1 x (by omega) (by omega);have a2:=d2.lo;have b2:=d2.hi;refine⟨r2,τ2,by omega,(λh=>by cases h),by rw[d2.cl,d1.cl],λls rest h0 h2 h3=>?_⟩;simp only[af,Q4,EJ,h2,bind_some,DY,map_some,Bool.false_eq_true,if_false];exact d2.gen (by simp[h0,e1,hx2])
def IK(alike:Bool)(begin_ wide:Int)(many:D)(hb:0<=begin_/\begin_<=60)(hw:0<wide/\wide<=20):∀(k:Nat) (τ:Tp) (ws:List Wk) (z z2:Option D) (ds:List D),ds.length=k->ws.length+k<=1000->(∀w∈ws,w.ok/\(alike=true->w.com=begin_))->∃(τ':Tp) (ws':List Wk) (z' z2':Option D),BR (AG 6) Ji [] ds
 [some (.mu 1),some many,some (.im (.bl alike)),some (.im (.int begin_)),some (.im (.int wide)),some (.mu 2),z,z2] (tp τ++[.lst (ws.map λw=>.im (Aj w))]) =
 some (.nx [some (.mu 1),some many,some (.im (.bl alike)),some (.im (.int begin_)),some (.im (.int wide)),some (.mu 2),z',z2'],tp τ'++[.lst (ws'.map λw=>.im (Aj w))])/\ws'.length=ws.length+k/\(∀w∈ws',w.ok/\(alike=true->w.com=begin_))/\τ'.cells=τ.cells
 |0,τ,ws,z,z2,ds,hk,hr,hR=>by
  have:ds=[]:=List.length_eq_zero_iff.mp hk;subst this;exact⟨τ,ws,z,z2,Dy,rfl,hR,rfl⟩
 |k+1,τ,ws,z,z2,[],hk,hr,hR=>by simp at hk
 |k+1,τ,ws,z,z2,d::ds,hk,hr,hR=>by
  obtain⟨com,τ1,hc,hal,c1,e1⟩:=MU alike begin_ hb τ;obtain⟨r2,τ2,d2⟩:=draw τ1 wide hw.1 (by omega);have e2:=d2.v;have a2:=d2.lo;have b2:=d2.hi;obtain⟨r3,τ3,d3⟩:=draw τ2 5 (by decide) (by decide);have e3:=d3.c;obtain⟨co,τ4,hco,d4⟩:=Se τ3 r3 d3.lo d3.hi;have hl:D9 ws.length:=Bp (by omega);obtain⟨τ',ws',z',z2',e,l,R,c⟩:=IK alike begin_ wide many hb hw k τ4 (ws++[⟨1+r2,com,co⟩]) (some d) (some (.im (.int com))) ds (by simpa using hk) (by simp;omega) (by
   intro w hw';rcases mem_append.mp hw' with h|h
   .exact hR w h
   .simp at h;subst h;exact⟨⟨by simp;omega,by simp;omega,hc.1,hc.2,hco⟩,hal⟩)
  refine⟨τ',ws',z',z2',?_,by rw[l];simp;omega,R,by rw[c,d4.cl,d3.cl,d2.cl,c1]⟩;rw[<- e];refine Cg (ls1:=[some (.mu 1),some many,some (.im (.bl alike)),some (.im (.int begin_)),some (.im (.int wide)),some (.mu 2),some d,z2]) rfl ?_ (AU _);have f1:=e1 [some (.mu 1),some many,some (.im (.bl alike)),some (.im (.int begin_)),some (.im (.int wide)),some (.mu 2),some d,z2] [.lst (ws.map λw=>.im (Aj w))] rfl rfl rfl;have f4:=d4.gen (ls:=[some (.mu 1),some many,some (.im (.bl alike)),some (.im (.int begin_)),some (.im (.int wide)),some (.mu 2),some d,some (.im (.int com))]) (hd:=tp τ2++[.lst (ws.map λw=>.im (Aj w))]) (rest:=[.lst (ws.map λw=>.im (Aj w))]) (m:=A1 (A2 0) (A1 (AA 2 F_pick (A1 (A2 0) (A1 (mC (.int 5)) A5))) A5)) (by simp[e3]) (by simp);simp only[Ji,Do,D3,f1,bind_some,Fb,map_some];simp[e2,f4,hl];simp[Aj]
def NP(τ:Tp)(many:Int)(alike:Bool)(h0:0<=many)(h8:many<=100):∃(ws:List Wk) (τ':Tp),(ws.length=many.toNat/\(∀w∈ws,w.ok)/\(alike=true->∃b,∀w∈ws,w.com=b))/\DrawnI F_works τ [.im (.int many),.im (.bl alike)] (AY ws) τ':=by
 obtain⟨r1,τ1,d1⟩:=draw τ 61 (by decide) (by decide);obtain⟨r2,τ2,d2⟩:=draw τ1 2 (by decide) (by decide);obtain⟨r3,τ3,d3⟩:=draw τ2 2 (by decide) (by decide);have e1:=d1.cN;have e2:=d2.cN;have e3:=d3.cN;have a1:=d1.lo;have b1:=d1.hi;have a2:=d2.lo;have b2:=d2.hi;have a3:=d3.lo;have b3:=d3.hi;have hx:∃x:Int,(x=3∨x=20)/\atI [D.im (.int 3),D.im (.int 20)] r3=some (.im (.int x)):=by
  have:r3=0∨r3=1:=by omega
  rcases this with rfl|rfl
  .exact⟨3,.inl rfl,M8 _ _⟩
  .exact⟨20,.inr rfl,Je _ _ _⟩
 obtain⟨x,hx1,hx2⟩:=hx;have hb:0<=r1*r2/\r1*r2<=60:=by
  have:r2=0∨r2=1:=by omega
  rcases this with rfl|rfl<;>omega
 obtain⟨τ',ws',z',z2',e,l,R,c⟩:=IK alike (r1*r2) x (.im (.int many)) hb (by omega) many.toNat τ3 [] none none (Ai 0 many.toNat) (Dc _ _) (by simp;omega) (by simp);refine⟨ws',τ',⟨by simpa using l,λw hw=>(R w hw).1,λha=>⟨r1*r2,λw hw=>(R w hw).2 ha⟩⟩,by rw[c,d3.cl,d2.cl,d1.cl],[.lst (ws'.map λw=>.im (Aj w))],?_⟩;have bm:∀j,F9 r1 j:=λj=>Eg (by omega) (by omega);have bd:Et many:=Dt (by omega) (by omega);have tt:AK (ws'.map λw=>D.im (Aj w))=.im (AY ws'):=by
  have:(ws'.map λw=>D.im (Aj w))=(ws'.map Aj).map D.im:=by rw[map_map];rfl
  rw[this];exact DG _
 simp only[map_nil]at e;simp[F_works,mkF,e1,e2,e3,bm,hx2,bd,e,BQ,tt]
end Bd
namespace L2
def Lz{α:Type}{n:MG}{c:MT}{m:ME}{g:Gd}{hd:Hd}(hg:GOk hd g)(f:α->D)(k:α->Option D):∀{xs:List α} {ls:Ls} (P:Ls->Prop),P ls ->
 (∀x∈xs,∀ls,P ls->∃ls1,n (f x) ls hd=some ls1/\P ls1/\((k x=none/\c ls1 hd=some (false,hd))∨∃z,k x=some z/\c ls1 hd=some (true,hd)/\m ls1 hd=some (z,hd)))->As n c m g (xs.map f) ls hd=some (xs.filterMap k,hd)
 |[],ls,P,h,_=>by unfold As;rfl
 |x::r,ls,P,h,q=>by
  obtain⟨ls1,e1,p1,q1⟩:=q x mem_cons_self ls h;have ih:=Lz hg f k (xs:=r) (ls:=ls1) P p1 λd hd ls hp=>q d (mem_cons_of_mem _ hd) ls hp;rw[map_cons];unfold As;rcases q1 with⟨kn,c1⟩|⟨z,kz,c1,m1⟩
  .simp[e1,c1,hg,ih,kn]
  .simp[e1,c1,m1,hg,ih,kz]
def Sj{α:Type}{n:MG}{m:ME}{g:Gd}{hd:Hd}(hg:GOk hd g)(f:α->D)(k:α->D){xs:List α}{ls:Ls}(P:Ls->Prop)(h:P ls)
 (q:∀x∈xs,∀ls,P ls->∃ls1,n (f x) ls hd=some ls1/\P ls1/\m ls1 hd=some (k x,hd)):As n Bc m g (xs.map f) ls hd=some (xs.map k,hd):=by
 have:=Lz (c:=Bc) hg f (λx=>some (k x)) (xs:=xs) P h λx hx ls hp=>by
  obtain⟨ls1,e1,p1,e2⟩:=q x hx ls hp;exact⟨ls1,e1,p1,.inr ⟨_,rfl,rfl,e2⟩⟩
 rw[this];simp
end L2
namespace Bd
open PySem L2
abbrev FA(es:List Int):I:=.tup (es.map I.int)
def W5(ns:List Int):(ns.map λi=>D.im (.int i))=(ns.map I.int).map D.im:=by rw[map_map];rfl
def OB(ns:List Int):AK (ns.map λi=>D.im (.int i))=.im (FA ns):=by rw[W5];exact DG _
def AD(p:Nat×Int×Int):I:=.tup [.int p.1,.int p.2.1,.int p.2.2]
def SQ{α:Type}(ws:List α):ws.map (λ_=>D.im (.int 0))=(List.replicate ws.length 0).map λi=>D.im (.int i):=by induction ws<;>simp_all [List.replicate_succ]
def EY(es:List Int):List (Nat×Int×Int)->List Int
 |[]=>es
 |p::r=>EY (es.set p.1 p.2.2) r
def Jz(w o:D):∀(ps:List (Nat×Int×Int)) (es:List Int) (a b c:Option D),(∀p∈ps,p.1<es.length)->∃a' b' c',BR (Bx 3 (Ac (AG 3) (Ac (AG 4) (Ac (AG 5) CF)))) (Dj (A2 2) (A2 3) (A2 5)) [] (ps.map λp=>.im (AD p))
 [some w,some o,some (.mu 0),a,b,c] [.lst (es.map λi=>.im (.int i))]=some (.nx [some w,some o,some (.mu 0),a',b',c'],[.lst ((EY es ps).map λi=>.im (.int i))])
 |[],es,a,b,c,_=>⟨a,b,c,Dy⟩
 |(k,x,y)::ps,es,a,b,c,h=>by
   obtain⟨a',b',c',q⟩:=Jz w o ps (es.set k y) (some (.im (.int k))) (some (.im (.int x))) (some (.im (.int y))) (λp hp=>by simpa using h p (mem_cons_of_mem _ hp));refine⟨a',b',c',?_⟩;have hk:k<es.length:=h _ mem_cons_self;have ix:ixN es.length (k:Int)=some k:=by unfold ixN;rw[if_pos (by omega),if_pos (by omega)];simp
   rw[show EY es ((k,x,y)::ps)=EY (es.set k y) ps from rfl,<- q,map_cons];refine Cg (ls1:=[some w,some o,some (.mu 0),some (.im (.int k)),some (.im (.int x)),some (.im (.int y))]) (by simp[AD]) ?_ (AU _);simp[ix]
def OT(ws:List Wk)(ps:List (Nat×Int×Int))(h:∀p∈ps,p.1<ws.length)(hl:ws.length<=1000):∃g,F_ends_of [.im (AY ws),.im (.tup (ps.map AD))] []=some (.im (FA (EY (List.replicate ws.length 0) ps)),g):=by
 obtain⟨a',b',c',q⟩:=Jz (.im (AY ws)) (.im (.tup (ps.map AD))) ps (List.replicate ws.length 0) none none none (λp hp=>by simpa using h p hp);have hz:Be ws.length:=AL (by omega);have hc:=Sj (hd:=[]) (n:=AG 0) (m:=mC (.int 0)) (AU []) (λw:Wk=>D.im (Aj w)) (λ_=>.im (.int 0)) (xs:=ws) (ls:=[none]) (λls=>ls.length=1) rfl λw hw ls hls=>by
  match ls,hls with
  |[a],_=>exact⟨[some (.im (Aj w))],rfl,rfl,rfl⟩
 have hr:=SQ ws;have w1:(ws.map Aj).map D.im=ws.map λw=>D.im (Aj w):=by rw[map_map];rfl
 have p1:(ps.map AD).map D.im=ps.map λp=>D.im (AD p):=by rw[map_map];rfl
 rw[hr]at hc;refine⟨[.lst ((EY (List.replicate ws.length 0) ps).map λi=>.im (.int i))],?_⟩;simp only[F_ends_of,mkF,cz,Do,D3,Ll,WH,Q7,EJ,Ln,map_cons,map_nil,length_cons,length_nil,cons_append,nil_append,List.replicate,Nat.reduceAdd,Nat.reduceSub,if_true,List.getElem?_cons_zero,List.getElem?_cons_succ,bind_some,We,map_some,w1,p1,length_map,hz,E8,append_nil,hc,Fb,set_cons_succ,set_cons_zero];rw[q];simp[BQ,OB]
end Bd
namespace L2
open PySem PySem.Spec PyProof.Rows
structure OkP(w dp:Nat)(d:PyData):Prop where
 sh:d.showable=true
 lay:d.canLay0=true
 it:d.intsShort 13=true
 dp:d.depth<=dp
 wt:d.weight<=w
structure OkPs(w dp n:Nat)(ds:List PyData):Prop where
 sh:PyData.showableAll ds=true
 lay:PyData.canLayAll0 ds=true
 it:PyData.intsShortAll 13 ds=true
 dp:PyData.depthAll ds<=dp
 wt:PyData.weightAll ds<=n*(w+1)
def sm(i:Int):Prop:=-1000000000<=i/\i<=1000000000
def OkP.int{i:Int}(h:sm i):OkP 40 0 (.int i):=by
 have h1:i.natAbs<10^10:=by obtain⟨a,b⟩:=h;omega
 have h0:i.natAbs<2^38:=by obtain⟨a,b⟩:=h;omega
 have lg:i.natAbs.log2<38:=by
  by_cases z:i.natAbs=0
  .rw[z];decide
  .exact(log2_lt z).mpr h0
 refine⟨?_,by simp[PyData.canLay0],?_,by simp[PyData.depth],?_⟩
 .simp only[PyData.showable];exact decide_eq_true (by omega)
 .simp only[PyData.intsShort,PyData.shown];refine decide_eq_true ?_;have h2:=int_text_length_le10 (a:=i) (k:=10) (by decide) h1;rw[PySem.ofString_length];omega
 .simp only[PyData.weight];split<;>omega
def OkP.mono{w w' dp dp':Nat}{d:PyData}(h:OkP w dp d)(a:w<=w')(b:dp<=dp'):OkP w' dp' d:=⟨h.sh,h.lay,h.it,le_trans h.dp b,le_trans h.wt a⟩
def OkPs.nil{w dp:Nat}:OkPs w dp 0 []:=⟨by simp[PyData.showableAll],by simp[PyData.canLayAll0],by simp[PyData.intsShortAll],by simp[PyData.depthAll],by simp[PyData.weightAll]⟩
def OkPs.cons{w dp n:Nat}{d:PyData}{ds:List PyData}(h:OkP w dp d)(t:OkPs w dp n ds):OkPs w dp (n+1) (d::ds):=by
 refine⟨by simp[PyData.showableAll,h.sh,t.sh],by simp[PyData.canLayAll0,h.lay,t.lay],by simp[PyData.intsShortAll,h.it,t.it],?_,?_⟩
 .simp only[PyData.depthAll];exact Nat.max_le.mpr ⟨h.dp,t.dp⟩
 .simp only[PyData.weightAll];have:=h.wt;have:=t.wt;rw[Nat.add_mul];omega
def OkPs.tup{w dp n:Nat}{ds:List PyData}(t:OkPs w dp n ds):OkP (n*(w+1)) (dp+1) (.tuple ds):=by
 refine⟨?_,?_,?_,?_,?_⟩
 .rw[PyData.showable];exact t.sh
 .rw[PyData.canLay0];exact t.lay
 .rw[PyData.intsShort];exact t.it
 .rw[PyData.depth];have:=t.dp;omega
 .rw[PyData.weight];exact t.wt
def Pk{w dp:Nat}:∀{is:List I},(∀i∈is,OkP w dp i.py)->OkPs w dp is.length (I.pys is)
 |[],_=>by simp only[I.pys];exact OkPs.nil
 |i::is,h=>by simp only[I.pys,length_cons];exact(Pk λj hj=>h j (mem_cons_of_mem _ hj)).cons (h i mem_cons_self)
def CC{w dp:Nat}{is:List I}(h:∀i∈is,OkP w dp i.py):OkP (is.length*(w+1)) (dp+1) (I.py (.tup is)):=by
 rw[I.py];exact(Pk h).tup
def Dv{i:Int}(h:sm i):OkP 40 0 (I.py (.int i)):=by rw[I.py];exact .int h
end L2
namespace Bd
open PySem L2
def Vh(x:Str)(h:x="late"∨x="tardy"∨x="miss"∨x="ends"∨x="steps"):OkP 40 0 (I.py (.str x)):=by
 rw[I.py];rcases h with rfl|rfl|rfl|rfl|rfl<;>exact⟨by decide +kernel,by decide +kernel,by decide +kernel,by decide +kernel,by decide +kernel⟩
def Mj:∀{rows:List (Int×Int)} {lo bot:Int},RowsOk lo bot rows->rows.length<=5->-99<=lo->0<=bot->lo<=200+40*(5-rows.length)->bot<=19*(5-rows.length)->∀r∈rows,sm r.1/\sm r.2
 |[],_,_,_,_,_,_,_,_=>λr h=>by cases h
 |(b,a)::rows,lo,bot,⟨h1,h2,h3,h4,h5⟩,hl,p1,p2,p3,p4=>λr h=>by
   simp only[length_cons]at hl p3 p4;rcases mem_cons.mp h with rfl|h
   .exact⟨⟨by show -1000000000<=b;omega,by show b<=1000000000;omega⟩,⟨by show -1000000000<=a;omega,by show a<=1000000000;omega⟩⟩
   .exact Mj h5 (by omega) (by omega) (by omega) (by omega) (by omega) r h
def Vk{c:Cost}(h:c.ok):OkP 1000 3 (I.py (Dq c)):=by
 have i1:∀{i:Int},sm i->OkP 40 2 (I.py (.int i)):=λh=>(Dv h).mono (by omega) (by omega);have s1:∀{x:Str},(x="late"∨x="tardy"∨x="miss"∨x="ends"∨x="steps")->OkP 40 2 (I.py (.str x)):=λh=>(Vh _ h).mono (by omega) (by omega);cases c with
 |late d=>
  refine(CC (w:=40) (dp:=2) (is:=[.str "late",.int d]) λi hi=>?_).mono (by simp) (by omega);simp at hi;rcases hi with rfl|rfl
  .exact s1 (by simp)
  .exact i1 ⟨by have:=h.1;omega,by have:=h.2;omega⟩
 |tardy d w=>
  refine(CC (w:=40) (dp:=2) (is:=[.str "tardy",.int d,.int w]) λi hi=>?_).mono (by simp) (by omega);obtain⟨⟨h1,h2⟩,h3,h4⟩:=h;simp at hi;rcases hi with rfl|rfl|rfl
  .exact s1 (by simp)
  .exact i1 ⟨by omega,by omega⟩
  .exact i1 ⟨by omega,by omega⟩
 |miss d w=>
  refine(CC (w:=40) (dp:=2) (is:=[.str "miss",.int d,.int w]) λi hi=>?_).mono (by simp) (by omega);obtain⟨⟨h1,h2⟩,h3,h4⟩:=h;simp at hi;rcases hi with rfl|rfl|rfl
  .exact s1 (by simp)
  .exact i1 ⟨by omega,by omega⟩
  .exact i1 ⟨by omega,by omega⟩
 |ends w=>
  refine(CC (w:=40) (dp:=2) (is:=[.str "ends",.int w]) λi hi=>?_).mono (by simp) (by omega);obtain⟨h3,h4⟩:=h;simp at hi;rcases hi with rfl|rfl
  .exact s1 (by simp)
  .exact i1 ⟨by omega,by omega⟩
 |steps rows=>
  obtain⟨h1,h2,lo,h3,h4,h5⟩:=h;have hr:=Mj h5 h2 h3 (by omega) (by omega) (by omega);have hrow:OkP 420 2 (I.py (.tup (rows.map CV))):=by
   refine(CC (w:=82) (dp:=1) (is:=rows.map CV) λi hi=>?_).mono (by simp;omega) (by omega);obtain⟨r,hr1,rfl⟩:=mem_map.mp hi;refine(CC (w:=40) (dp:=0) (is:=[.int r.1,.int r.2]) λj hj=>?_).mono (by simp) (by omega);simp at hj;rcases hj with rfl|rfl
   .exact Dv (hr r hr1).1
   .exact Dv (hr r hr1).2
  refine(CC (w:=420) (dp:=2) (is:=[.str "steps",.tup (rows.map CV)]) λi hi=>?_).mono (by simp) (by omega);simp at hi;rcases hi with rfl|rfl
  .exact(s1 (by simp)).mono (by omega) (by omega)
  .exact hrow
def Vg{w:Wk}(h:w.ok):OkP 3003 4 (I.py (Aj w)):=by
 refine(CC (w:=1000) (dp:=3) (is:=[.int w.len,.int w.com,Dq w.cost]) λi hi=>?_).mono (by simp) (by omega);have:=h.l1;have:=h.l2;have:=h.c1;have:=h.c2;simp at hi;rcases hi with rfl|rfl|rfl
 .exact(Dv ⟨by omega,by omega⟩).mono (by omega) (by omega)
 .exact(Dv ⟨by omega,by omega⟩).mono (by omega) (by omega)
 .exact Vk h.co
def SL{ws:List Wk}(h:∀w∈ws,w.ok)(hl:ws.length<=20):OkP 60080 5 (I.py (AY ws)):=by
 refine(CC (w:=3003) (dp:=4) (is:=ws.map Aj) λi hi=>?_).mono (by simp;omega) (by omega);obtain⟨w,h1,rfl⟩:=mem_map.mp hi;exact Vg (h w h1)
def Sg(ns:List Int)(lo hi:Option Int):∃cs:List Int,Bj (ns.map λn=>.im (.int n)) lo hi=cs.map λn=>.im (.int n):=⟨(ns.drop _).take _,by unfold Bj;rw[List.map_take,List.map_drop]⟩
def Tx(ns:List Int):∃τ,F_tape [.ro ns] []=some (.mu 1,tp τ):=by
 obtain⟨cs,e⟩:=Sg ns none (some 63);refine⟨⟨cs,0,0,0⟩,?_⟩;simp[F_tape,mkF,e,FU,Bm,ne1,ne2,ne3,ne4,ne5,ne6,tp,BH]
abbrev Hs:MS:=(BE (mMt Ao (A2 3) (A1 (mMt FZ (A2 2) (A1 (AA 2 F_pick (A1 (A2 0) (A1 (mCB (f1 true BI) (A1 (A2 2) A5)) A5))) A5)) A5)))
abbrev Em:MS:=(B2 (AR (mOp gEq (AA 2 F_pick (A1 (A2 0) (A1 (A2 5) A5))) (mC (.int 0))))
 (BE (mMt Ao (A2 6) (A1 (AI (A1 (mOp gIx (A2 3) (A2 7)) (A1 (mOp gIx (A2 3) (A2 8)) A5))) A5)))
 Ap)
@[reducible] def d6:MS:=(A7 (AH 2 (AO (Ge (A1 (A2 1) A5))))
 (A7 (AH 3 (AO (AV A5)))
 (A7 (BO (Cq (A1 (A2 1) A5)) (AG 4) Hs)
 (A7 (AH 5 (Bi (AV (A1 (mC (.int 2)) (A1 (mC (.int 3)) (A1 (mC (.int 6)) A5)))) (AA 2 F_pick (A1 (A2 0) (A1 (mC (.int 3)) A5)))))
 (A7 (AH 6 (AO (AV A5)))
 (A7 (BO (Cq (A1 (A2 1) A5)) (AG 7)
  (BO (E4 (A1 (mOp AE (A2 7) (mC (.int 1))) (A1 (A2 1) A5))) (AG 8) Em))
 (Aa (Dk BQ (Gc (AO (Dw (CY (A2 6)))) AJ (AQ (mC (.int 16))))))))))))
def F_wishes:List D->Hd->Option (D×Hd):=mkF 2 9 d6
abbrev Av(ks:List Nat):List D:=ks.map λk:Nat=>D.im (.int (k:Int))
def JT{n:Nat}{i:Int}(a:0<=i)(b:i<n):ixN n i=some i.toNat:=by unfold ixN;rw[if_pos a,if_pos b]
def Ic:∀{a:List Nat} {k x:Nat},a[k]?=some x->(x::a.eraseIdx k).Perm a
 |[],k,x,h=>by simp at h
 |y::r,0,x,h=>by simp at h;subst h;exact .refl _
 |y::r,k+1,x,h=>by
  have ih:=Ic (a:=r) (k:=k) (x:=x) (by simpa using h);exact(List.Perm.swap y x _).trans (ih.cons y)
def Jy{α β:Type}(f:α->β):∀(l:List α) (k:Nat),(l.map f).eraseIdx k=(l.eraseIdx k).map f
 |[],k=>rfl
 |y::r,0=>rfl
 |y::r,k+1=>by simp[Jy f r k]
def Pd{a b:List Nat}{k x:Nat}(h:a[k]?=some x):(b++[x]++a.eraseIdx k).Perm (b++a):=by
 rw[append_assoc];exact List.Perm.append_left b (Ic h)
def Jq(s1 s4' s5 s6 s7 s8:Option D):∀(ds:List D) (τ:Tp) (left seq:List Nat) (z:Option D),left.length=ds.length->seq.length+ds.length<=1000->∃(τ':Tp) (seq':List Nat) (z':Option D),
 BR (AG 4) Hs [] ds [some (.mu 1),s1,some (.mu 2),some (.mu 3),z,s5,s6,s7,s8] (tp τ++[.lst (Av left),.lst (Av seq)]) =
  some (.nx [some (.mu 1),s1,some (.mu 2),some (.mu 3),z',s5,s6,s7,s8],tp τ'++[.lst [],.lst (Av seq')])/\seq'.Perm (seq++left)
 |[],τ,left,seq,z,hl,_=>by
  have:left=[]:=List.length_eq_zero_iff.mp hl;subst this;exact⟨τ,seq,z,Dy,by simp⟩
 |d::ds,τ,left,seq,z,hl,hs=>by
  simp only[length_cons]at hl hs;obtain⟨r,τ1,d1⟩:=draw τ (left.length:Int) (by omega) (by omega);have a1:=d1.lo;have b1:=d1.hi;have hr:r.toNat<left.length:=by omega
  have e1:left[r.toNat]?=some left[r.toNat]:=by simp[hr]
  obtain⟨τ',seq',z',q,pm⟩:=Jq s1 s4' s5 s6 s7 s8 ds τ1 (left.eraseIdx r.toNat) (seq++[left[r.toNat]]) (some d) (by rw[List.length_eraseIdx,if_pos hr];omega) (by simp;omega);refine⟨τ',seq',z',?_,pm.trans (Pd e1)⟩;rw[<- q];refine Cg (ls1:=[some (.mu 1),s1,some (.mu 2),some (.mu 3),some d,s5,s6,s7,s8]) rfl ?_ (AU _);have ge:=d1.gen (ls:=[some (.mu 1),s1,some (.mu 2),some (.mu 3),some d,s5,s6,s7,s8]) (hd:=tp τ++[.lst (Av left),.lst (Av seq)]) (rest:=[.lst (Av left),.lst (Av seq)]) (m:=A1 (A2 0) (A1 (mCB (f1 true BI) (A1 (A2 2) A5)) A5)) (by simp[BI]);have rg:Et r:=Dt (by omega) (by omega);have ix:ixN left.length r=some r.toNat:=JT a1 (by omega);have hf:D9 seq.length:=Bp (by omega);have er:(Av left).eraseIdx r.toNat=Av (left.eraseIdx r.toNat):=Jy _ _ _;simp only[Hs,NC,OR,EJ,List.getElem?_cons_zero,List.getElem?_cons_succ,bind_some,Il,b9,Wh,Fc,ge,Fa,Sc,rg,if_true,length_map,ix,List.getElem?_map,e1,map_some,er,Zw,Lo,hf,Zv];simp
def O7(p:Int×Int):I:=.tup [.int p.1,.int p.2]
def Along(seq:List Nat)(ps:List (Int×Int)):Prop:=∀p∈ps,∃i j a b:Nat,i<j/\seq[i]?=some a/\seq[j]?=some b/\p=((a:Int),(b:Int))
def Pn{seq:List Nat}{i a:Nat}(h:seq[i]?=some a):atI (Av seq) (i:Int)=some (.im (.int (a:Int))):=C0 rfl (by simp[h])
def GO(seq:List Nat)(dense:Int)(hd:0<dense/\dense<=100)(s1 z4:Option D)(i:Nat):∀(k j:Nat) (τ:Tp) (ps:List (Int×Int)) (z:Option D),i<j->j+k<=seq.length->ps.length+k<=1000->Along seq ps->∃(τ':Tp) (ps':List (Int×Int)) (z':Option D),
 BR (AG 8) Em [] (Ai (j:Int) k) [some (.mu 1),s1,some (.mu 2),some (.mu 3),z4,some (.im (.int dense)),some (.mu 4),some (.im (.int (i:Int))),z] (tp τ++[.lst [],.lst (Av seq),.lst (ps.map Ax)]) =
  some (.nx [some (.mu 1),s1,some (.mu 2),some (.mu 3),z4,some (.im (.int dense)),some (.mu 4),some (.im (.int (i:Int))),z'],tp τ'++[.lst [],.lst (Av seq),.lst (ps'.map Ax)])/\ps'.length<=ps.length+k/\Along seq ps'
 |0,j,τ,ps,z,_,_,_,ho=>⟨τ,ps,z,Dy,le_refl _,ho⟩
 |k+1,j,τ,ps,z,hij,hj,hl,ho=>by
  obtain⟨r,τ1,d1⟩:=draw τ dense hd.1 (by omega);have e1:=d1.v;have hj1:j<seq.length:=by omega
  have hi1:i<seq.length:=by omega
  have sj:seq[j]?=some seq[j]:=by simp[hj1]
  have si:seq[i]?=some seq[i]:=by simp[hi1]
  have ai:=Pn si;have aj:=Pn sj;have ej:((j:Int)+1)=((j+1:Nat):Int):=by omega
  have hf:D9 ps.length:=Bp (by omega);by_cases h:r=0
  .obtain⟨τ',ps',z',q,l,o⟩:=GO seq dense hd s1 z4 i k (j+1) τ1 (ps++[((seq[i]:Int),(seq[j]:Int))]) (some (.im (.int (j:Int)))) (by omega) (by omega) (by simp;omega) (by
    intro p hp;rcases mem_append.mp hp with hp|hp
    .exact ho p hp
    .simp at hp;exact⟨i,j,_,_,hij,si,sj,hp⟩)
   refine⟨τ',ps',z',?_,by simp at l;omega,o⟩;rw[<- q,Ai,ej];refine Cg (ls1:=[some (.mu 1),s1,some (.mu 2),some (.mu 3),z4,some (.im (.int dense)),some (.mu 4),some (.im (.int (i:Int))),some (.im (.int (j:Int)))]) rfl ?_ (AU _);simp only[Em,QB,JY,KY];rw[e1 _ _ _ _ rfl rfl];simp only[bind_some,OS,NB,ZU,h,decide_true,Bool.false_eq_true,if_false,if_true,NC,OR,EJ,List.getElem?_cons_zero,List.getElem?_cons_succ,Il,Wg,Fc,ZN,KY,TU,Nf,Wh,ai,aj,map_some,Fa,length_cons,length_nil,Nat.reduceAdd,EI,Vn,Lo,length_map,hf];simp[Ax,tp]
  .obtain⟨τ',ps',z',q,l,o⟩:=GO seq dense hd s1 z4 i k (j+1) τ1 ps (some (.im (.int (j:Int)))) (by omega) (by omega) (by omega) ho;refine⟨τ',ps',z',?_,by omega,o⟩;rw[<- q,Ai,ej];refine Cg (ls1:=[some (.mu 1),s1,some (.mu 2),some (.mu 3),z4,some (.im (.int dense)),some (.mu 4),some (.im (.int (i:Int))),some (.im (.int (j:Int)))]) rfl ?_ (AU _);simp only[Em,QB,JY,KY];rw[e1 _ _ _ _ rfl rfl];simp[h]
def HZ(seq:List Nat)(hn:seq.length<=8)(dense:Int)(hd:0<dense/\dense<=100)(z4:Option D):∀(k i:Nat) (τ:Tp) (ps:List (Int×Int)) (z7 z8:Option D),i+k=seq.length->ps.length<=7*i->Along seq ps->∃(τ':Tp) (ps':List (Int×Int)) (z7' z8':Option D),
 BR (AG 7) (BO (E4 (A1 (mOp AE (A2 7) (mC (.int 1))) (A1 (A2 1) A5))) (AG 8) Em) [] (Ai (i:Int) k) [some (.mu 1),some (.im (.int (seq.length:Int))),some (.mu 2),some (.mu 3),z4,some (.im (.int dense)),some (.mu 4),z7,z8] (tp τ++[.lst [],.lst (Av seq),.lst (ps.map Ax)]) =
  some (.nx [some (.mu 1),some (.im (.int (seq.length:Int))),some (.mu 2),some (.mu 3),z4,some (.im (.int dense)),some (.mu 4),z7',z8'],tp τ'++[.lst [],.lst (Av seq),.lst (ps'.map Ax)])/\ps'.length<=7*seq.length/\Along seq ps'
 |0,i,τ,ps,z7,z8,hi,hl,ho=>⟨τ,ps,z7,z8,Dy,by omega,ho⟩
 |k+1,i,τ,ps,z7,z8,hi,hl,ho=>by
  obtain⟨τ1,ps1,y8,q1,l1,o1⟩:=GO seq dense hd (some (.im (.int (seq.length:Int)))) z4 i (seq.length-(i+1)) (i+1) τ ps z8 (by omega) (by omega) (by omega) ho;obtain⟨τ',ps',x7,x8,q,l,o⟩:=HZ seq hn dense hd z4 k (i+1) τ1 ps1 (some (.im (.int (i:Int)))) y8 (by omega) (by omega) o1;refine⟨τ',ps',x7,x8,?_,l,o⟩;have ei:((i:Int)+1)=((i+1:Nat):Int):=by omega
  rw[<- q,Ai,ei];refine Cg (ls1:=[some (.mu 1),some (.im (.int (seq.length:Int))),some (.mu 2),some (.mu 3),z4,some (.im (.int dense)),some (.mu 4),some (.im (.int (i:Int))),z8]) rfl ?_ (AU _);have rg:LK ((i+1:Nat):Int) (seq.length:Int):=UK (by omega) (by omega) (by omega) (by omega);have en:((seq.length:Int)-((i+1:Nat):Int)).toNat=seq.length-(i+1):=by omega
  have e0:(E4 (A1 (mOp AE (A2 7) (mC (.int 1))) (A1 (A2 1) A5))) [some (.mu 1),some (.im (.int (seq.length:Int))),some (.mu 2),some (.mu 3),z4,some (.im (.int dense)),some (.mu 4),some (.im (.int (i:Int))),z8] (tp τ++[.lst [],.lst (Av seq),.lst (ps.map Ax)])=some ((Ai ((i+1:Nat):Int) (seq.length-(i+1)),[]),tp τ++[.lst [],.lst (Av seq),.lst (ps.map Ax)]):=by
   simp only[NA,Fc,KY,EJ,List.getElem?_cons_zero,List.getElem?_cons_succ,bind_some,OS,AE,NB,JX,ag,map_some,Fa,ei,rg,if_true,en]
  rw[Ln,e0];exact q1
def Sf(xs:List D)(k:Nat):Bj xs none (some (k:Int))=xs.take k:=by
 unfold Bj;rw[HT.sIx_none,HT.sIx_nat,Nat.sub_zero,List.drop_zero];by_cases h:k<=xs.length
 .rw[Nat.min_eq_left h]
 .rw[Nat.min_eq_right (by omega),List.take_length,take_of_length_le (by omega)]
def Nt(n:Nat):Ai 0 n=Av (List.range n):=by
 refine ext_getElem? λi=>?_;by_cases h:i<n
 .rw[Ft h];simp[h]
 .rw[List.getElem?_eq_none (by simp;omega),List.getElem?_eq_none (by simp;omega)]
def Along.pok{seq:List Nat}{n:Nat}(hp:seq.Perm (List.range n))(hn:n<=1000){ps:List (Int×Int)}(h:Along seq ps):∀p∈ps,pok p:=by
 intro p hp';obtain⟨i,j,a,b,_,ea,eb,rfl⟩:=h p hp';have ha:a<n:=by simpa using hp.mem_iff.mp (mem_of_getElem? ea)
 have hb:b<n:=by simpa using hp.mem_iff.mp (mem_of_getElem? eb)
 exact⟨by show -1000000000<=(a:Int);omega,by show(a:Int)<=1000000000;omega,by show -1000000000<=(b:Int);omega,by show(b:Int)<=1000000000;omega⟩
def MJ(τ:Tp)(n:Nat)(hn:n<=8):∃(seq:List Nat) (ps:List (Int×Int)) (τ':Tp) (g:Hd),seq.Perm (List.range n)/\Along seq ps/\ps.length<=16/\ps.Pairwise (λa b=>C6 a<=C6 b)/\F_wishes [.mu 1,.im (.int (n:Int))] (tp τ)=some (.im (.tup (ps.map O7)),tp τ'++g):=by
 obtain⟨τ1,seq,z4,q1,pm⟩:=Jq (some (.im (.int (n:Int)))) none none none none none (Ai 0 n) τ (List.range n) [] none (by simp) (by simp;omega);simp only[nil_append]at pm;have sl:seq.length=n:=by simpa using pm.length_eq
 obtain⟨r,τ2,d2⟩:=draw τ1 3 (by decide) (by decide);have e2:=d2.c;have a2:=d2.lo;have b2:=d2.hi;have hx:∃x:Int,(0<x/\x<=100)/\atI [D.im (.int 2),.im (.int 3),.im (.int 6)] r=some (.im (.int x)):=by
  have:r=0∨r=1∨r=2:=by omega
  rcases this with rfl|rfl|rfl
  .exact⟨2,by omega,M8 _ _⟩
  .exact⟨3,by omega,Je _ _ _⟩
  .exact⟨6,by omega,Zk _ _ _ _⟩
 obtain⟨dense,hd,hx⟩:=hx;obtain⟨τ3,ps,z7,z8,q3,l3,o3⟩:=HZ seq (by omega) dense hd z4 n 0 τ2 [] none none (by omega) (by simp) (λp h=>by cases h);have pk:=o3.pok pm (by omega);have sub:((Bt ps).take 16).Sublist (Bt ps):=List.take_sublist _ _;refine⟨seq,(Bt ps).take 16,τ3,[.lst [],.lst (Av seq),.lst (ps.map Ax),.lst ((Bt ps).map Ax)],pm,λp h=>o3 p ((Fq ps).mem_iff.mp (sub.subset h)),by simp;omega,(GR ps).sublist sub,?_⟩;have rgl:KN (n:Int):=Ra (by omega) (by omega);have rg:Et (n:Int):=Dt (by omega) (by omega);have c64:ps.length<64/\∀q∈ps,pok q:=⟨by omega,pk⟩
 have cut:=Sf ((Bt ps).map Ax) 16;have mk:AK (((Bt ps).map Ax).take 16)=.im (.tup (((Bt ps).take 16).map O7)):=by
  have:((Bt ps).map Ax).take 16=(((Bt ps).take 16).map O7).map D.im:=by rw[<- List.map_take,map_map];rfl
  rw[this,DG]
 rw[sl]at q3;rw[show((0:Nat):Int)=0 from rfl]at q3;simp only[map_nil]at q1 q3;rw[<- Nt]at q1;have cut':Bj ((Bt ps).map Ax) none (some 16)=((Bt ps).map Ax).take 16:=cut;have tp5:(tp τ3++[MO.lst [],MO.lst (Av seq),MO.lst (ps.map Ax),MO.lst ((Bt ps).map Ax)])[5]?=some (.lst ((Bt ps).map Ax)):=rfl;simp only[F_wishes,mkF,d6,Do,D3,Ll,ZQ,Fc,Fa,EJ,map_cons,map_nil,length_cons,length_nil,cons_append,nil_append,List.replicate,Nat.reduceAdd,Nat.reduceSub,if_true,List.getElem?_cons_zero,List.getElem?_cons_succ,bind_some,rgl,toNat_natCast,Fb,map_some,set_cons_succ,set_cons_zero,Oq,Lm,Cw,length_append,append_assoc,Ln,Q8,rg,q1];rw[Q6];simp only[Lm,Fc,OS,Fa,bind_some,length_cons,length_nil,Nat.reduceAdd,Aq,if_true];rw[e2 _ _ _ rfl];simp only[bind_some,hx,map_some,Fb,set_cons_succ,set_cons_zero,append_assoc,cons_append,nil_append,Oq,length_append,length_cons,length_nil,Nat.reduceAdd,rg,if_true,toNat_natCast,q3,ZR,QC,ZP,Ll,OQ,Q9,EJ,List.getElem?_cons_zero,List.getElem?_cons_succ,Wg,O6,if_pos c64,Q5,N9,OS,Il,tp5,cut',BQ,mk]
abbrev AS(xs:List Int):List D:=xs.map λx=>D.im (.int x)
def g0(hd:Hd)(x y:MO):(hd++[x,y])[hd.length]?=some x:=by simp
def g1(hd:Hd)(x y:MO):(hd++[x,y])[hd.length+1]?=some y:=by simp
def t0(hd:Hd)(x y z:MO):(hd++[x,y]).set hd.length z=hd++[z,y]:=by simp
def t1(hd:Hd)(x y z:MO):(hd++[x,y]).set (hd.length+1) z=hd++[x,z]:=by simp
end Bd
namespace L2
open PySem PySem.Spec PyProof.Rows
def Cd(p:Key×D)(r:List (Key×D))(k:Key):B1 (p::r) k=if p.1=k then some p.2 else B1 r k:=by
 unfold B1;rw[find?_cons];by_cases e:p.1=k<;>simp[e]
def Kv(k:Key):∀kvs:List (Key×D),(kvs.any λkv=>decide (kv.1=k))=(B1 kvs k).isSome
 |[]=>rfl
 |p::r=>by
  rw[any_cons,Cd];by_cases e:p.1=k
  .simp[e]
  .rw[if_neg e,decide_eq_false e,Bool.false_or];exact Kv k r
def Ku(k j:Key)(y:D):∀kvs:List (Key×D),B1 (kvs.map λkv=>if kv.1=k then(kv.1,y)else kv) j=(B1 kvs j).map λx=>if j=k then y else x
 |[]=>rfl
 |p::r=>by
  have ih:=Ku k j y r;rw[map_cons,Cd,Cd,ih];by_cases h:p.1=k
  .rw[if_pos h];by_cases e:p.1=j
   .have:j=k:=e.symm.trans h;simp[e,this]
   .simp[e]
  .rw[if_neg h];by_cases e:p.1=j
   .have:¬ j=k:=λz=>h (e.trans z);simp[e,this]
   .simp[e]
def Jk(k j:Key)(y:D):∀kvs:List (Key×D),B1 kvs k=none->B1 (kvs++[(k,y)]) j=if j=k then some y else B1 kvs j
 |[],_=>by
  rw[nil_append,Cd];by_cases e:k=j
  .subst e;simp
  .have:¬ j=k:=λz=>e z.symm;simp[e,this]
 |p::r,hn=>by
  rw[Cd]at hn;have hk:¬ p.1=k:=λz=>by rw[if_pos z]at hn;cases hn
  rw[if_neg hk]at hn;have ih:=Jk k j y r hn;rw[cons_append,Cd,Cd,ih];by_cases e:p.1=j
  .have:¬ j=k:=λz=>hk (e.trans z);simp[e,this]
  .simp[e]
def Kt(kvs:List (Key×D))(k j:Key)(y:D):B1 (Bm kvs k y) j=if j=k then some y else B1 kvs j:=by
 unfold Bm;rw[Kv];by_cases a:(B1 kvs k).isSome=true
 .rw[if_pos a,Ku];by_cases e:j=k
  .subst e;obtain⟨x,hx⟩:=isSome_iff_exists.mp a;simp[hx]
  .simp[e]
 .rw[if_neg a];exact Jk k j y kvs (by simpa using a)
def LV(kvs:List (Key×D))(k:Key)(y:D):(Bm kvs k y).length<=kvs.length+1:=by
 unfold Bm;split<;>simp
section
variable{ls:Ls}{hd:Hd}{QE:D->Hd->Prop}{QI:List D×Gd->Hd->Prop}{ma:ME}{n:MG}{ta:MT}{mi:MI}{m:MA}
def Ss{g:Gd}{QA:List D->Hd->Prop}(P:List D->List D->Ls->Hd->Prop){ds:List D}{ls:Ls}{hd:Hd}(h:P ds [] ls hd)
 (k:∀d r es ls hd,P (d::r) es ls hd->∃ls1,n d ls hd=some ls1/\WT ta ls1 hd λc x=>if c=true then WE ma ls1 x λz y=>GOk y g/\P r (es++[z]) ls1 y else GOk x g/\P r es ls1 x)
 (z:∀es ls hd,P [] es ls hd->QA es hd):WP (As n ta ma g ds ls hd) QA:=
 (Ko P h k).mono λzs x ⟨ls',q⟩=>z zs ls' x (by simpa using q)
def C3{α:Type}{g:Gd}{QA:List D->Hd->Prop}(inj:α->D)(f:α->Option D)(L:D->Ls->Prop)(l0:Ls){xs:List α}{hd:Hd}(hg:GOk hd g)
 (k:∀x∈xs,∀ls,ls=l0∨(∃d,L d ls)->∃ls1,n (inj x) ls hd=some ls1/\L (inj x) ls1/\WT ta ls1 hd λc y=>y=hd/\if c=true then ∃z,f x=some z/\WE ma ls1 hd λe y=>y=hd/\e=z else f x=none)
 (q:QA (xs.filterMap f) hd):WP (As n ta ma g (xs.map inj) l0 hd) QA:=by
 have go:∀(xs':List α) (ls:Ls),(∀x∈xs',x∈xs)->(ls=l0∨∃d,L d ls)->As n ta ma g (xs'.map inj) ls hd=some (xs'.filterMap f,hd):=by
  intro xs'
  induction xs' with
  |nil=>intro ls _ _;unfold As;rfl
  |cons x r ih=>
   intro ls hs hl;obtain⟨ls1,e1,L1,c,y,e2,rfl,q⟩:=k x (hs x mem_cons_self) ls hl;have ih:=ih ls1 (λz hz=>hs z (mem_cons_of_mem _ hz)) (.inr ⟨_,L1⟩);rw[map_cons];unfold As;rw[e1,bind_some,e2,bind_some];cases c with
   |true=>
    rw[if_pos rfl]at q;obtain⟨z,ez,e,y,e3,rfl,rfl⟩:=q;rw[if_pos rfl,e3,bind_some];dsimp only;rw[if_pos hg,ih,filterMap_cons,ez];rfl
   |false=>
    rw[if_neg Bool.false_ne_true]at q;rw[if_neg Bool.false_ne_true];dsimp only;rw[if_pos hg,ih,filterMap_cons,q]
 exact⟨_,_,go xs l0 (λ_ h=>h) (.inl rfl),q⟩
end
section
variable{K:PySem.W.Frag}{ρ ρ':List Addr}{H H':Hp}{hd hd':Hd}
def IB(neg:Bool)(ma:ME)(ml:MA):ME:=λls hd=>(ma ls hd).bind λp=>(ml ls p.2).bind λq=>match p.1 with
 |.im i=>(GB i).bind λx=>(Ci q.1).map λxs=>(.im (.bl (if neg then !inV x xs else inV x xs)),q.2)
 |_=>none
def XV{neg:Bool}{ta tb:TE}{ma:ME}{ml:MA}(ha:RE K ta ma)(hb:RN K tb ml):RE K (tOp (rIn K neg) ta tb) (IB neg ma ml):=by
 and_intros;obtain⟨⟨d1,h1⟩,e1,hm⟩:=dF hm;obtain⟨⟨d2,h2⟩,e2,hm⟩:=dF hm;dsimp only at hm;split at hm
 .obtain⟨x,e3,hm⟩:=dF hm;obtain⟨xs,e4,e5⟩:=dG hm;cases e5;refine ha ρ σ H hd ls _ _ h1 hR hL e1 λρ1 H1 v1 x1 R1 r1=>?_;refine hb ρ1 σ H1 h1 ls _ d2 _ R1 (hL.ext hR x1) e2 λρ2 H2 a ys x2 R2 na oa ea r2=>?_;have r1:=r1.ext R1 x2;simp only[RD]at r1;obtain⟨rfl,f1⟩:=Lj e3 r1;obtain⟨rfl,f2⟩:=Jx e4 r2;exact⟨a,ys,rfl,.inl (SqL.of ea),f1,f2,hQ ρ2 H2 _ (x1.trans R1 x2) R2 (by simp[RD,RI])⟩
 .cases hm
def Ug(K:PySem.W.Frag){X:Cx}{a b:Expr}{ta tb:TE}{ma:ME}{ml:MA}{pos:Pos}{op:CmpOp}{neg:Bool}(ho:OpR X (compareOp op) (rIn K neg))(ha:QE K X a ta ma)(hb:QN K X b tb ml)(hm:behindInMarks op b=false:=by first|exact FS _|rfl):QT K X (.Compare a [op] [b] pos) (HB (tOp (rIn K neg) ta tb)) (AR (IB neg ma ml)):=⟨HH ho ha.p hb.p hm,Ee (XV ha.r hb.r)⟩
end
section
variable{ls:Ls}{hd:Hd}{ma mb:ME}{m ml:MA}{QE:D->Hd->Prop}{QA:List D->Hd->Prop}
def Om{neg:Bool}(h:WE ma ls hd λd x=>WA ml ls x λds y=>∃i v vs,d=.im i/\GB i=some v/\Ci ds=some vs/\QE (.im (.bl (if neg then !inV v vs else inV v vs))) y):WE (IB neg ma ml) ls hd QE:=by
 obtain⟨d,x,e1,ds,y,e2,i,v,vs,rfl,e3,e4,q⟩:=h;exact⟨_,_,by simp only[IB,e1,bind_some,e2,e3,e4,map_some],q⟩
end
section
variable{ls:Ls}{hd:Hd}{ma:ME}{n n2:MG}{c c2:MT}{mi mi2:MI}{QE:D->Hd->Prop}
def JB{k:Nat}{g:Gd}{Q:Ls->Hd->Prop}(P:List D->Ls->Hd->Prop):∀{ds:List D} {ls:Ls} {hd:Hd},P ds ls hd ->
 (∀d r ls hd,P (d::r) ls hd->∃ls1,n2 d ls hd=some ls1/\WT c2 ls1 hd λt x=>if t=true then WE ma ls1 x λz y=>WP (Ao (.mu k) [z] y) λ_ u=>GOk u g/\P r ls1 u else GOk x g/\P r ls1 x) ->
 (∀ls hd,P [] ls hd->Q ls hd)->∃l h,mIn k n2 c2 ma g ds ls hd=some (l,h)/\Q l h
 |[],ls,hd,h,_,z=>⟨_,_,by unfold mIn;rfl,z _ _ h⟩
 |d::r,ls,hd,h,s,z=>by
  obtain⟨ls1,e1,t,x,e2,q⟩:=s d r ls hd h;unfold mIn;rw[e1,bind_some,e2,bind_some];cases t with
  |true=>
   rw[if_pos rfl]at q ⊢;obtain⟨z',y,e3,w,u,e4,g4,p4⟩:=q;rw[e3,bind_some,e4,bind_some];dsimp only;rw[if_pos g4];exact JB P p4 s z
  |false=>
   rw[if_neg Bool.false_ne_true]at q ⊢;dsimp only;rw[if_pos q.1];exact JB P q.2 s z
def J9{k:Nat}{g:Gd}{Q:Hd->Prop}(P:List D->Ls->Hd->Prop):∀{ds:List D} {ls:Ls} {hd:Hd},P ds ls hd ->
 (∀d r ls hd,P (d::r) ls hd->∃ls1,n d ls hd=some ls1/\WT c ls1 hd λt x=>if t=true then WI mi2 ls1 x λp y=>∃l h,mIn k n2 c2 ma p.2 p.1 ls1 y=some (l,h)/\GOk h g/\P r l h else GOk x g/\P r ls1 x) ->
 (∀ls hd,P [] ls hd->Q hd)->∃h,EO k n c mi2 n2 c2 ma g ds ls hd=some h/\Q h
 |[],ls,hd,h,_,z=>⟨_,by unfold EO;rfl,z _ _ h⟩
 |d::r,ls,hd,h,s,z=>by
  obtain⟨ls1,e1,t,x,e2,q⟩:=s d r ls hd h;unfold EO;rw[e1,bind_some,e2,bind_some];cases t with
  |true=>
   rw[if_pos rfl]at q ⊢;obtain⟨p,y,e3,l,h,e4,g4,p4⟩:=q;rw[e3,bind_some];dsimp only;rw[e4,bind_some];dsimp only;rw[if_pos g4];exact J9 P p4 s z
  |false=>
   rw[if_neg Bool.false_ne_true]at q ⊢;dsimp only;rw[if_pos q.1];exact J9 P q.2 s z
def Qm{j:Nat}{ix:List Nat}(h:WI mi ls hd λp x=>∃y,EO x.length n c mi2 n2 c2 ma p.2 p.1 (E8 j ix ls) (x++[.lst []])=some y/\QE (.mu x.length) y):WE (Cu j ix mi n c mi2 n2 c2 ma) ls hd QE:=by
 obtain⟨p,x,e,y,e2,q⟩:=h;exact⟨_,_,by rw[Sd,e,bind_some];dsimp only;rw[e2];rfl,q⟩
end
abbrev blD(bs:List Bool):List D:=bs.map λb=>D.im (.bl b)
def Li(bs:List Bool):Ci (blD bs)=some (bs.map V.bl):=by
 induction bs with
 |nil=>rfl
 |cons b r ih=>simp only[blD,map_cons,Ci,GB,bind_some]at ih ⊢;rw[ih];rfl
def N8(x:Bool)(bs:List Bool):inV (.bl x) (bs.map V.bl)=decide (x∈bs):=by
 unfold inV
 induction bs with
 |nil=>simp
 |cons b r ih=>
  have e:eqV (.bl b) (.bl x)=decide (x=b):=by
   show(b==x)=_;cases b<;>cases x<;>rfl
  rw[map_cons,any_cons,ih,e];simp only[mem_cons,Bool.decide_or]
inductive Ty where
 |int|bool|str|tuple|list
 deriving DecidableEq
def Ty.nm:Ty->String
 |.int=>"int" | .bool=>"bool" | .str=>"str" | .tuple=>"tuple" | .list=>"list"
def IsT(K:PySem.W.Frag)(T:Ty)(H:Hp)(v:V)(b:Bool):Prop:=
 (v=.non/\b=false)∨(∃x,v=.bl x/\b=decide (T=.int∨T=.bool))∨(∃i,v=.int i/\b=decide (T=.int))∨(∃x,v=.str x/\b=decide (T=.str)) ∨
 (∃a xs,v=.ref a/\SqL K H a xs/\b=decide (T=.list))∨∃a xs,v=.ref a/\SqT K H a xs/\b=decide (T=.tuple)
section
variable{X:Cx}{pins:List (Addr×Obj)}{σ:St}{H:Hp}{s:Shared}{A:Around}{E:Value->Shared->Prop}{Q:Value->Shared->Prop}
def ZB{T:Ty}{v:V}{u:Value}{b:Bool}(I:Inv X pins σ H s)(r:RelV v u)(h:IsT X.K T H v b)(q:∀tk,Q (.bool b) { s with toks:=tk }):wpAny (model X.prog X.w) A (call (.builtin "isinstance") [u,.type T.nm]) Q E s:=by
 have q0:=q s.toks;have q1:=q (s.toks+1);rcases h with⟨rfl,rfl⟩|⟨x,rfl,rfl⟩|⟨i,rfl,rfl⟩|⟨x,rfl,rfl⟩|⟨a,xs,rfl,hl,rfl⟩|⟨a,xs,rfl,ht,rfl⟩
 .cases(show u=Value.none from r);cases T
  .exact IsiPair.NoneType_int q1
  .exact IsiPair.NoneType_bool q1
  .exact IsiPair.NoneType_str q1
  .exact IsiPair.NoneType_tuple q1
  .exact IsiPair.NoneType_list q1
 .cases(show u=Value.bool x from r);cases T
  .first|exact IsiPair.bool_int q0|exact IsiPair.bool_int q1
  .first|exact IsiPair.bool_bool q0|exact IsiPair.bool_bool q1
  .exact IsiPair.bool_str q1
  .exact IsiPair.bool_tuple q1
  .exact IsiPair.bool_list q1
 .obtain⟨t,rfl⟩:=(show ∃t,u=Value.int i t from r)
  cases T
  .exact IsiPair.int_int q0
  .exact IsiPair.int_bool q1
  .exact IsiPair.int_str q1
  .exact IsiPair.int_tuple q1
  .exact IsiPair.int_list q1
 .obtain⟨t,rfl⟩:=(show ∃t,u=Value.str x t from r)
  cases T
  .exact IsiPair.str_int q1
  .exact IsiPair.str_bool q1
  .exact IsiPair.str_str q0
  .exact IsiPair.str_tuple q1
  .exact IsiPair.str_list q1
 .cases(show u=Value.ref a from r);obtain⟨its,_,⟨o,n,e,c,_,_⟩,_⟩:=I.list hl;cases T
  .exact IsiPair.list_int e c q1
  .exact IsiPair.list_bool e c q1
  .exact IsiPair.list_str e c q1
  .exact IsiPair.list_tuple e c q1
  .exact IsiPair.list_list e c q0
 .cases(show u=Value.ref a from r);obtain⟨its,_,⟨o,e,c,_⟩,_⟩:=I.tuple ht;cases T
  .exact IsiPair.tuple_int e c q1
  .exact IsiPair.tuple_bool e c q1
  .exact IsiPair.tuple_str e c q1
  .exact IsiPair.tuple_tuple e c q0
  .exact IsiPair.tuple_list e c q1
end
def R9(K:PySem.W.Frag)(T:Ty)(te:TE):TE:=λσ H Q=>te σ H λv H1=>∃b,IsT K T H1 v b/\Q (.bl b) H1
def Yh(K:PySem.W.Frag){X:Cx}(T:Ty){e:Expr}{te:TE}{x:Str}{p px pos:Pos}(hm:X.mg "isinstance"=none)(hmT:X.mg x=none)(hvT:bootBuiltins x=some (.type T.nm))(he:PE X e te)
 (hv:bootBuiltins "isinstance"=some (.builtin "isinstance")) (hK:X.K=K) (hg:Gl X "isinstance") (hgT:Gl X x) (hnT:x≠"__name__") (hdT:(x==("__debug__":Str))=false)
 (hs:starEach [e,.Name x px] X.env=[(false,eval e X.env),(false,eval (.Name x px) X.env)]) (hs2:starEach [.Name x px] X.env=[(false,eval (.Name x px) X.env)]):PE X (.Call (.Name "isinstance" p) [e,.Name x px] [] pos) (R9 K T te):=by
 subst hK;intro pins s σ H Q I h;refine wpAny_Call_Name_kw (F0 I hg hm hv ?_);have go:wpAny (model X.prog X.w) X.A (spliced (backTo pos (starEach [e,.Name x px] X.env))) (λvs s₁=>wpAny (model X.prog X.w) X.A (call (.builtin "isinstance") vs) (EP X pins σ Q) X.xe s₁) X.xe s:=by
  rw[hs];show wpAny _ _ (spliced ((false,eval e X.env)::backTo pos [(false,eval (.Name x px) X.env)])) _ _ s;refine Calls.spliced_cons (thn (he pins s σ H _ I h) λu s1 ⟨v,H1,I1,r1,b,ib,q1⟩=>?_);show wpAny _ _ (spliced ((false,eval (.Name x px) X.env)::backTo pos [])) _ _ s1;refine Calls.spliced_cons (F0 I1 hgT hmT hvT ?_ hnT hdT);refine Calls.spliced_nil ?_;exact ZB I1 r1 ib λtk=>⟨.bl b,H1,I1.tok _,rfl,q1⟩
 exact PyProof.Rows.callWith_builtin1 go (by rw[hs,hs2]) (by rw[hs2];rfl)
section
variable{K:PySem.W.Frag}{ρ ρ':List Addr}{H H':Hp}{hd hd':Hd}
def isD(T:Ty)(hd:Hd):D->Option Bool
 |.im .non=>some false
 |.im (.bl _)=>some (decide (T=.int∨T=.bool))
 |.im (.int _)=>some (decide (T=.int))
 |.im (.str _)=>some (decide (T=.str))
 |.im (.tup _)=>some (decide (T=.tuple))
 |.tm _=>some (decide (T=.tuple))
 |.ro _=>some (decide (T=.list))
 |.mu n=>match hd[n]? with
  |some (.lst _)=>some (decide (T=.list))
  |_=>none
def ZC{T:Ty}{d:D}{v:V}{b:Bool}(hR:RH K ρ H hd)(h:RD K ρ H d v)(e:isD T hd d=some b):IsT K T H v b:=by
 cases d with
 |im i=>
  cases i with
  |non=>simp only[RD,RI]at h;subst h;simp only[isD,Option.some.injEq]at e;exact .inl ⟨rfl,e.symm⟩
  |bl c=>simp only[RD,RI]at h;subst h;simp only[isD,Option.some.injEq]at e;exact .inr (.inl ⟨c,rfl,e.symm⟩)
  |int c=>simp only[RD,RI]at h;subst h;simp only[isD,Option.some.injEq]at e;exact .inr (.inr (.inl ⟨c,rfl,e.symm⟩))
  |str c=>simp only[RD,RI]at h;subst h;simp only[isD,Option.some.injEq]at e;exact .inr (.inr (.inr (.inl ⟨c,rfl,e.symm⟩)))
  |tup is=>
   obtain⟨a,xs,rfl,q,r⟩:=h.tup (ds:=is.map .im) rfl;simp only[isD,Option.some.injEq]at e;exact .inr (.inr (.inr (.inr (.inr ⟨a,xs,rfl,q,e.symm⟩))))
 |tm ds=>
  obtain⟨a,xs,rfl,q,r⟩:=h.tup (ds:=ds) rfl;simp only[isD,Option.some.injEq]at e;exact .inr (.inr (.inr (.inr (.inr ⟨a,xs,rfl,q,e.symm⟩))))
 |ro ns=>
  obtain⟨a,xs,rfl,q,r⟩:=h.lst hR (hd:=hd) (ds:=ns.map λn=>.im (.int n)) rfl;simp only[isD,Option.some.injEq]at e;exact .inr (.inr (.inr (.inr (.inl ⟨a,xs,rfl,q,e.symm⟩))))
 |mu n=>
  simp only[isD]at e;split at e
  .next q=>
   cases e;simp only[RD]at h;obtain⟨a,hn,rfl⟩:=h;obtain⟨xs,e1,e2⟩:=hR.lst hn q;exact .inr (.inr (.inr (.inr (.inl ⟨a,xs,rfl,SqL.of e1,rfl⟩))))
  .cases e
def By(T:Ty)(ma:ME):ME:=λls hd=>(ma ls hd).bind λp=>(isD T p.2 p.1).map λb=>(.im (.bl b),p.2)
def XU{T:Ty}{te:TE}{me:ME}(h:RE K te me):RE K (R9 K T te) (By T me):=by
 and_intros;obtain⟨⟨d1,h1⟩,e1,hm⟩:=dF hm;obtain⟨b,e2,e3⟩:=dG hm;cases e3;exact h ρ σ H hd ls _ d1 _ hR hL e1 λρ1 H1 v x1 R1 r1=>⟨b,ZC R1 r1 e2,hQ ρ1 H1 _ x1 R1 (by simp[RD,RI])⟩
def J1:∀T:Ty,bootBuiltins T.nm=some (.type T.nm)
 |.int=>by decide +kernel
 |.bool=>by decide +kernel
 |.str=>by decide +kernel
 |.tuple=>by decide +kernel
 |.list=>by decide +kernel
def Ia(K:PySem.W.Frag){X:Cx}(T:Ty){e:Expr}{te:TE}{me:ME}{x:Str}{p px pos:Pos}(hm:X.mg "isinstance"=none)(hmT:X.mg x=none)(he:QE K X e te me)(hx:bootBuiltins x=some (.type T.nm):=by first|exact J1 .int|exact J1 .bool|exact J1 .str|exact J1 .tuple|exact J1 .list)(hK:X.K=K:=by rfl)(hg:Gl X "isinstance":=by rfl)(hgT:Gl X x:=by rfl)
 (hnT:x≠"__name__":=by decide) (hdT:(x==("__debug__":Str))=false:=by decide)
 (hs:starEach [e,.Name x px] X.env=[(false,eval e X.env),(false,eval (.Name x px) X.env)]:=by rfl) (hs2:starEach [.Name x px] X.env=[(false,eval (.Name x px) X.env)]:=by rfl):QE K X (.Call (.Name "isinstance" p) [e,.Name x px] [] pos) (R9 K T te) (By T me):=
 ⟨Yh K T hm hmT hx he.p KH hK hg hgT hnT hdT hs hs2,XU he.r⟩
def HI(mo mi me:ME)(f:Int->Int->Int):MS:=λls hd=>(mo ls hd).bind λp=>(mi ls p.2).bind λq=>match p.1,q.1 with
 |.mu n,.im (.int i)=>match q.2[n]? with
  |some (.lst ds)=>(ixN ds.length i).bind λj=>match ds[j]? with
   |some (.im (.int x))=>(me ls q.2).bind λr=>match r.1,r.2[n]? with
    |.im (.int y),some (.lst ds')=>if ds'.length=ds.length then some (.nx ls,r.2.set n (.lst (ds'.set j (.im (.int (f x y))))))else none
    |_,_=>none
   |_=>none
  |_=>none
 |_,_=>none
def Pa(K:PySem.W.Frag){X:Cx}(hK:X.K=K:=by rfl):Zn X (JI K):=by
 subst hK;intro pins s σ H o i ov iv Q I ro ri h;obtain⟨p,xs,k,z,rfl,rfl,hq,he,q⟩:=h;cases ro;obtain⟨t,rfl⟩:=ri;obtain⟨its,r,pl,hz⟩:=I.list hq;obtain⟨j,h1,h2,h3,h4,h5⟩:=Jf he;obtain⟨w,ew,rw'⟩:=r.get h2;have hl:=r.length;have hn:=FX;have fin:EP X pins σ Q w s:=⟨z,H,I,rw',q⟩
 by_cases h0:0<=k
 .have hj:k.toNat=j:=by
   rw[seqIndex_of h0 h5]at h1;exact Option.some.inj h1
  exact wpAny_getItem_list pl.isList h0 (by omega) (by rw[hj];simpa using ew) fin
 .have hj:(k+(its.toArray.size:Int)).toNat=j:=by
   rw[seqIndex_neg (by omega) h4]at h1;rw[size_toArray,<- hl];exact Option.some.inj h1
  exact wpAny_getItem_list_neg pl.isList (by omega) (by rw[size_toArray]<;>omega) (by omega) (by rw[hj];simpa using ew) fin
def W9(x:Ext ρ H ρ' H'){n:Nat}{a:Addr}(h:ρ[n]?=some a):ρ'[n]?=some a:=by
 obtain⟨r,rfl,_⟩:=x.pre;rw[List.getElem?_append_left (List.getElem?_eq_some_iff.mp h).1];exact h
def UF{to ti te:TE}{mo mi me:ME}{f:Int->Int->Int}(ho:RE K to mo)(hi:RE K ti mi)(he:RE K te me):RS K (Nc to ti te (JI K) (ipI f) IZ) (HI mo mi me f):=by
 intro ρ σ H hd0 ls E fl hd' hR hL hm hQ;obtain⟨⟨d1,h1⟩,e1,hm⟩:=dF hm;obtain⟨⟨d2,h2⟩,e2,hm⟩:=dF hm;dsimp only at hm;split at hm
 .split at hm
  .next ds q=>
   obtain⟨j,e4,hm⟩:=dF hm;split at hm
   .next x ex=>
    obtain⟨⟨d3,h3⟩,e3,hm⟩:=dF hm;dsimp only at hm;split at hm
    .next y ds' q'=>
     split at hm
     .next el=>
      cases hm;refine ho ρ σ H hd0 ls _ _ h1 hR hL e1 λρ1 H1 v1 x1 R1 r1=>?_;refine hi ρ1 σ H1 h1 ls _ _ _ R1 (hL.ext hR x1) e2 λρ2 H2 v2 x2 R2 r2=>?_;have r1':=r1.ext R1 x2;simp only[RD]at r1';obtain⟨a,hn,rfl⟩:=r1';simp only[RD,RI]at r2;subst r2;obtain⟨xs,l1,l2⟩:=R2.lst hn q;obtain⟨w,ew,rw'⟩:=l2.get ex;simp only[RD,RI]at rw';subst rw';refine⟨a,xs,_,.int x,rfl,rfl,SqL.of l1,?_,?_⟩
      .unfold atI;rw[l2.len];rw[e4];exact ew
      refine he ρ2 σ H2 h2 ls _ _ h3 R2 (hL.ext hR (x1.trans R1 x2)) e3 λρ3 H3 v3 x3 R3 r3=>?_;simp only[RD,RI]at r3;subst r3;refine⟨x,y,rfl,rfl,?_⟩;have hn3:=W9 x3 hn;obtain⟨xs3,l3,l4⟩:=R3.lst hn3 q';obtain⟨R4,x4⟩:=R3.put hn3 (o:=.lst _) (ho:=.lst (xs3.set j (.int (f x y)))) ⟨_,rfl,l4.set j (d:=.im (.int (f x y))) (by simp[RD,RI])⟩;have x13:=(x1.trans R1 x2).trans R2 x3;exact⟨a,xs3,_,j,rfl,rfl,l3,by rw[l4.len,el];exact e4,hQ ρ3 _ (x13.trans R3 x4) R4 σ ((hL.ext hR x13).ext R3 x4)⟩
     .cases hm
    .cases hm
   .cases hm
  .cases hm
 .cases hm
def Up(K:PySem.W.Frag){X:Cx}{o i e:Expr}{to ti te:TE}{mo mi me:ME}{op:Operator}{f:Int->Int->Int}{tpos pos:Pos}(ho:QE K X o to mo)(hi:QE K X i ti mi)(he:QE K X e te me)(hp:PIp X op (ipI f))(hK:X.K=K:=by rfl)
 (ha:∀ov iv new,augStore i ov iv new=(do holding [new,ov,iv] (setItem ov iv new);release [new,ov,iv] [];pure .next):=by intros;rfl):QS K X (.AugAssign (.Subscript o i tpos) op e pos) (Nc to ti te (JI K) (ipI f) IZ) (HI mo mi me f):=
 ⟨VI ho.p hi.p (Pa K hK) he.p hp LC ha,UF ho.r hi.r he.r⟩
end
section
variable{ls:Ls}{hd:Hd}{ma mo mi me:ME}{QE:D->Hd->Prop}{QS:Fl->Hd->Prop}
def Az{T:Ty}(h:WE ma ls hd λd x=>∃b,isD T x d=some b/\QE (.im (.bl b)) x):WE (By T ma) ls hd QE:=by
 obtain⟨d,x,e,b,e2,q⟩:=h;exact⟨_,_,by simp only[By,e,bind_some,e2,map_some],q⟩
end
end L2
namespace HT
open PySem PySem.Spec PyProof.Rows
section
variable{prog:Program}{w:World}{A:Around}{E:Value->Shared->Prop}{s:Shared}
def getItem_tuple_whole{t sl:Addr}{items:Array Value}{vl vu:Value}{lo hi:Option Int}{Q:Value->Shared->Prop}(ht:IsTup s.heap t items)(hs:s.heap.IsSliceOf sl vl vu .none)(pl:IsPart vl lo)(pu:IsPart vu hi)
 (hw:sIx items.size 0 lo=0/\sIx items.size items.size hi=items.size) (h:Q (.ref t) s):wpAny (model prog w) A (getItem (.ref t) (.ref sl)) Q E s:=by
 obtain⟨os,hos,hcs,hds⟩:=id hs;have hTs:s.TypeIs (.ref sl) "slice":=⟨os,hos,hcs⟩
 unfold getItem
 try with_reducible refine wpAny_holding ?_
 first|refine wpAny_bind (wpAny_pure ?_)|skip
 refine wpAny_bind (wpAny_sequenceKey ht.typeIs (by decide) ?_);refine wpAny_bind (wpAny_callSpecial?_slot (name:=Str.ofString "__getitem__") ht.typeIs PyProof.Rows.slot_tuple_getitem
  (wpAny_call_entry PyProof.Rows.slot_tuple_getitem ht.typeIs entry_tuple_getitem ?_ (args_tuple_getitem _ _)))
 show wpAny _ _ (Builtin.Tuple.tupleItemsOf (.ref t) >>= _) _ _ s;refine wpAny_bind (tupleItemsOf_ ht ?_);refine wpAny_bind (wpAny_typeOf hTs ?_);rw[if_pos (by decide)];refine wpAny_bind (Er hs pl pu ?_);have hno:(((sIx items.size 0 lo:Nat):Int)==0&&(1:Int)==1&&(sIx items.size items.size hi-sIx items.size 0 lo)==items.size)=true:=by
  rw[hw.1,hw.2];simp
 show wpAny _ _ (if(((sIx items.size 0 lo:Nat):Int)==0&&(1:Int)==1&&(sIx items.size items.size hi-sIx items.size 0 lo)==items.size)=true then _ else _) _ _ s;rw[if_pos hno];refine wpAny_bind ?_;unfold Builtin.Tuple.tupleIsExact;refine wpAny_bind (wpAny_typeOf ht.typeIs (wpAny_pure ?_));rw[if_pos (by decide)];exact wpAny_bind (wpAny_rule (wpAny_pure ⟨_,rfl,wpAny_pure h⟩))
end
end HT
namespace L2
open PySem PySem.Spec PyProof.Rows
section
variable{X:Cx}
def Rp(K:PySem.W.Frag):V->Option Int->Option Int->Hp->VK->Prop:=λx lo hi H Q=>LQ K x lo hi H Q∨∃a xs,x=.ref a/\SqT K H a xs/\(HT.sIx xs.length 0 lo=0/\HT.sIx xs.length xs.length hi=xs.length)/\Q (.ref a) H
def U3(K:PySem.W.Frag)(hK:X.K=K:=by rfl):SlR X (Rp K):=by
 subst hK;intro pins s σ H x v vl vu lo hi sl Q I rx hs pl pu h;rcases h with h|⟨a,xs,rfl,hx,hw,q⟩
 .exact Ow pins s σ H x v vl vu lo hi sl Q I rx hs pl pu h
 cases rx;obtain⟨its,r,ht,hz⟩:=I.tuple hx;have hlen:its.toArray.size=xs.length:=by rw[size_toArray];exact r.length.symm
 refine⟨"tuple",_,PyProof.Rows.slot_tuple_getitem.lookup,ht.typeIs,?_⟩;exact HT.getItem_tuple_whole ht hs pl pu (by rw[hlen];exact hw) ⟨.ref a,H,I,rfl,q⟩
end
section
variable{K:PySem.W.Frag}{ρ ρ':List Addr}{H H':Hp}{hd hd':Hd}
def Ay(m:ME)(ml mh:MO1):ME:=λls hd=>(m ls hd).bind λp=>(ml ls p.2).bind λl=>(mh ls l.2).bind λh=>(AN p.1).map λds=>(AK (Bj ds l.1 h.1),h.2)
def XR{t:TE}{tl th:TO}{m:ME}{ml mh:MO1}(h:RE K t m)(hl:RO1 K tl ml)(hh:RO1 K th mh):RE K (tSl (Rp K) t tl th) (Ay m ml mh):=by
 and_intros;obtain⟨⟨d1,h1⟩,e1,hm⟩:=dF hm;obtain⟨⟨d2,h2⟩,e2,hm⟩:=dF hm;obtain⟨⟨d3,h3⟩,e3,hm⟩:=dF hm;obtain⟨ds,e4,e5⟩:=dG hm;cases e5;dsimp only at e2 e3 e4;refine h ρ σ H hd ls _ d1 h1 hR hL e1 λρ1 H1 v1 x1 R1 r1=>?_;refine hl ρ1 σ H1 h1 ls _ d2 h2 R1 (hL.ext hR x1) e2 λρ2 H2 x2 R2=>?_;refine hh ρ2 σ H2 h2 ls _ d3 _ R2 (hL.ext hR (x1.trans R1 x2)) e3 λρ3 H3 x3 R3=>?_;obtain⟨a,xs,rfl,q,r⟩:=((r1.ext R1 x2).ext R2 x3).tup e4;by_cases c:HT.sIx ds.length 0 d2=0/\HT.sIx ds.length ds.length d3=ds.length
 .refine .inr ⟨a,xs,rfl,q,by rw[r.len];exact c,?_⟩;have e6:Bj ds d2 d3=ds:=by unfold Bj;rw[c.1,c.2];simp
  rw[e6]at hQ;exact hQ ρ3 _ _ ((x1.trans R1 x2).trans R2 x3) R3 (Ba q r)
 .refine .inl ⟨a,xs,rfl,q,by rw[r.len];exact c,λp hp=>?_⟩;obtain⟨R4,x4⟩:=R3.hid (ho:=.tup (F2 xs d2 d3)) hp;exact hQ ρ3 _ _ (((x1.trans R1 x2).trans R2 x3).trans R3 x4) R4 (Ba (SqT.of Ad) ((Jc r).ext R3 x4))
def Y9(K:PySem.W.Frag){X:Cx}{e:Expr}{te:TE}{me:ME}{lo hi:Option Expr}{tl th:TO}{ml mh:MO1}{p2 pos:Pos}(h:QE K X e te me)(hl:QO K X lo tl ml)(hh:QO K X hi th mh)(hK:X.K=K:=by rfl):QE K X (.Subscript e (.Slice lo hi none p2) pos) (tSl (Rp K) te tl th) (Ay me ml mh):=⟨Fv (U3 K hK) h.p hl.p hh.p,XR h.r hl.r hh.r⟩
def DT{ma:ME}{ls:Ls}{QE:D->Hd->Prop}{ml mh:MO1}(h:WE ma ls hd λd x=>WO ml ls x λl y=>WO mh ls y λu z=>∃ds,AN d=some ds/\QE (AK (Bj ds l u)) z):WE (Ay ma ml mh) ls hd QE:=by
 obtain⟨d,x,e1,l,y,e2,u,z,e3,ds,e4,q⟩:=h;exact⟨_,_,by simp only[Ay,e1,bind_some,e2,e3,e4,map_some],q⟩
end
section
variable{X:Cx}
def WM{prog:Program}{w:World}{A:Around}{E:Value->Shared->Prop}{s:Shared}{t b:Addr}{vs ws:List Value}{Q:Value->Shared->Prop}(ht:IsTup s.heap t vs.toArray)(hb:IsTup s.heap b ws.toArray)(hv:vs=[])
 (h1:Q (.ref b) s):wpAny (model prog w) A (binaryOp .Add (.ref t) (.ref b)) Q E s:=by
 obtain⟨⟨cls,dd,data,sl⟩,ho,hc,n,hd⟩:=id ht;obtain⟨⟨cls2,dd2,data2,sl2⟩,ho2,hc2,n2,hd2⟩:=id hb;simp only at hc hd hc2 hd2;subst hc hd hc2 hd2;exact concat_meets ⟨_,ho,rfl⟩ ⟨_,ho2,rfl⟩ noFill_tuple_add seq_tuple_add PySem.F.slot_tuple_add PySem.F.entry_tuple_add (PySem.F.args_tuple_add_2 _ _)
  (tuple_addW0 t b vs.toArray ws.toArray n n2 dd dd2 sl sl2 (by simp[hv])) ⟨ho,ho2,h1⟩
def TB(K:PySem.W.Frag):R2:=λx y H Q=>∃a b ys,x=.ref a/\y=.ref b/\SqT K H a []/\SqT K H b ys/\Q (.ref b) H
def Ve(K:PySem.W.Frag)(hK:X.K=K:=by rfl):OpR X (binaryOp .Add) (TB K):=by
 subst hK;intro pins s σ H x y v u Q I rx ry h;obtain⟨a,b,ys,rfl,rfl,ha,hb,q⟩:=h;cases rx;cases ry;obtain⟨its,r1,p1,_⟩:=I.tuple ha;obtain⟨its2,r2,p2,_⟩:=I.tuple hb;have:its=[]:=by cases r1;rfl
 exact WM p1 p2 this ⟨.ref b,H,I,rfl,q⟩
def GA:D->D->Hd->Option (D×Hd):=λd e hd=>(AN d).bind λa=>(AN e).bind λb=>if a=[]then some (AK b,hd)else none
def Uc{K:PySem.W.Frag}:RB K (TB K) GA:=by
 intro ρ H hd d e v u Q z hd' hR h1 h2 hf hQ;unfold GA at hf;obtain⟨a,e1,hf⟩:=dF hf;obtain⟨b,e2,hf⟩:=dF hf;split at hf
 .next c=>
  cases hf;subst c;obtain⟨p,xs,rfl,q1,r1⟩:=h1.tup e1;obtain⟨p2,ys,rfl,q2,r2⟩:=h2.tup e2;have:xs=[]:=by simpa [RDs]using r1
  subst this;exact⟨p,p2,ys,rfl,rfl,q1,q2,hQ ρ H _ .refl hR (Ba q2 r2)⟩
 .cases hf
end
section
variable{X:Cx}
def SA{i:Nat}{y:Str}{elt tg iter tg2 iter2:Expr}{ifs ifs2:List Expr}{scope:Scope}{pos spos py:Pos}{loc fr:List Str}{ix:List Nat}{wi wi2:TI}{g g2:TG}{tf tf2:TT}{te:TE}(hN:X.N.Nodup)(hiN:X.N[i]?=some y)(hy:X.env.scope.names.lookup y=some .local)
 (hc:X.calm=true) (S:CSc X scope fr ix) (hi:PI X tg iter wi)
 (hg:∀s H ex,PG (cCx X (loc++fr) scope s H ex) tg g) (hf:∀s H ex,PF (cCx X (loc++fr) scope s H ex) ifs tf) (hi2:∀s H ex,PI (cCx X (loc++fr) scope s H ex) tg2 iter2 wi2) (hg2:∀s H ex,PG (cCx X (loc++fr) scope s H ex) tg2 g2) (hf2:∀s H ex,PF (cCx X (loc++fr) scope s H ex) ifs2 tf2) (he:∀s H ex,PE (cCx X (loc++fr) scope s H ex) elt te)
 (hsw:swapsWith (LC2 elt tg iter ifs tg2 iter2 ifs2 scope pos) (some (.Name y py)) spos.line X.env=pure true) (hs:∀x,foldedSetIterable iter X.env x=pure x) (hs2:∀s H ex x,foldedSetIterable iter2 (cCx X (loc++fr) scope s H ex).env x=pure x):
 PS X (.Assign [.Name y py] (LC2 elt tg iter ifs tg2 iter2 ifs2 scope pos) spos) (DZ (Ep loc.length ix wi g tf wi2 g2 tf2 te) (Cl i)):=by
 intro pins s σ H D I h;have hnames:∀y∈scope.names,y.2=.local->scope.names.lookup y.1=some .local:=λy hy e=>by
  have:=all_eq_true.mp S.loc y hy;rw[e]at this;simpa using this
 rw[exec_Assign_Name_used _ _ _ _ hsw];refine wpAny_bind (wpAny_standAt (wpAny_bind ?_));show wpAny _ _ (do let _ <- comprehension (LC2 elt tg iter ifs tg2 iter2 ifs2 scope pos) scope X.env _ (newList []) false (eval iter X.env) (some (assign (.Name y py) X.env))) _ _ s;refine wpAny_bind (wpAny_mono (wpAny_comprehension_free (use:=some (assign (.Name y py) X.env)) (Q:=λ_ s'=>SP X pins D .next s') rfl hs (DB (S.clos I.ok)) S.kind hnames
  (thn (hi pins s σ H _ I h) λv s1 h1=>thn h1 λitv s2 h2=>?_)) (λ_ s' hq=>wpAny_pure (wpAny_pure hq)) λ_ _ e=>e)
 obtain⟨it,fp,tn,J,H2,rfl,I2,T,st2,f2,hW⟩:=h2;refine Hg (RR:=λacc C=>compPost (model X.prog X.w) X.A X.xe (some (assign (.Name y py) X.env)) (λ_ s'=>SP X pins D .next s') acc C) hc S hg hf hi2 hg2 hf2 he hs2 I2 T st2 f2 hW λs3 s6 H5 σ5 L I3 I6 f3 q=>?_;have J6:Inv X pins σ H5 s6:=FL (h'':=s6.heap) I3 I6 f3 (.refl ..);obtain⟨m,hm,_⟩:=I6.loc;have hm:s6.heap.Ns s3.heap.objs.size m:=hm;have hL:s3.heap.objs.size≠X.env.locals:=Ne.symm (ne_of_lt I3.lt);show wpAny _ _ (assign (.Name y py) X.env (.ref L)) _ _ s6;refine wpAny_assign_Name (GQ (v:=.ref L) J6 hN hiN (.inl hy) rfl (λs7 I7 ⟨a,sb,ha⟩=>?_) (.inr hy));have hca:s3.heap.objs.size≠a:=by
  rcases ha with rfl|ha
  .exact hL
  .obtain⟨v,z⟩:=I3.cell y a ha;exact Ne.symm (ne_of_lt z.lt)
 refine⟨m,hm.sameBut sb hca,λh' hs'=>?_⟩;refine⟨_,H5,I7.turned (t':=s7.toks) (it:=s3.heap.objs.size) (λb o hb e=>(hs'.2 b hb).trans e) I6.free hL (.inr I3.sz) (λx c e z=>?_) (λp hp z=>?_),q⟩
 .obtain⟨v,w⟩:=I3.cell x c e;exact absurd w.lt (by rw[z];exact lt_irrefl _)
 .exact absurd (Heap.lt_size (I3.pin p hp).1) (by rw[z];exact lt_irrefl _)
end
def Rv(K:PySem.W.Frag){X:Cx}{i:Nat}{y:Str}{elt tg iter tg2 iter2:Expr}{ifs ifs2:List Expr}{scope:Scope}{pos spos py:Pos}{loc fr:List Str}{ix:List Nat}{wi wi2:TI}{g g2:TG}{tf tf2:TT}{te:TE}{mi mi2:MI}{n n2:MG}{mf mf2:MT}{mm:ME}(hN:X.N.Nodup)(hiN:X.N[i]?=some y)(hy:X.env.scope.names.lookup y=some .local)(hc:X.calm=true)(S:CSc X scope fr ix)(hi:QI K X tg iter wi mi)
 (hg:∀s H ex,QG K (cCx X (loc++fr) scope s H ex) tg g n) (hf:∀s H ex,QF K (cCx X (loc++fr) scope s H ex) ifs tf mf) (hi2:∀s H ex,QI K (cCx X (loc++fr) scope s H ex) tg2 iter2 wi2 mi2) (hg2:∀s H ex,QG K (cCx X (loc++fr) scope s H ex) tg2 g2 n2) (hf2:∀s H ex,QF K (cCx X (loc++fr) scope s H ex) ifs2 tf2 mf2) (he:∀s H ex,QE K (cCx X (loc++fr) scope s H ex) elt te mm)
 (hsw:swapsWith (.ListComp elt [⟨tg,iter,ifs,0⟩,⟨tg2,iter2,ifs2,0⟩] scope pos) (some (.Name y py)) spos.line X.env=pure true:=by rfl) (hs:∀x,foldedSetIterable iter X.env x=pure x:=by intro _;rfl) (hs2:∀s H ex x,foldedSetIterable iter2 (cCx X (loc++fr) scope s H ex).env x=pure x:=by intro _ _ _ _;rfl):
 QS K X (.Assign [.Name y py] (.ListComp elt [⟨tg,iter,ifs,0⟩,⟨tg2,iter2,ifs2,0⟩] scope pos) spos) (DZ (Ep loc.length ix wi g tf wi2 g2 tf2 te) (Cl i)) (AH i (Cu loc.length ix mi n mf mi2 n2 mf2 mm)):=
 ⟨SA hN hiN hy hc S hi.p (λs H ex=>(hg s H ex).p) (λs H ex=>(hf s H ex).p) (λs H ex=>(hi2 s H ex).p) (λs H ex=>(hg2 s H ex).p) (λs H ex=>(hf2 s H ex).p) (λs H ex=>(he s H ex).p) hsw hs hs2,IW (LS K (pos:=pos) hc S hi hg hf hi2 hg2 hf2 he hs hs2).r HC⟩
end L2
namespace L2
abbrev BC:=CK AE GA
end L2
namespace L2
open PySem PySem.Spec PyProof.Rows
section
variable{K:PySem.W.Frag}{ρ ρ':List Addr}{H H':Hp}{hd hd':Hd}
def Lk:List D->Hd->Option (D×Hd)
 |[.im (.int i)],hd=>some (.im (.int i),hd)
 |[.im (.bl b)],hd=>some (.im (.int (if b then 1 else 0)),hd)
 |_,_=>none
def XI:RF K (λxs H Q=>(∃i,xs=[.int i]/\Q (.int i) H)∨∃k,xs=[.bl k]/\Q (.int (if k then 1 else 0)) H) Lk:=by
 intro ρ H hd ds vs Q z hd' hR h1 hf hQ;unfold Lk at hf;split at hf
 .cases hf;simp only[RDs,RD,RI]at h1;obtain⟨x,r,rfl,rfl,rfl⟩:=h1;exact .inl ⟨_,rfl,hQ ρ H _ .refl hR (by simp[RD,RI])⟩
 .cases hf;simp only[RDs,RD,RI]at h1;obtain⟨x,r,rfl,rfl,rfl⟩:=h1;exact .inr ⟨_,rfl,hQ ρ H _ .refl hR (by simp[RD,RI])⟩
 .cases hf
open Classical in
def Eh:D->List D->Hd->Option (D×Hd)
 |.mu n,[.mu m],hd=>match hd[n]?,hd[m]? with
  |some (.lst ds),some (.lst es)=>if Be (ds.length+es.length)then some (.im .non,hd.set n (.lst (ds++es)))else none
  |_,_=>none
 |_,_,_=>none
def P4:RM K Ms Eh:=by
 intro ρ H hd d v ds vs Q z hd' hR h1 h2 hf hQ;unfold Eh at hf;split at hf
 .next n m=>
  split at hf
  .next es1 es2 q1 q2=>
   split at hf
   .next c=>
    cases hf;simp only[RD]at h1;obtain⟨a,hn,rfl⟩:=h1;simp only[RDs,RD]at h2;obtain⟨x,r,rfl,⟨b,hm,rfl⟩,rfl⟩:=h2;obtain⟨xs,f1,f2⟩:=hR.lst hn q1;obtain⟨ys,g1,g2⟩:=hR.lst hm q2;have l1:=f2.len;have l2:=g2.len;obtain⟨R2,x2⟩:=hR.put hn (o:=.lst (es1++es2)) (ho:=.lst (xs++ys)) ⟨_,rfl,f2.app g2⟩;exact⟨a,b,xs,ys,rfl,rfl,f1,g1,by rw[l1,l2];exact c,hQ ρ _ _ x2 R2 (by simp[RD,RI])⟩
   .cases hf
  .cases hf
 .cases hf
end
section
variable{hd:Hd}{QE:D->Hd->Prop}
def Ol{n m:Nat}{ds es:List D}(e1:hd[n]?=some (.lst ds))(e2:hd[m]?=some (.lst es))(c:Be (ds.length+es.length))(q:QE (.im .non) (hd.set n (.lst (ds++es)))):WP (Eh (.mu n) [.mu m] hd) QE:=⟨_,_,by simp only[Eh,e1,e2,c,if_true],q⟩
end
end L2
namespace HS
open PySem PyProof.Rows
open PySem.AutoSeq1 (wpAny_loadPart')
open Sem (wp)
abbrev st(t:Tok):List (Str×Value):=[(Str.ofString "start",.int 1 t)]
end HS
namespace L2
open PySem PySem.Spec PyProof.Rows
def pick_all:∀L:List Value,(List.range L.length).filterMap (λi=>L[i]?)=L
 |[]=>rfl
 |x::r=>by
  rw[length_cons,List.range_succ_eq_map,filterMap_cons];simp only[List.getElem?_cons_zero,List.filterMap_map]
  congr 1
  have:=pick_all r;simpa [Function.comp_def]using this
def Hj:∀{xs:List V} {us:List Value},Vals xs us->Vals xs.reverse us.reverse
 |_,_,.nil=>.nil
 |_,_,.cons r t=>by
  rw[reverse_cons,reverse_cons];exact Vals.append (Hj t) (.cons r .nil)
section
variable{K:PySem.W.Frag}{ρ:List Addr}{H:Hp}
def RDs.rev:∀{ds:List D} {xs:List V},RDs K ρ H ds xs->RDs K ρ H ds.reverse xs.reverse
 |[],xs,h=>by simp only[RDs]at h;subst h;simp[RDs]
 |d::ds,xs,h=>by
  simp only[RDs]at h;obtain⟨x,r,rfl,rx,h⟩:=h;rw[reverse_cons,reverse_cons];exact(RDs.rev h).app (.cons rx .nil)
variable{X:Cx}{e stp:Expr}{te ts:TE}{m:MA}{ms:ME}{pos p2:Pos}
end
end L2
namespace HT
open PySem PySem.Spec PyProof.Rows
section
variable{prog:Program}{w:World}{A:Around}{E:Value->Shared->Prop}{s:Shared}
def Od(n:Nat):Builtin.Slice.sliceAdjust none none (-1) (n:Int)=((n:Int)-1,-1):=by
 unfold Builtin.Slice.sliceAdjust;simp
def O3(n:Nat):Builtin.Slice.slicePlaces ((n:Int)-1) (-1) (-1)=n:=by
 unfold Builtin.Slice.slicePlaces;simp
 try omega
def Hk{sl:Addr}{n:Nat}{t:Tok}{Q:Int×Int×Nat->Shared->Prop}(hs:s.heap.IsSliceOf sl .none .none (.int (-1) t))(h:Q ((n:Int)-1,-1,n) s):wpAny (model prog w) A (Builtin.Slice.sliceApplied (.ref sl) (pure (n:Int))) Q E s:=by
 obtain⟨os,hos,hcs,hds⟩:=id hs;unfold Builtin.Slice.sliceApplied Builtin.Slice.sliceFields;refine wpAny_bind (wpAny_bind (wpAny_field hos hds (x:=.none) rfl (wpAny_bind (wpAny_field hos hds (x:=.none) rfl (wpAny_bind (wpAny_field hos hds (x:=.int (-1) t) rfl (wpAny_pure ?_)))))));refine wpAny_bind (slicePart_int ?_);show wpAny _ _ (if((-1:Int)==0)=true then _ else _) _ _ s;rw[if_neg (by decide)];refine wpAny_bind (slicePart_none (wpAny_bind (slicePart_none (wpAny_bind (wpAny_pure ?_)))));show wpAny _ _ (match Builtin.Slice.sliceAdjust none none (-1) (n:Int)with|(lo,hi)=>pure (lo,(-1:Int),Builtin.Slice.slicePlaces lo hi (-1))) _ _ s;rw[Od n];show wpAny _ _ (pure ((n:Int)-1,(-1:Int),Builtin.Slice.slicePlaces ((n:Int)-1) (-1) (-1))) _ _ s;rw[O3];exact wpAny_pure h
def Lh{α β:Type}{f g:α->Option β}:∀{l:List α},(∀x∈l,f x=g x)->l.filterMap f=l.filterMap g
 |[],_=>rfl
 |x::l,h=>by rw[filterMap_cons,filterMap_cons,h x mem_cons_self,Lh λy hy=>h y (mem_cons_of_mem _ hy)]
def PX(xs:Array Value):((List.range xs.size).filterMap λ(m:Nat)=>xs[((xs.size:Int)-1+(m:Int)*(-1)).toNat]?).toArray=xs.toList.reverse.toArray:=by
 congr 1
 have e:(List.range xs.size).filterMap (λ(m:Nat)=>xs[((xs.size:Int)-1+(m:Int)*(-1)).toNat]?)=(List.range xs.toList.reverse.length).filterMap λi=>xs.toList.reverse[i]? := by
  rw[length_reverse,Array.length_toList];refine Lh λm hm=>?_;have hm:m<xs.size:=by simpa using hm
  rw[List.getElem?_reverse (by simpa using hm)];simp only[Array.length_toList,Array.getElem?_toList]
  congr 1
  omega
 rw[e];exact L2.pick_all _
def getItem_tuple_rev{t sl:Addr}{items:Array Value}{k:Tok}{Q:Value->Shared->Prop}(ht:IsTup s.heap t items)(hs:s.heap.IsSliceOf sl .none .none (.int (-1) k))(h:Q (.ref s.heap.objs.size) { s with heap:=s.heap.push { cls:=.type "tuple",data:=.seq items.toList.reverse.toArray } })(hsz:items.size<=sizeLine):wpAny (model prog w) A (getItem (.ref t) (.ref sl)) Q E s:=by
 have hsize:sizeOk (.seq items.toList.reverse.toArray):=by
  show items.toList.reverse.toArray.size<=sizeLine;simpa using hsz
 obtain⟨os,hos,hcs,hds⟩:=id hs;have hTs:s.TypeIs (.ref sl) "slice":=⟨os,hos,hcs⟩
 unfold getItem
 try with_reducible refine wpAny_holding ?_
 first|refine wpAny_bind (wpAny_pure ?_)|skip
 refine wpAny_bind (wpAny_sequenceKey ht.typeIs (by decide) ?_);refine wpAny_bind (wpAny_callSpecial?_slot (name:=Str.ofString "__getitem__") ht.typeIs PyProof.Rows.slot_tuple_getitem
  (wpAny_call_entry PyProof.Rows.slot_tuple_getitem ht.typeIs entry_tuple_getitem ?_ (args_tuple_getitem _ _)))
 show wpAny _ _ (Builtin.Tuple.tupleItemsOf (.ref t) >>= _) _ _ s;refine wpAny_bind (tupleItemsOf_ ht ?_);refine wpAny_bind (wpAny_typeOf hTs ?_);rw[if_pos (by decide)];refine wpAny_bind (Hk hs ?_);show wpAny _ _ (if((((items.size:Int)-1)==0&&(-1:Int)==1&&items.size==items.size)=true)then _ else _) _ _ s;rw[if_neg (by simp),PX]
 first
  |exact wpAny_bind (m:=Builtin.Tuple.tupleExact _) (wpAny_newObj_type (wpAny_pure ⟨_,rfl,wpAny_pure h⟩) hsize)
  |exact wpAny_bind (m:=Builtin.Tuple.tupleExact _) (wpAny_newObj_type (wpAny_bind (wpAny_pure (wpAny_pure ⟨_,rfl,wpAny_pure h⟩))) hsize)
  |exact wpAny_bind (wpAny_bind (m:=Builtin.Tuple.tupleExact _) (wpAny_newObj_type (wpAny_pure (wpAny_pure ⟨_,rfl,wpAny_pure h⟩)) hsize))
  |exact wpAny_bind (wpAny_bind (m:=Builtin.Tuple.tupleExact _) (wpAny_newObj_type (wpAny_pure ⟨_,rfl,wpAny_pure h⟩) hsize))
end
end HT
namespace L2
open PySem PySem.Spec PyProof.Rows
section
variable{X:Cx}{e stp:Expr}{te ts:TE}{pos p2:Pos}
def NU(K:PySem.W.Frag)(te ts:TE):TE:=λσ H Q=>te σ H λx H1=>ts σ H1 λy H2=>y=.int (-1)/\∃a xs,x=.ref a/\SqT K H2 a xs/\∀p,H2 p=none->Q (.ref p) (upd H2 p (.tup xs.reverse))
def VU(he:PE X e te)(hs:PE X stp ts):PE X (.Subscript e (.Slice none none (some stp) p2) pos) (NU X.K te ts):=by
 intro pins s σ H Q I h;refine Subscript_ (thn (he pins s σ H _ I h) λv s1 ⟨x,H1,I1,r1,q1⟩=>?_);refine wpAny_Slice ?_;rw[evalPart_none];refine wpAny_pure (wpAny_pure ?_);rw[evalPart_some];refine thn (hs pins s1 σ H1 _ I1 q1) λvs s3 ⟨y,H3,I3,r3,q3⟩=>?_;obtain⟨rfl,a,xs,rfl,hx,q⟩:=q3;obtain⟨t,rfl⟩:=r3;cases r1;have I4:Inv X pins σ H3 { s3 with heap:=s3.heap.push { cls:=.type "slice",data:=.fields #[.none,.none,.int (-1) t] } }:=I3.kept (t':=s3.toks) λb ob q=>Heap.get?_push_of_some _ q;obtain⟨its,r,ht,hz⟩:=I4.tuple hx;have hlen:=r.length;have hg:wpAny (model X.prog X.w) X.A (getItem (.ref a) (.ref s3.heap.objs.size)) (EP X pins σ Q) X.xe { s3 with heap:=s3.heap.push { cls:=.type "slice",data:=.fields #[.none,.none,.int (-1) t] } }:=by
  refine HT.getItem_tuple_rev ht (Heap.IsSliceOf.new ..) ?_ (by rw[size_toArray]<;>omega);refine⟨.ref _,_,I4.laid (t':=s3.toks) (o:=.tup xs.reverse) (λb ob q=>Heap.get?_push_of_some _ q) (le_refl _) ?_,rfl,q _ (I4.hok.fresh (le_refl _))⟩;exact⟨by rw[length_reverse];exact hz,its.reverse,Hj r,IsTupD.new _ _⟩
 show wpAny (model X.prog X.w) X.A (subscriptTail e (.Slice none none (some stp) p2) (.ref a) (.ref s3.heap.objs.size)) (EP X pins σ Q) X.xe { s3 with heap:=s3.heap.push { cls:=.type "slice",data:=.fields #[.none,.none,.int (-1) t] } };exact tail_any (ops:=[.ref a,.ref s3.heap.objs.size]) ht.typeIs PyProof.Rows.slot_tuple_getitem.lookup hg (by with_unfolding_all rfl)
end
section
variable{K:PySem.W.Frag}{X:Cx}{e stp:Expr}{te ts:TE}{m ms:ME}{pos p2:Pos}
def Dh(m ms:ME):ME:=λls hd=>(m ls hd).bind λp=>(ms ls p.2).bind λq=>match q.1 with
 |.im (.int i)=>if i=-1 then(AN p.1).map λds=>(AK ds.reverse,q.2)else none
 |_=>none
def US(h:RE K te m)(hs:RE K ts ms):RE K (NU K te ts) (Dh m ms):=by
 and_intros;obtain⟨⟨d1,h1⟩,e1,hm⟩:=dF hm;obtain⟨⟨d2,h2⟩,e2,hm⟩:=dF hm;dsimp only at e2 hm;split at hm
 .split at hm
  .next hi=>
   obtain⟨ds,e3,e4⟩:=dG hm;cases e4;subst hi;refine h ρ σ H hd ls _ d1 h1 hR hL e1 λρ1 H1 v1 x1 R1 r1=>?_;refine hs ρ1 σ H1 h1 ls _ _ _ R1 (hL.ext hR x1) e2 λρ2 H2 v x2 R2 r2=>?_;simp only[RD,RI]at r2;obtain⟨a,xs,rfl,q,r⟩:=(r1.ext R1 x2).tup e3;refine⟨r2,a,xs,rfl,q,λp hp=>?_⟩;obtain⟨R3,x3⟩:=R2.hid (ho:=.tup xs.reverse) hp;exact hQ ρ2 _ _ ((x1.trans R1 x2).trans R2 x3) R3 (Ba (SqT.of Ad) ((RDs.rev r).ext R2 x3))
  .cases hm
 .cases hm
def V3(h:QE K X e te m)(hs:QE K X stp ts ms)(hK:X.K=K:=by rfl):QE K X (.Subscript e (.Slice none none (some stp) p2) pos) (NU K te ts) (Dh m ms):=by
 subst hK;exact⟨VU h.p hs.p,US h.r hs.r⟩
def JC{ls:Ls}{hd:Hd}{Q:D->Hd->Prop}(h:WE m ls hd λd x=>WE ms ls x λi y=>i=.im (.int (-1))/\∃ds,AN d=some ds/\Q (AK ds.reverse) y):WE (Dh m ms) ls hd Q:=by
 obtain⟨d,x,e1,i,y,e2,rfl,ds,e3,q⟩:=h;exact⟨_,_,by simp only[Dh,e1,e2,bind_some,if_true,e3,map_some],q⟩
end
section
variable{K:PySem.W.Frag}
def EG(f g:D->D->Hd->Option (D×Hd))(ma mb mc:ME):ME:=λls hd=>(ma ls hd).bind λp=>(mb ls p.2).bind λq=>(f p.1 q.1 q.2).bind λr=>match r.1 with
 |.im (.bl k)=>if k=true then(mc ls r.2).bind λu=>g q.1 u.1 u.2 else some (.im (.bl false),r.2)
 |_=>none
def Rk{r r':R2}{f g:D->D->Hd->Option (D×Hd)}{ta tb tc:TE}{ma mb mc:ME}(hr:RB K r f)(hr':RB K r' g)(ha:RE K ta ma)(hb:RE K tb mb)(hc:RE K tc mc):RE K (Kz r r' ta tb tc) (EG f g ma mb mc):=by
 and_intros;obtain⟨⟨d1,h1⟩,e1,hm⟩:=dF hm;obtain⟨⟨d2,h2⟩,e2,hm⟩:=dF hm;obtain⟨⟨d3,h3⟩,e3,hm⟩:=dF hm;dsimp only at hm;refine ha ρ σ H hd ls _ d1 h1 hR hL e1 λρ1 H1 v1 x1 R1 r1=>?_;refine hb ρ1 σ H1 h1 ls _ d2 h2 R1 (hL.ext hR x1) e2 λρ2 H2 v2 x2 R2 r2=>?_;refine hr ρ2 H2 h2 d1 d2 v1 v2 _ d3 h3 R2 (r1.ext R1 x2) r2 e3 λρ3 H3 w x3 R3 r3=>?_;have X3:=(x1.trans R1 x2).trans R2 x3;split at hm
 .next k=>
  simp only[RD,RI]at r3;refine⟨k,r3,?_⟩;cases k with
  |false=>
   simp only[Bool.false_eq_true,if_false]at hm ⊢;cases hm;exact hQ ρ3 H3 _ X3 R3 (by simp[RD,RI])
  |true=>
   simp only[if_true]at hm ⊢;obtain⟨⟨d4,h4⟩,e4,hm⟩:=dF hm;refine hc ρ3 σ H3 h3 ls _ d4 h4 R3 (hL.ext hR X3) e4 λρ4 H4 v4 x4 R4 r4=>?_;exact hr' ρ4 H4 h4 d2 d4 v2 v4 Q d hd' R4 ((r2.ext R2 x3).ext R3 x4) r4 hm λρ' H' w x5 R5 r5=>hQ ρ' H' w ((X3.trans R3 x4).trans R4 x5) R5 r5
 .cases hm
def Qn{f g:D->D->Hd->Option (D×Hd)}{ma mb mc:ME}{ls:Ls}{hd:Hd}{Q:D->Hd->Prop}(h:WE ma ls hd λd x=>WE mb ls x λe y=>WP (f d e y) λr z=>∃k,r=.im (.bl k)/\(k=true->WE mc ls z λu w=>WP (g e u w) Q)/\(k=false->Q (.im (.bl false)) z)):WE (EG f g ma mb mc) ls hd Q:=by
 obtain⟨d,x,e1,e,y,e2,r,z,e3,k,rfl,h1,h2⟩:=h;cases k with
 |false=>exact⟨_,_,by simp only[EG,e1,e2,e3,bind_some,Bool.false_eq_true,if_false],h2 rfl⟩
 |true=>
  obtain⟨u,w,e4,v,t,e5,q⟩:=h1 rfl;exact⟨v,t,by simp only[EG,e1,e2,e3,bind_some,if_true,e4,e5],q⟩
end
end L2
namespace L2
open PySem PySem.Spec PyProof.Rows PySem.W
def bt_str:bootBuiltins "str"=some (.type "str"):=by decide +kernel
def Xe:List V->Hp->VK->Prop:=λxs H Q=>(∃i,xs=[.int i]/\i.natAbs.log2<1920/\Q (.str (toString i)) H)∨(∃k,xs=[.bl k]/\Q (.str (if k then "True" else "False":Str)) H)∨(xs=[.non]/\Q (.str "None") H)
def Sl{X:Cx}:CallR X (.type "str") Xe:=by
 intro pins s σ H xs us Q I r h;rcases h with⟨i,rfl,hi,q⟩|⟨k,rfl,q⟩|⟨rfl,q⟩
 .obtain⟨u,rfl,ru⟩:=C9 r;obtain⟨t,rfl⟩:=ru;exact PySem.P.str_of_int hi ⟨.str (toString i),H,I.tok _,⟨_,rfl⟩,q⟩
 .obtain⟨u,rfl,ru⟩:=C9 r;cases ru;exact PySem.P.str_of_bool ⟨.str (if k then "True" else "False":Str),H,I.tok _,⟨_,rfl⟩,q⟩
 .obtain⟨u,rfl,ru⟩:=C9 r;cases ru;exact PySem.P.str_of_none ⟨.str "None",H,I.tok _,⟨_,rfl⟩,q⟩
open Classical in
def ER:List D->Hd->Option (D×Hd)
 |[.im (.int i)],hd=>if i.natAbs.log2<1920 then some (.im (.str (toString i)),hd)else none
 |[.im (.bl k)],hd=>some (.im (.str (if k then "True" else "False":Str)),hd)
 |[.im .non],hd=>some (.im (.str "None"),hd)
 |_,_=>none
def XH{K:PySem.W.Frag}:RF K Xe ER:=by
 intro ρ H hd ds vs Q z hd' hR h1 hf hQ;unfold ER at hf;split at hf
 .split at hf
  .next c=>
   cases hf;simp only[RDs,RD,RI]at h1;obtain⟨x,r,rfl,rfl,rfl⟩:=h1;exact .inl ⟨_,rfl,c,hQ ρ H _ .refl hR (by simp[RD,RI])⟩
  .cases hf
 .cases hf;simp only[RDs,RD,RI]at h1;obtain⟨x,r,rfl,rfl,rfl⟩:=h1;exact .inr (.inl ⟨_,rfl,hQ ρ H _ .refl hR (by simp[RD,RI])⟩)
 .cases hf;simp only[RDs,RD,RI]at h1;obtain⟨x,r,rfl,rfl,rfl⟩:=h1;exact .inr (.inr ⟨rfl,hQ ρ H _ .refl hR (by simp[RD,RI])⟩)
 .cases hf
section
variable{hd:Hd}{QE:D->Hd->Prop}
def MZ{i:Int}(h:i.natAbs.log2<1920)(q:QE (.im (.str (toString i))) hd):WP (ER [.im (.int i)] hd) QE:=⟨_,_,by simp[ER,h],q⟩
def Tf{k:Bool}(q:QE (.im (.str (if k then "True" else "False":Str))) hd):WP (ER [.im (.bl k)] hd) QE:=⟨_,_,rfl,q⟩
end
def PM:List V->Hp->VK->Prop:=λxs H Q=>∃k,xs=[.bl k]/\Q (.str (if k then "True" else "False":Str)) H
def OZ{X:Cx}:CallR X (.builtin "repr") PM:=by
 intro pins s σ H xs us Q I r h;obtain⟨k,rfl,q⟩:=h;obtain⟨u,rfl,ru⟩:=C9 r;cases ru;exact PySem.P.repr_of_bool ⟨.str (if k then "True" else "False":Str),H,I.tok _,⟨_,rfl⟩,q⟩
def Cz:List D->Hd->Option (D×Hd)
 |[.im (.bl k)],hd=>some (.im (.str (if k then "True" else "False":Str)),hd)
 |_,_=>none
def Rh{K:PySem.W.Frag}:RF K PM Cz:=by
 intro ρ H hd ds vs Q z hd' hR h1 hf hQ;unfold Cz at hf;split at hf
 .cases hf;simp only[RDs,RD,RI]at h1;obtain⟨x,r,rfl,rfl,rfl⟩:=h1;exact⟨_,rfl,hQ ρ H _ .refl hR (by simp[RD,RI])⟩
 .cases hf
def Ki{hd:Hd}{QE:D->Hd->Prop}{k:Bool}(q:QE (.im (.str (if k then "True" else "False":Str))) hd):WP (Cz [.im (.bl k)] hd) QE:=⟨_,_,rfl,q⟩
end L2
namespace L2
open PySem PySem.W
def tg1:Expr->List Str
 |.Name x _=>[x]
 |_=>[]
def tg2:Expr->List Str
 |.Tuple es _ _=>es.flatMap tg1
 |e=>tg1 e
def tgN:Expr->List Str
 |.Tuple es _ _=>es.flatMap tg2
 |e=>tg1 e
def frN(X:Cx)(ix:List Nat):List Str:=ix.filterMap λi=>X.N[i]?
def ndB:List Str->Bool
 |[]=>true
 |x::xs=>!xs.elem x&&ndB xs
def ED:∀{l:List Str},ndB l=true->l.Nodup
 |[],_=>List.nodup_nil
 |x::xs,h=>by
  obtain⟨h1,h2⟩:=Bool.and_eq_true_iff.mp h;refine nodup_cons.mpr ⟨λhm=>?_,ED h2⟩;rw[List.elem_eq_true_of_mem hm]at h1;cases h1
section
variable{K:PySem.W.Frag}{X:Cx}{elt tg iter tg' iter' e:Expr}{ifs ifs':List Expr}{scope:Scope}{pos spos py:Pos}{ix:List Nat}{wi wi':TI}{g g':TG}{tf tf':TT}{te tk tv:TE}{mi mi':MI}{n n':MG}{mf mf':MT}{me mk mv:ME}{k i:Nat}{x y:Str}
def qgA(hN:ndB X.N=true:=by kernel_rfl)(hi:X.N[i]?=some x:=by rfl)(hx:Loc X.env.scope x:=by first|exact Or.inl rfl|exact Or.inr rfl)(hf:X.fn x=true∨X.env.scope.names.lookup x=some .local:=by first|exact .inl rfl|exact .inr rfl):QG K X (.Name x pos) (Cl i) (AG i):=V2 K (ED hN) hi hx hf
def qnA(hi:QI K X tg iter wi mi)(hg:∀s H ex,QG K (cCx X (tgN tg++frN X ix) scope s H ex) tg g n)(hf:∀s H ex,QF K (cCx X (tgN tg++frN X ix) scope s H ex) ifs tf mf)(he:∀s H ex,QE K (cCx X (tgN tg++frN X ix) scope s H ex) elt te me)
 (hc:X.calm=true:=by rfl) (S:CSc X scope (frN X ix) ix:=by exact⟨rfl,by decide +kernel,rfl,rfl,rfl,by decide +kernel⟩) (hs:∀x,foldedSetIterable iter X.env x=pure x:=by intro _;rfl) (hk:(tgN tg).length=k:=by rfl):
 QN K X (.ListComp elt [⟨tg,iter,ifs,0⟩] scope pos) (Fp k ix wi g tf te) (B5 k ix mi n mf me):=by
 subst hk;exact Ux K hc S hi hg hf he hs
def bF(hi:QI K X tg iter wi mi)(hg:∀s H ex,QG K (cCx X (tgN tg++frN X ix) scope s H ex) tg g n)(hf:∀s H ex,QF K (cCx X (tgN tg++frN X ix) scope s H ex) ifs tf mf)(he:∀s H ex,QE K (cCx X (tgN tg++frN X ix) scope s H ex) elt te me)
 (hsw:swapsWith (.ListComp elt [⟨tg,iter,ifs,0⟩] scope pos) (some (.Name y py)) spos.line X.env=pure true:=by rfl) (hN:ndB X.N=true:=by kernel_rfl) (hiN:X.N[i]?=some y:=by rfl) (hy:X.env.scope.names.lookup y=some .local:=by rfl)
 (hc:X.calm=true:=by rfl) (S:CSc X scope (frN X ix) ix:=by exact⟨rfl,by decide +kernel,rfl,rfl,rfl,by decide +kernel⟩) (hs:∀x,foldedSetIterable iter X.env x=pure x:=by intro _;rfl) (hk:(tgN tg).length=k:=by rfl):
 QS K X (.Assign [.Name y py] (.ListComp elt [⟨tg,iter,ifs,0⟩] scope pos) spos) (DZ (Fp k ix wi g tf te) (Cl i)) (AH i (AO (B5 k ix mi n mf me))):=by
 subst hk;exact Uk K (ED hN) hiN hy hc S hi hg hf he hsw hs
def bG(hi:QI K X tg iter wi mi)(hg:∀s H ex,QG K (cCx X ((tgN tg++tgN tg')++frN X ix) scope s H ex) tg g n)(hf:∀s H ex,QF K (cCx X ((tgN tg++tgN tg')++frN X ix) scope s H ex) ifs tf mf)(hi2:∀s H ex,QI K (cCx X ((tgN tg++tgN tg')++frN X ix) scope s H ex) tg' iter' wi' mi')(hg2:∀s H ex,QG K (cCx X ((tgN tg++tgN tg')++frN X ix) scope s H ex) tg' g' n')(hf2:∀s H ex,QF K (cCx X ((tgN tg++tgN tg')++frN X ix) scope s H ex) ifs' tf' mf')(he:∀s H ex,QE K (cCx X ((tgN tg++tgN tg')++frN X ix) scope s H ex) elt te me)
 (hc:X.calm=true:=by rfl) (S:CSc X scope (frN X ix) ix:=by exact⟨rfl,by decide +kernel,rfl,rfl,rfl,by decide +kernel⟩) (hs:∀x,foldedSetIterable iter X.env x=pure x:=by intro _;rfl) (hs2:∀s H ex x,foldedSetIterable iter' (cCx X ((tgN tg++tgN tg')++frN X ix) scope s H ex).env x=pure x:=by intro _ _ _ _;rfl) (hk:(tgN tg++tgN tg').length=k:=by rfl):
 QE K X (.ListComp elt [⟨tg,iter,ifs,0⟩,⟨tg',iter',ifs',0⟩] scope pos) (Ep k ix wi g tf wi' g' tf' te) (Cu k ix mi n mf mi' n' mf' me):=by
 subst hk;exact LS K hc S hi hg hf hi2 hg2 hf2 he hs hs2
def aF(hi:QI K X tg iter wi mi)(hg:∀s H ex,QG K (cCx X ((tgN tg++tgN tg')++frN X ix) scope s H ex) tg g n)(hf:∀s H ex,QF K (cCx X ((tgN tg++tgN tg')++frN X ix) scope s H ex) ifs tf mf)(hi2:∀s H ex,QI K (cCx X ((tgN tg++tgN tg')++frN X ix) scope s H ex) tg' iter' wi' mi')(hg2:∀s H ex,QG K (cCx X ((tgN tg++tgN tg')++frN X ix) scope s H ex) tg' g' n')(hf2:∀s H ex,QF K (cCx X ((tgN tg++tgN tg')++frN X ix) scope s H ex) ifs' tf' mf')(he:∀s H ex,QE K (cCx X ((tgN tg++tgN tg')++frN X ix) scope s H ex) elt te me)
 (hsw:swapsWith (.ListComp elt [⟨tg,iter,ifs,0⟩,⟨tg',iter',ifs',0⟩] scope pos) (some (.Name y py)) spos.line X.env=pure true:=by rfl) (hN:ndB X.N=true:=by kernel_rfl) (hiN:X.N[i]?=some y:=by rfl) (hy:X.env.scope.names.lookup y=some .local:=by rfl)
 (hc:X.calm=true:=by rfl) (S:CSc X scope (frN X ix) ix:=by exact⟨rfl,by decide +kernel,rfl,rfl,rfl,by decide +kernel⟩) (hs:∀x,foldedSetIterable iter X.env x=pure x:=by intro _;rfl) (hs2:∀s H ex x,foldedSetIterable iter' (cCx X ((tgN tg++tgN tg')++frN X ix) scope s H ex).env x=pure x:=by intro _ _ _ _;rfl) (hk:(tgN tg++tgN tg').length=k:=by rfl):
 QS K X (.Assign [.Name y py] (.ListComp elt [⟨tg,iter,ifs,0⟩,⟨tg',iter',ifs',0⟩] scope pos) spos) (DZ (Ep k ix wi g tf wi' g' tf' te) (Cl i)) (AH i (Cu k ix mi n mf mi' n' mf' me)):=by
 subst hk;exact Rv K (ED hN) hiN hy hc S hi hg hf hi2 hg2 hf2 he hsw hs hs2
def qsA{pos':Pos}(he:QE K X e te me)(hs:swapsWith e (some (.Name x pos')) pos.line X.env=pure false:=by rfl)(hN:ndB X.N=true:=by kernel_rfl)(hi:X.N[i]?=some x:=by rfl)(hx:Loc X.env.scope x:=by first|exact Or.inl rfl|exact Or.inr rfl)(hf:X.fn x=true∨X.env.scope.names.lookup x=some .local:=by first|exact .inl rfl|exact .inr rfl):
 QS K X (.Assign [.Name x pos'] e pos) (DZ te (Cl i)) (AH i me):=Xk K (ED hN) hi hx he hs hf
end
end L2
namespace L2
open PySem PySem.Spec PyProof.Rows PySem.W
abbrev Tb:=Addr×Str×Nat×Nat
def Vr(ts:List Tb):Obj:={ cls:=.str "tables" 0,data:=.fields (ts.flatMap λt=>[.ref t.1,.str t.2.1 0,.int t.2.2.1 0,.int t.2.2.2 0]).toArray }
def Bu(K:PySem.W.Frag)(ts:List Tb):PySem.W.Frag:=(K.filter λp=>!(ts.map (·.1)).contains p.1)++[(mainGlobals,Vr ts)]
def Ot:∀ts:List Tb,KK (ts.flatMap λt=>[Value.ref t.1,.str t.2.1 0,.int t.2.2.1 0,.int t.2.2.2 0])=ts.map λt=>(t.1,t.2.1,⟨t.2.2.1,t.2.2.2,0,0⟩)
 |[]=>rfl
 |t::r=>by
  rw[List.flatMap_cons,map_cons,<- Ot r];rfl
def Os(K:PySem.W.Frag)(ts:List Tb):IM (Bu K ts)=ts.map λt=>(t.1,t.2.1,⟨t.2.2.1,t.2.2.2,0,0⟩):=by
 unfold IM Bu;rw[List.getLast?_concat];show KK _=_;rw[<- Ot ts]
def FF{L:List Addr}{a:Addr}(ha:a∉L):∀K:PySem.W.Frag,(K.filter λp=>!L.contains p.1).lookup a=K.lookup a
 |[]=>rfl
 |(b,o)::r=>by
   have ih:=FF ha r;rw[filter_cons];by_cases hb:b∈L
   .have h1:(!L.contains (b,o).1)=false:=by simp[hb]
    have h2:(a==b)=false:=beq_eq_false_iff_ne.mpr λz=>ha (z ▸ hb);rw[if_neg (by rw[h1];decide),lookup_cons,h2,ih]
   .have h1:(!L.contains (b,o).1)=true:=by simp[hb]
    rw[if_pos h1,lookup_cons,lookup_cons,ih]
def Gf{L:List Addr}{P:Addr}(hP:P∈L):∀K:PySem.W.Frag,(K.filter λp=>!L.contains p.1).lookup P=none
 |[]=>rfl
 |(b,o)::r=>by
   have ih:=Gf hP r;rw[filter_cons];by_cases hb:b∈L
   .rw[if_neg (by simp[hb])];exact ih
   .have h2:(P==b)=false:=beq_eq_false_iff_ne.mpr λz=>hb (z ▸ hP);rw[if_pos (by simp[hb]),lookup_cons,h2];exact ih
section
variable{K:PySem.W.Frag}{ts:List Tb}
def Gb{a:Addr}{o:Obj}(ha:a∉ts.map (·.1))(e:K.lookup a=some o):(Bu K ts).lookup a=some o:=by
 unfold Bu;rw[lookup_append,FF ha,e];rfl
def Vq{h:Heap}(X:K.In h){g:Obj}(hg:K.lookup mainGlobals=some g)(hP:mainGlobals∉ts.map (·.1)):(Bu K ts).In h:=λa o e=>by
 unfold Bu at e;rw[lookup_append]at e;by_cases ha:a∈ts.map (·.1)
 .rw[Gf ha,none_or]at e;have h2:(a==mainGlobals)=false:=beq_eq_false_iff_ne.mpr λz=>hP (z ▸ ha);rw[lookup_cons,h2]at e;cases e
 .rw[FF ha]at e;cases k:K.lookup a with
  |some o'=>rw[k]at e;cases e;exact X _ _ k
  |none=>
   rw[k,none_or,lookup_cons]at e;by_cases hm:a=mainGlobals
   .subst hm;rw[hg]at k;cases k
   .rw[beq_eq_false_iff_ne.mpr hm]at e;cases e
def Vp(hM:mainGlobals∉ts.map (·.1)){P:Addr}(hP:P∈ts.map (·.1)):(Bu K ts).lookup P=none:=by
 unfold Bu;have h2:(P==mainGlobals)=false:=beq_eq_false_iff_ne.mpr λz=>hM (z ▸ hP);rw[lookup_append,Gf hP,none_or,lookup_cons,h2];rfl
def Fun.mark{x qual:Str}{st:Stmt}{f:Addr}{fd:FuncData}(D:Fun K x qual st f fd){h:Heap}(X:K.In h)(hP:∀P∈ts.map (·.1),h.get? P=some (tabObj #[])):Fun (Bu K ts) x qual st f fd:=by
 have neP:∀a o,K.lookup a=some o->o≠tabObj #[]->a∉ts.map (·.1):=λa o e n z=>by
  have:=X _ _ e;rw[hP a z]at this;exact n (Option.some.inj this).symm
 obtain⟨⟨oc,od,kV,doc,pm,an,cdv,ct,osl,rfl,lk,hcd⟩,kp⟩:=D;have hf:f∉ts.map (·.1):=neP f _ lk (λz=>by cases z);refine⟨⟨oc,od,kV,doc,pm,an,cdv,ct,osl,rfl,Gb hf lk,?_⟩,?_⟩
 .unfold codeIn at hcd ⊢;split at hcd
  .next c0=>
   split at hcd
   .next vs sl k=>
    have hc:c0∉ts.map (·.1):=neP c0 _ k (λz=>by
     have:vs=#[]:=by injection z with _ _ z _;injection z
     rw[this]at hcd;cases hcd)
    simp only[Gb hc k];exact hcd
   .cases hcd
  .cases hcd
 .unfold keepIn;simp only[Gb hf lk]
end
def a8{K:PySem.W.Frag}{H:Hp}{a:Addr}{xs:List V}(hS:SqL K H a xs)(hO:∀ys,H a≠some (.lst ys)):RoL K H a xs:=by
 rcases hS with(h|h)|h
 .exact absurd h (hO xs)
 .exact .inl h
 .exact .inr h
def Px{Pg:Program}{w:World}{K:PySem.W.Frag}{mg mb:Str->Option Value}{k:Nat}{fa a:Addr}{fd:FuncData}{x:Str}{ts:List Tb}{s₁:Shared}{vs:List Value}{ns:List Int}{F:List D->Hd->Option (D×Hd)}
 (KX:K.In s₁.heap) (hns:s₁.heap.Ns mainGlobals mg) (hb:s₁.heap.Ns builtinsNs mb) (hbb:∀x:Str,x≠"__name__"->mb x=bootBuiltins x) (hlim:s₁.heap.NoLimit) (hg:s₁.gens=#[])
 (ha:s₁.heap.get? a=some { cls:=.type "list",data:=.seq vs.toArray }) (hi:IntsAre vs ns) (hl:ns.length<=sizeLine) (hr:Room k callerA)
 (hT:∀P∈ts.map (·.1),∃cc,s₁.heap.TableAt cc P #[]) (hPK:∀P∈ts.map (·.1),K.lookup P=none) (htab:IM K=ts.map λt=>(t.1,t.2.1,⟨t.2.2.1,t.2.2.2,0,0⟩))
 (Fn:∀base:Heap,K.In base->base.Ns mainGlobals mg->(∀b o,b∉ts.map (·.1)->b≠a->s₁.heap.get? b=some o->base.get? b=some o)->FnOk Pg w K mg base CX0 k fa fd [x] (spF K 1 F)) (hbind:∀(s:Shared) (u:Value),BindsTo s fd ⟨[u],[]⟩ [(x,u)])
 (hF:∃hd',F [.ro ns] []=some (.im (.bl true),hd')):
 codeAny (model Pg w) callerA (.call (.ref fa) ⟨[.ref a],[]⟩) (λr s'=>r=.ok (.ret (.bool true))/\OldK s₁.heap s'.heap/\s'.os=s₁.os/\AllBare s'.gens) s₁:=by
 have rv:=Jj hi;have lenV:=hi.length;have hP:∀P∈ts.map (·.1),s₁.heap.get? P=some (tabObj #[]):=λP h=>let ⟨cc,t⟩:=hT P h;t.2
 have haP:a∉ts.map (·.1):=λz=>by rw[hP a z]at ha;cases ha
 have core:∀H:Hp,(∀b,b∉ts.map (·.1)->H b=none∨∃o xs,H b=some (.frz o (.lst xs)))->(∀P∈ts.map (·.1),H P=some (.tbl #[]))->SqL K H a (ns.map V.int)->HOk Pg w H s₁.heap->(∀b,H b≠none->b=a∨b∈ts.map (·.1))->(H a≠none->K.lookup a=none) ->
  codeAny (model Pg w) callerA (.call (.ref fa) ⟨[.ref a],[]⟩) (λr s'=>r=.ok (.ret (.bool true))/\OldK s₁.heap s'.heap/\s'.os=s₁.os/\AllBare s'.gens) s₁:=by
  intro H hO hHP hS hok hA hK;have base_of:∀{b:Addr} {o:Obj},s₁.heap.get? b=some o->H b=none->(G9 s₁.heap H).get? b=some o:=λe n=>SW e n;have noA:∀{b:Addr} {o:Obj} {es:Array DictEntry} {ep:Nat},s₁.heap.get? b=some o->o.data=.dict es ep->H b=none:=λ{b o es ep} e d=>by
   cases q:H b with
   |none=>rfl
   |some u=>
    rcases hA b (by rw[q];simp)with e'|e'
    .subst e';rw[ha]at e;cases e;have d':Data.seq vs.toArray _=Data.dict es ep:=d;cases d'
    .rw[hP b e']at e;cases e;cases d
  have nsK:∀{b:Addr} {m:Str->Option Value},s₁.heap.Ns b m->(G9 s₁.heap H).Ns b m:=λ{b m} ⟨o,es,ep,e,d,r⟩=>⟨o,es,ep,base_of e (noA e d),d,r⟩
  have hKb:K.In (G9 s₁.heap H):=λb o e=>base_of (KX b o e) (by
   cases q:H b with
   |none=>rfl
   |some u=>
    rcases hA b (by rw[q];simp)with e'|e'
    .subst e';rw[hK (by rw[q];simp)]at e;cases e
    .rw[hPK b e']at e;cases e)
  have hM:Mod K mg (G9 s₁.heap H):=⟨hKb,nsK hns,⟨mb,nsK hb,hbb⟩,let ⟨mc,h1,h2⟩:=hlim;⟨mc,nsK h1,h2⟩⟩
  have e0:Env0 Pg w K mg (G9 s₁.heap H) callerA [] s₁ H:=⟨rfl,hM,λb o e=>Vl e,Nat.le_of_eq (Q3 _ _),trivial,λb hb=>absurd (show b∈([]:List Addr)from hb) (by simp),hok,.of_eq hg⟩
  have hsp:spF K 1 F [.ref a] H (λv _=>v=.bl true) λ_ _ _=>False:=by
   obtain⟨hd',e⟩:=hF;refine⟨rfl,[],[],[.ro ns],.im (.bl true),hd',⟨rfl,List.nodup_nil,λy hy=>?_,λn o a h=>by simp at h⟩,?_,e,λρ' H' v _ _ r=>?_⟩
   .rw[htab]at hy;obtain⟨t,ht,rfl⟩:=mem_map.mp hy;exact⟨#[],hHP t.1 (mem_map.mpr ⟨t,ht,rfl⟩),.inl rfl⟩
   .simp only[RDs,RD];refine⟨_,_,rfl,⟨a,rfl,a8 hS λys z=>?_⟩,rfl⟩;rcases hO a haP with q|⟨o,ys,q⟩<;>(rw[q]at z;cases z)
   .simpa only[RD,RI]using r
  refine codeAny_mono ((Fn _ hKb (nsK hns) λb o n1 n2 e=>base_of e (by
   cases q:H b with
   |none=>rfl
   |some u=>
    rcases hA b (by rw[q];simp)with e'|e'
    .exact absurd e' n2
    .exact absurd e' n1)).run callerA [] s₁ H ⟨[.ref a],[]⟩ [.ref a] [.ref a] _ _ hr e0 (hbind s₁ (.ref a)) (.cons rfl .nil) hsp) λr s' h=>?_
  cases r with
  |error e=>exact h.elim
  |ok fl=>
   cases fl with
   |next=>exact False.elim h
   |brk=>exact False.elim h
   |cont=>exact False.elim h
   |ret u=>
    obtain⟨v,H',os,bare,un,hok',r',q⟩:=h;have q':v=.bl true:=q;subst q';obtain rfl:u=Value.bool true:=r';have keep:∀b o,b∉ts.map (·.1)->s₁.heap.get? b=some o->s'.heap.get? b=some o:=λb o nb e=>by
     cases q:H b with
     |none=>exact un.keep b o e q (by intro z;exact absurd (show b∈([]:List Addr)from z) (by simp)) (by simp)
     |some u=>
      rcases hO b nb with z|⟨ob,xs,z⟩
      .rw[q]at z;cases z
      .have z2:=un.frzs b ob _ z;obtain⟨e1,_⟩:=hok b _ z;obtain⟨e2,_⟩:=hok' b _ z2;rw[e]at e1;cases e1;exact e2
    refine⟨rfl,⟨λb o e=>?_,λb o e=>?_⟩,os,bare⟩
    .by_cases nb:b∈ts.map (·.1)
     .obtain⟨cc,tb⟩:=hT b nb;obtain⟨more,hm⟩:=un.tbls b #[] (hHP b nb);have hb':s'.heap.get? b=some (tabObj (#[]++more)):=hok' b _ hm;rw[hP b nb]at e;cases e;exact .inr (.inl ⟨tb.isCodeTable,rfl,#[],more,rfl,hb'⟩)
     .exact .inl (keep b o nb e)
    .by_cases nb:b∈ts.map (·.1)
     .obtain⟨more,hm⟩:=un.tbls b #[] (hHP b nb);exact⟨_,hok' b _ hm⟩
     .exact⟨o,keep b o nb e⟩
 cases hk:K.lookup a with
 |some o=>
  have e:=KX a o hk;rw[ha]at e;cases e;refine core (λb=>if b∈ts.map (·.1)then some (.tbl #[])else none) (λb nb=>.inl (if_neg nb)) (λP hp=>if_pos hp) (.inr ⟨_,vs.toArray,_,hk,rfl,rfl,rfl,by rw[size_toArray,lenV];exact hl,by simpa using rv⟩) (λb u z=>?_) (λb z=>?_) λz=>absurd (if_neg haP) z
  .by_cases hb:b∈ts.map (·.1)
   .have z':=(if_pos hb).symm.trans z;cases z';exact hP b hb
   .have z':=(if_neg hb).symm.trans z;cases z'
  .by_cases hb:b∈ts.map (·.1)
   .exact .inr hb
   .exact absurd (if_neg hb) z
 |none=>
  refine core (λb=>if b∈ts.map (·.1)then some (.tbl #[])else if b=a then some (.frz { cls:=.type "list",data:=.seq vs.toArray } (.lst (ns.map V.int)))else none) (λb nb=>?_) (λP hp=>if_pos hp) (.inl (.inr ⟨{ cls:=.type "list",data:=.seq vs.toArray },(if_neg haP).trans (if_pos rfl)⟩)) (λb u z=>?_) (λb z=>?_) λ_=>hk
  .rw[if_neg nb];by_cases hb:b=a
   .exact .inr ⟨_,_,if_pos hb⟩
   .exact .inl (if_neg hb)
  .by_cases hp:b∈ts.map (·.1)
   .have z':=(if_pos hp).symm.trans z;cases z';exact hP b hp
   .have z:=(if_neg hp).symm.trans z;by_cases hb:b=a
    .have z':=(if_pos hb).symm.trans z;cases z';subst hb;exact⟨ha,by rw[length_map];exact hl,vs,_,rv,ha⟩
    .have z':=(if_neg hb).symm.trans z;cases z'
  .by_cases hp:b∈ts.map (·.1)
   .exact .inr hp
   .by_cases hb:b=a
    .exact .inl hb
    .exact absurd ((if_neg hp).trans (if_neg hb)) z
def walkL{l:PySem.W.OpenLaw}{n k:Nat}{q:Program}{loose:List Str}{XP:(Str->Option Value)->Heap->Prop}{YP:World->Heap->Prop}{d:DefRec}{K:Params->PySem.W.Frag}{F:List D->Hd->Option (D×Hd)}(xs:List (Str×Str×Nat×Nat))
 (hn:l.most=some n) (hn2:n<=sizeLine) (hdf:d.params.defaults=[]) (hr:Room k callerA) (hdr:∀x∈xs,∃dr,(recsOf q).find? (λe=>e.name==x.1)=some dr)
 (hF:∀ns:List Int,∃hd',F [.ro ns] []=some (.im (.bl true),hd'))
 (hY:∀(w:World) (h:Heap),YP w h->(K w.params).In h)
 (G:∀(w:World) (mg:Str->Option Value) (fa:Addr) (h:Heap) (c P:Str->Addr),(K w.params).In h->h.Ns mainGlobals mg->mg d.name=some (.ref fa) ->
  (∀x∈xs,h.get? (P x.1)=some (tabObj #[])/\CodeHd h (c x.1) (P x.1)/\∃a o fd,mg x.1=some (.ref a)/\h.get? a=some o/\o.data=.func fd/\fd.code=.ref (c x.1)) ->
  (∃g,(K w.params).lookup mainGlobals=some g)/\∃fd:FuncData,(∀(s:Shared) (u:Value),BindsTo s fd ⟨[u],[]⟩ [("_law_script",u)])/\
   ∀base:Heap,(Bu (K w.params) (xs.map λx=>(P x.1,x.2))).In base->base.Ns mainGlobals mg->(∀x∈xs,CodeHd base (c x.1) (P x.1))->(∀x∈xs,base.BuiltinsAt mg (P x.1))->FnOk l.prog w (Bu (K w.params) (xs.map λx=>(P x.1,x.2))) mg base CX0 k fa fd ["_law_script"] (spF (Bu (K w.params) (xs.map λx=>(P x.1,x.2))) 1 F)):
 PySem.W.WalkO q loose XP YP l.row.toRowW d [] (λf vs=>PySem.call f vs):=by
 refine Att.attach_call hn hdf λw s₀ s₁ mg mb fa o pm cd doc a vs ns Gr Y ho hd hcd hmg hobj hints hlen hg=>?_;have KX:=hY w _ Y;have each:∀x:Str,∃cp:Addr×Addr,(∃y∈xs,y.1=x)->(∃cc,s₁.heap.TableAt cc cp.2 #[])/\CodeHd s₁.heap cp.1 cp.2/\∃a o fd,mg x=some (.ref a)/\s₁.heap.get? a=some o/\o.data=.func fd/\fd.code=.ref cp.1:=by
  intro x;by_cases hx:∃y∈xs,y.1=x
  .obtain⟨y,hy,rfl⟩:=hx;obtain⟨dr,hdr⟩:=hdr y hy;have hnm:dr.name=y.1:=beq_iff_eq.mp (List.find?_some (p:=λe:DefRec=>e.name==y.1) hdr);obtain⟨a',o',fd',c,P,h1,h2,h3,h4,h5,h6⟩:=Gr.T.tab dr (List.mem_of_find?_eq_some hdr);rw[hnm]at h1;exact⟨(c,P),λ_=>⟨⟨_,h6⟩,CodeHd.of h5 h6,a',o',fd',h1,h2,h3,h4⟩⟩
  .exact⟨(0,0),λh=>absurd h hx⟩
 obtain⟨cp,hcp⟩:=Classical.skolem.mp each;have hcp:∀x∈xs,(∃cc,s₁.heap.TableAt cc (cp x.1).2 #[])/\CodeHd s₁.heap (cp x.1).1 (cp x.1).2/\∃a o fd,mg x.1=some (.ref a)/\s₁.heap.get? a=some o/\o.data=.func fd/\fd.code=.ref (cp x.1).1:=λx hx=>hcp x.1 ⟨x,hx,rfl⟩;have hts:∀P∈(xs.map λx=>((cp x.1).2,x.2)).map (·.1),∃x∈xs,P=(cp x.1).2:=λP hP=>by
  obtain⟨t,ht,rfl⟩:=mem_map.mp hP;obtain⟨x,hx,rfl⟩:=mem_map.mp ht;exact⟨x,hx,rfl⟩
 have hP:∀x∈xs,s₁.heap.get? (cp x.1).2=some (tabObj #[]):=λx hx=>by
  obtain⟨⟨cc,t⟩,_⟩:=hcp x hx;exact t.2
 have hmP:mainGlobals∉(xs.map λx=>((cp x.1).2,x.2)).map (·.1):=λz=>by
  obtain⟨x,hx,ez⟩:=hts _ z;obtain⟨o,es,ep,e,dd,_⟩:=Gr.T.g;rw[ez,hP x hx]at e;cases e;cases dd
 obtain⟨⟨g,hgl⟩,fd,hb,hFn⟩:=G w mg fa _ (λx=>(cp x).1) (λx=>(cp x).2) KX Gr.T.g hmg λx hx=>⟨hP x hx,(hcp x hx).2⟩
 refine Px (ts:=xs.map λx=>((cp x.1).2,x.2)) (K:=Bu (K w.params) (xs.map λx=>((cp x.1).2,x.2))) (Vq KX hgl hmP) Gr.T.g Gr.T.b Gr.T.builtins Gr.T.nolimit hg hobj hints (le_trans hlen hn2) hr (λP hp=>by obtain⟨x,hx,rfl⟩:=hts P hp;exact(hcp x hx).1) (λP hp=>Vp hmP hp) (Os _ _) (λbase kb nb keep=>hFn base kb nb (λx hx=>?_) λx hx=>?_) hb (hF ns)
 .obtain⟨oc,vs',file,tf,flags,tg,inF,text,tt,e1,r1,r2,r3,r4,r5,r6,r7,r8,hne⟩:=(hcp x hx).2.1;have hn:(cp x.1).1∉(xs.map λx=>((cp x.1).2,x.2)).map (·.1):=λz=>by
   obtain⟨y,hy,ez⟩:=hts _ z;rw[ez,hP y hy]at e1;cases e1;cases r1
  exact⟨oc,vs',file,tf,flags,tg,inF,text,tt,keep (cp x.1).1 oc hn (λz=>by rw[z,hobj]at e1;cases e1;exact absurd (show Value.type "list"=Value.type "code" from r1) (by decide)) e1,r1,r2,r3,r4,r5,r6,r7,r8,hne⟩
 .obtain⟨bm,ob,b1,b2,b3,b4,b5,b6⟩:=Gr.T.bmain;have nP:∀y∈xs,bm≠(cp y.1).2:=λy hy z=>by rw[z,hP y hy]at b3;cases b3;cases b4
  have hn:bm∉(xs.map λx=>((cp x.1).2,x.2)).map (·.1):=λz=>by
   obtain⟨y,hy,ez⟩:=hts _ z;exact nP y hy ez
  refine⟨bm,ob,b1,b2,λz=>?_,nP x hx,keep bm ob hn (λz=>by rw[z,hobj]at b3;cases b3;exact absurd (show Value.type "list"=Value.type "module" from b4) (by decide)) b3,b4,b5,b6⟩;obtain⟨o,es,ep,e,dd,_⟩:=Gr.T.g;rw[<- z,b3]at e;cases e;rw[b6]at dd;cases dd
end L2
namespace L2
open PySem PySem.W PyProof.Rows
abbrev FD:=List D->Hd->Option (D×Hd)
structure EnK where
 P:Program
 w:World
 K:PySem.W.Frag
 mg:Str->Option Value
 base:Heap
structure Df where
 x:Str
 st:Stmt
 ps:List Str
 k:Nat
 F:FD
def Dn(E:EnK)(e:Df):Prop:=∃f fd,DefAt E.K E.mg e.x e.st f fd e.ps
def Kn(E:EnK)(e:Df):Prop:=∃f fd,DefAt E.K E.mg e.x e.st f fd e.ps/\FnOk E.P E.w E.K E.mg E.base CX0 e.k f fd e.ps (spF E.K e.ps.length e.F)/\∀ds hd z,e.F ds hd=some z->ds.length=e.ps.length
def okK{E:EnK}{x:Str}{st:Stmt}{ps N:List Str}{j k:Nat}{m:MS}{F:FD}(D:Dn E ⟨x,st,ps,k,F⟩)(S:FnScope N ps (AM st))(hF:F=mkF ps.length N.length m)(hk:k=j+1)
 (h:∀(f:Addr) (cdv:Value) (A:Around) (outer:List Env) (s:Shared) (H:Hp) (Ek:XK),Room j (A.deeper (envOfC x (AM st) s.heap.objs.size f cdv))->∃t,QSs E.K (Gk CX0 E.P E.w E.K E.mg E.base N x (AM st) f cdv A outer s H Ek).nox (Bl st) t m):Kn E ⟨x,st,ps,k,F⟩:=by
 obtain⟨f,fd,D⟩:=D;subst hF;subst hk;exact⟨f,fd,D,Vj D S (h f),Vo⟩
def ok0{E:EnK}{x:Str}{st:Stmt}{ps:List Str}{k k':Nat}{F:FD}(D:Dn E ⟨x,st,ps,k',F⟩):Kn E ⟨x,st,ps,k,λ_ _=>none⟩:=by
 obtain⟨f,fd,D⟩:=D;refine⟨f,fd,D,⟨λvs H Q E h=>h.1,λA outer s H args us vs Q E hr e0 hb hv h=>?_⟩,λ_ _ _ h=>nomatch h⟩;obtain⟨_,_,_,_,_,_,_,_,e,_⟩:=h;cases e
section
variable{K:PySem.W.Frag}{X:Cx}{e:Expr}{es:List Expr}{t:TA}{m:MA}{x:Str}{j k:Nat}{ps:List Str}{F:FD}{st:Stmt}{p pos:Pos}
def qcW(w:Nat)(G:Kn ⟨X.prog,X.w,X.K,X.mg,X.base⟩ ⟨x,st,ps,j,F⟩)(hr:Room k X.A)(ha:QA K X (e::es) t m)
 (hjk:j<=k:=by first|decide|omega) (hg:Gl X x:=by rfl) (hdb:(x==("__debug__":Str))=false:=by decide) (he:starEach (e::es) X.env=(false,eval e X.env)::starEach es X.env:=by rfl) (hpl:(backTo pos (starEach es X.env)).any (·.1)=false:=by rfl) (hK:X.K=K:=by rfl):
 QE K X (.Call (.Name x p) (e::es) [] pos) (F5 (spF K ps.length F) [] E0 t) (AA w F m):=by
 subst hK;obtain⟨f,fd,D,G,l⟩:=G;exact S6 _ w G hr D ha l hjk hg hdb he hpl
def qcG(G:Kn ⟨X.prog,X.w,X.K,X.mg,X.base⟩ ⟨x,st,ps,j,F⟩)(hr:Room k X.A)(ha:QA K X (e::es) t m)
 (hjk:j<=k:=by first|decide|omega) (hg:Gl X x:=by rfl) (hdb:(x==("__debug__":Str))=false:=by decide) (he:starEach (e::es) X.env=(false,eval e X.env)::starEach es X.env:=by rfl) (hpl:(backTo pos (starEach es X.env)).any (·.1)=false:=by rfl) (hK:X.K=K:=by rfl):
 QE K X (.Call (.Name x p) (e::es) [] pos) (F5 (spF K ps.length F) [] E0 t) (Ak F m):=by
 subst hK;obtain⟨f,fd,D,G,l⟩:=G;exact S7 _ G hr D ha l hjk hg hdb he hpl
variable{c P:Addr}{scope:Scope}{ix:List Nat}{params:Arguments}{body:Expr}{lpos kpos:Pos}{te tb:TE}{mi mb:ME}{fd:FuncData}{cdv:Value}{q:Str}
end
def FnAt(K:PySem.W.Frag)(n:Str)(s:Stmt)(f:Addr)(cd:Value):Prop:=∃oc kV dc pm ct od an sl,PySem.W.nsIn K mainGlobals n=some (some (.ref f))/\K.lookup f=some ⟨oc,od,.func (PySem.W.fnOf n n (CT s) (Bl s) (AM s) .none kV dc pm an cd ct),sl⟩/\PySem.W.codeIn K cd n=true/\PySem.W.keepIn K (.ref f)=true
def Fe(K:PySem.W.Frag)(e:Df):Prop:=∃f cd,FnAt K e.x e.st f cd
abbrev Xs:=List (Str×Str×Nat×Nat)
def HX(xs:Xs)(mg:Str->Option Value)(h:Heap)(c P:Str->Addr):Prop:=∀x∈xs,h.get? (P x.1)=some (tabObj #[])/\CodeHd h (c x.1) (P x.1)/\∃a o fd,mg x.1=some (.ref a)/\h.get? a=some o/\o.data=.func fd/\fd.code=.ref (c x.1)
abbrev tbs(xs:Xs)(P:Str->Addr):List Tb:=xs.map λx=>(P x.1,x.2)
abbrev enM(l:PySem.W.OpenLaw)(w:World)(K:PySem.W.Frag)(xs:Xs)(P:Str->Addr)(mg:Str->Option Value)(base:Heap):EnK:=⟨l.prog,w,Bu K (tbs xs P),mg,base⟩
def Bd(e:Df):Prop:=∀(kV doc pm:Value) (an:Option Addr) (cdv ct:Value) (us:List Value),us.length=e.ps.length->bindArgs (PySem.W.fnOf e.x e.x (CT e.st) (Bl e.st) (AM e.st) .none kV doc pm an cdv ct) ⟨us,[]⟩=pure (e.ps.zip us)
section
variable{K:PySem.W.Frag}{h:Heap}{mg:Str->Option Value}{xs:Xs}{c P:Str->Addr}(X:K.In h)(G:h.Ns mainGlobals mg)(hx:HX xs mg h c P)
include hx in
theorem bN:∀P'∈(tbs xs P).map (·.1),h.get? P'=some (tabObj #[]):=λP' hp=>by
 obtain⟨t,ht,rfl⟩:=mem_map.mp hp;obtain⟨x,hxx,rfl⟩:=mem_map.mp ht;exact(hx x hxx).1
include X G hx in
theorem FnAt.def{e:Df}{f:Addr}{cd:Value}(H:FnAt K e.x e.st f cd)(b:Bd e):∃fd,DefAt (Bu K (tbs xs P)) mg e.x e.st f fd e.ps/\fd.code=cd:=by
 obtain⟨oc,kV,dc,pm,ct,od,an,sl,a,l,cc,k⟩:=H;have F:=Fun.mark (ts:=tbs xs P) (ZF (st:=e.st) l cc k) X (bN hx);exact⟨_,⟨F,PySem.W.mg_of X G a,F.binds b⟩,rfl⟩
include X G hx in
theorem Fe.dn{e:Df}(H:Fe K e)(b:Bd e)(l:PySem.W.OpenLaw)(w:World)(base:Heap):Dn (enM l w K xs P mg base) e:=by
 obtain⟨f,cd,H⟩:=H;obtain⟨fd,D,_⟩:=H.def X G hx b;exact⟨f,fd,D⟩
include X G hx in
include X G hx in
end
def Zs(K:PySem.W.Frag):Prop:=∀n∈(["list","tuple","len","range","repr","sum","min","max","abs","all","any","sorted","zip","isinstance","int","bool","str","set","enumerate","reversed","dict"]:List Str),PySem.W.nsIn K mainGlobals n=some none
def Zs.blt{K:PySem.W.Frag}(Z:Zs K){h:Heap}{mg:Str->Option Value}(X:K.In h)(G:h.Ns mainGlobals mg):BltA mg:=by
 constructor<;>exact PySem.W.mg_none_of X G (Z _ (by simp))
def bd1{e:Df}(hl:e.ps.length=1:=by rfl)(h:∀(kV doc pm:Value) (an:Option Addr) (cdv ct:Value) a,bindArgs (PySem.W.fnOf e.x e.x (CT e.st) (Bl e.st) (AM e.st) .none kV doc pm an cdv ct) ⟨[a],[]⟩=pure (e.ps.zip [a]):=by intros;rfl):Bd e:=λ_ _ _ _ _ _ us hu=>match us,hu.trans hl with|[_],_=>h ..
def bd2{e:Df}(hl:e.ps.length=2:=by rfl)(h:∀(kV doc pm:Value) (an:Option Addr) (cdv ct:Value) a b,bindArgs (PySem.W.fnOf e.x e.x (CT e.st) (Bl e.st) (AM e.st) .none kV doc pm an cdv ct) ⟨[a,b],[]⟩=pure (e.ps.zip [a,b]):=by intros;rfl):Bd e:=λ_ _ _ _ _ _ us hu=>match us,hu.trans hl with|[_,_],_=>h ..
def bd3{e:Df}(hl:e.ps.length=3:=by rfl)(h:∀(kV doc pm:Value) (an:Option Addr) (cdv ct:Value) a b c,bindArgs (PySem.W.fnOf e.x e.x (CT e.st) (Bl e.st) (AM e.st) .none kV doc pm an cdv ct) ⟨[a,b,c],[]⟩=pure (e.ps.zip [a,b,c]):=by intros;rfl):Bd e:=λ_ _ _ _ _ _ us hu=>match us,hu.trans hl with|[_,_,_],_=>h ..
def bd4{e:Df}(hl:e.ps.length=4:=by rfl)(h:∀(kV doc pm:Value) (an:Option Addr) (cdv ct:Value) a b c d,bindArgs (PySem.W.fnOf e.x e.x (CT e.st) (Bl e.st) (AM e.st) .none kV doc pm an cdv ct) ⟨[a,b,c,d],[]⟩=pure (e.ps.zip [a,b,c,d]):=by intros;rfl):Bd e:=λ_ _ _ _ _ _ us hu=>match us,hu.trans hl with|[_,_,_,_],_=>h ..
def Bb{N ps:List Str}{sc:Scope}(h:(decide (sc.kind=.function)&&!sc.isCoroutine&&!sc.isGenerator&&ndB N&&(N.take ps.length==ps)&&(ps.all λx=>sc.names.lookup x==some .local||sc.names.lookup x==some .cell)&&sc.names.all λy=>y.2 != .free)=true):FnScope N ps sc:=by
 simp only[Bool.and_eq_true,all_eq_true,Bool.or_eq_true,beq_iff_eq,decide_eq_true_eq,Bool.not_eq_true',bne_iff_ne]at h;obtain⟨⟨⟨⟨⟨⟨h1,h2⟩,h3⟩,h4⟩,h5⟩,h6⟩,h7⟩:=h;exact⟨h1,h2,h3,ED h4,h5,h6,h7⟩
abbrev HG(l:PySem.W.OpenLaw)(w:World)(K:PySem.W.Frag)(xs:Xs)(mg:Str->Option Value)(c P:Str->Addr)(fa:Addr)(e:Df):Prop:=(∃g,K.lookup mainGlobals=some g)/\∃fd:FuncData,(∀(s:Shared) (v:Value),BindsTo s fd ⟨[v],[]⟩ [("_law_script",v)])/\∀base:Heap,(Bu K (tbs xs P)).In base->base.Ns mainGlobals mg->(∀x∈xs,CodeHd base (c x.1) (P x.1))->(∀x∈xs,base.BuiltinsAt mg (P x.1))->FnOk l.prog w (Bu K (tbs xs P)) mg base CX0 e.k fa fd ["_law_script"] (spF (Bu K (tbs xs P)) 1 e.F)
def SX{l:PySem.W.OpenLaw}{w:World}{K:PySem.W.Frag}{h:Heap}{mg:Str->Option Value}{fa:Addr}{xs:Xs}{c P:Str->Addr}{e:Df}(X:K.In h)(G:h.Ns mainGlobals mg)(hfa:mg e.x=some (.ref fa))(hx:HX xs mg h c P)(H:Fe K e)(b:Bd e)(hps:e.ps=(["_law_script"]:List Str))
 (ok:∀base:Heap,(∀x∈xs,CodeHd base (c x.1) (P x.1))->(∀x∈xs,base.BuiltinsAt mg (P x.1))->Kn (enM l w K xs P mg base) e):
 HG l w K xs mg c P fa e:=by
 obtain⟨f,cd,H⟩:=H;obtain⟨fd,D,_⟩:=H.def X G hx b;obtain⟨oc,kV,dc,pm,ct,od,an,sl,a,lk,cc,k⟩:=H;have hg:∃g,K.lookup mainGlobals=some g:=by
  cases e:K.lookup mainGlobals with
  |some g=>exact⟨g,rfl⟩
  |none=>unfold PySem.W.nsIn at a;rw[e]at a;cases a
 have e1:=hfa.symm.trans D.mg;cases e1;refine⟨hg,fd,λs v=>?_,λbase _ _ hd bl=>?_⟩
 .obtain⟨⟨oc',od',kV',dc',pm',an',cd',ct',sl',rfl,_,_⟩,_⟩:=D.fn;have:=b kV' dc' pm' an' cd' ct' [v] (by rw[hps];rfl);rw[hps]at this;exact .of_eq this
 .obtain⟨f',fd',D',F',_⟩:=ok base hd bl;have e2:=D.mg.symm.trans D'.mg;cases e2;obtain⟨⟨oc',od',kV',dc',pm',an',cd',ct',sl',h1,h2,_⟩,_⟩:=D.fn;obtain⟨⟨oc2,od2,kV2,dc2,pm2,an2,cd2,ct2,sl2,h3,h4,_⟩,_⟩:=D'.fn;have e3:=h2.symm.trans h4;cases e3;rw[hps]at F';exact F'
end L2
namespace L2
open PySem PySem.Spec PyProof.Rows
section
variable{X:Cx}
def TC:R2:=λx y H Q=>∃a b:Str,x=.str a/\y=.str b/\a.length+b.length<=sizeLine/\Q (.str (a++b)) H
def Vf:OpR X (binaryOp .Add) TC:=by
 intro pins s σ H x y v u Q I rx ry h;obtain⟨a,b,rfl,rfl,hl,q⟩:=h;obtain⟨t,rfl⟩:=rx;obtain⟨t',rfl⟩:=ry;exact SB.add (λt' k=>⟨.str (a++b),H,I.tok k,⟨_,rfl⟩,q⟩) hl
open Classical in
def HP:D->D->Hd->Option (D×Hd)
 |.im (.str a),.im (.str b),hd=>if Be (a.length+b.length)then some (.im (.str (a++b)),hd)else none
 |_,_,_=>none
def Ud{K:PySem.W.Frag}:RB K TC HP:=by
 intro ρ H hd d e v u Q z hd' hR h1 h2 hf hQ;unfold HP at hf;split at hf
 .split at hf
  .next c=>
   cases hf;simp only[RD,RI]at h1 h2;subst h1 h2;exact⟨_,_,rfl,rfl,c,hQ ρ H _ .refl hR (by simp[RD,RI])⟩
  .cases hf
 .cases hf
def GH(a:Str)(l u:Option Int):Str:=Txt.slice a l u
def Ro:V->Option Int->Option Int->Hp->VK->Prop:=λx lo hi H Q=>∃a:Str,x=.str a/\a.length<=sizeLine/\Q (.str (GH a lo hi)) H
def Wp:SlR X Ro:=by
 intro pins s σ H x v vl vu lo hi sl Q I rx hs pl pu h;obtain⟨a,rfl,hl,q⟩:=h;obtain⟨t,rfl⟩:=rx;refine⟨"str",_,PySem.F.slot_str_getitem.lookup,typeIs_str _ _ _,?_⟩;have key:∀(l u:Option (Int×Tok)),vl=partValue l->vu=partValue u->lo=l.map (·.1)->hi=u.map (·.1)->wpAny (model X.prog X.w) X.A (getItem (.str a t) (.ref sl)) (EP X pins σ Q) X.xe s:=by
  intro l u e1 e2 e3 e4;subst e3 e4;obtain⟨o,h1,h2,h3⟩:=hs;refine wpAny_getItem_str_slice (l:=l) (u:=u) (st:=none) ⟨o,h1,h2,by rw[h3,e1,e2];rfl⟩ rfl ?_;exact post_val_or_str ⟨le_trans (Txt.slice_le a _ _) hl,λt' k=>⟨.str (GH a _ _),H,I.tok k,⟨_,rfl⟩,q⟩⟩
 cases pl<;>cases pu
 .exact key none none rfl rfl rfl rfl
 .exact key none (some (_,_)) rfl rfl rfl rfl
 .exact key (some (_,_)) none rfl rfl rfl rfl
 .exact key (some (_,_)) (some (_,_)) rfl rfl rfl rfl
open Classical in
def Hz(m:ME)(ml mh:MO1):ME:=λls hd=>(m ls hd).bind λp=>(ml ls p.2).bind λl=>(mh ls l.2).bind λh=>match p.1 with
 |.im (.str a)=>if Be a.length then some (.im (.str (GH a l.1 h.1)),h.2)else none
 |_=>none
def XQ{K:PySem.W.Frag}{t:TE}{tl th:TO}{m:ME}{ml mh:MO1}(h:RE K t m)(hl:RO1 K tl ml)(hh:RO1 K th mh):RE K (tSl Ro t tl th) (Hz m ml mh):=by
 and_intros;obtain⟨⟨d1,h1⟩,e1,hm⟩:=dF hm;obtain⟨⟨d2,h2⟩,e2,hm⟩:=dF hm;obtain⟨⟨d3,h3⟩,e3,hm⟩:=dF hm;dsimp only at e2 e3 hm;split at hm
 .split at hm
  .next c=>
   cases hm;refine h ρ σ H hd ls _ _ h1 hR hL e1 λρ1 H1 v1 x1 R1 r1=>?_;refine hl ρ1 σ H1 h1 ls _ d2 h2 R1 (hL.ext hR x1) e2 λρ2 H2 x2 R2=>?_;refine hh ρ2 σ H2 h2 ls _ d3 _ R2 (hL.ext hR (x1.trans R1 x2)) e3 λρ3 H3 x3 R3=>?_;simp only[RD,RI]at r1;subst r1;exact⟨_,rfl,c,hQ ρ3 _ _ ((x1.trans R1 x2).trans R2 x3) R3 (by simp[RD,RI])⟩
  .cases hm
 .cases hm
def Y8(K:PySem.W.Frag){e:Expr}{te:TE}{me:ME}{lo hi:Option Expr}{tl th:TO}{ml mh:MO1}{p2 pos:Pos}(h:QE K X e te me)(hl:QO K X lo tl ml)(hh:QO K X hi th mh):QE K X (.Subscript e (.Slice lo hi none p2) pos) (tSl Ro te tl th) (Hz me ml mh):=⟨Fv Wp h.p hl.p hh.p,XQ h.r hl.r hh.r⟩
def GU(a:Str):Str:=⟨((Builtin.Str.strSliceIndices none none (-1) a.length).filterMap (a.cps[·]?)).toArray⟩
def Mm(a:Str):(GU a).length<=a.length:=by
 show((Builtin.Str.strSliceIndices none none (-1) a.length).filterMap (a.cps[·]?)).toArray.size<=_;rw[size_toArray];refine le_trans (List.length_filterMap_le _ _) ?_;unfold Builtin.Str.strSliceIndices sliceRange;simp;split<;>omega
def NV(K:PySem.W.Frag)(te ts:TE):TE:=λσ H Q=>te σ H λx H1=>ts σ H1 λy H2=>y=.int (-1)/\((∃a xs,x=.ref a/\SqT K H2 a xs/\∀p,H2 p=none->Q (.ref p) (upd H2 p (.tup xs.reverse)))∨∃a:Str,x=.str a/\a.length<=sizeLine/\Q (.str (GU a)) H2)
def VW{e stp:Expr}{te ts:TE}{pos p2:Pos}(he:PE X e te)(hs:PE X stp ts):PE X (.Subscript e (.Slice none none (some stp) p2) pos) (NV X.K te ts):=by
 intro pins s σ H Q I h;refine Subscript_ (thn (he pins s σ H _ I h) λv s1 ⟨x,H1,I1,r1,q1⟩=>?_);refine wpAny_Slice ?_;rw[evalPart_none];refine wpAny_pure (wpAny_pure ?_);rw[evalPart_some];refine thn (hs pins s1 σ H1 _ I1 q1) λvs s3 ⟨y,H3,I3,r3,q3⟩=>?_;obtain⟨rfl,q3⟩:=q3;obtain⟨t,rfl⟩:=r3;have I4:Inv X pins σ H3 { s3 with heap:=s3.heap.push { cls:=.type "slice",data:=.fields #[.none,.none,.int (-1) t] } }:=I3.kept (t':=s3.toks) λb ob q=>Heap.get?_push_of_some _ q;rcases q3 with⟨a,xs,rfl,hx,q⟩|⟨a,rfl,hl,q⟩
 .cases r1;obtain⟨its,r,ht,hz⟩:=I4.tuple hx;have hlen:=r.length;have hg:wpAny (model X.prog X.w) X.A (getItem (.ref a) (.ref s3.heap.objs.size)) (EP X pins σ Q) X.xe { s3 with heap:=s3.heap.push { cls:=.type "slice",data:=.fields #[.none,.none,.int (-1) t] } }:=by
   refine HT.getItem_tuple_rev ht (Heap.IsSliceOf.new ..) ?_ (by rw[size_toArray]<;>omega);refine⟨.ref _,_,I4.laid (t':=s3.toks) (o:=.tup xs.reverse) (λb ob q=>Heap.get?_push_of_some _ q) (le_refl _) ?_,rfl,q _ (I4.hok.fresh (le_refl _))⟩;exact⟨by rw[length_reverse];exact hz,its.reverse,Hj r,IsTupD.new _ _⟩
  show wpAny (model X.prog X.w) X.A (subscriptTail e (.Slice none none (some stp) p2) (.ref a) (.ref s3.heap.objs.size)) (EP X pins σ Q) X.xe { s3 with heap:=s3.heap.push { cls:=.type "slice",data:=.fields #[.none,.none,.int (-1) t] } };exact tail_any (ops:=[.ref a,.ref s3.heap.objs.size]) ht.typeIs PyProof.Rows.slot_tuple_getitem.lookup hg (by with_unfolding_all rfl)
 .obtain⟨t2,rfl⟩:=r1;have hg:wpAny (model X.prog X.w) X.A (getItem (.str a t2) (.ref s3.heap.objs.size)) (EP X pins σ Q) X.xe { s3 with heap:=s3.heap.push { cls:=.type "slice",data:=.fields #[.none,.none,.int (-1) t] } }:=by
   refine wpAny_getItem_str_slice (l:=none) (u:=none) (st:=some (-1,t)) ⟨_,Heap.get?_push_size _ rfl,rfl,rfl⟩ rfl ?_;refine⟨le_trans (Mm a) hl,?_⟩;exact⟨.str (GU a),H3,I4.tok _,⟨_,rfl⟩,q⟩
  show wpAny (model X.prog X.w) X.A (subscriptTail e (.Slice none none (some stp) p2) (.str a t2) (.ref s3.heap.objs.size)) (EP X pins σ Q) X.xe { s3 with heap:=s3.heap.push { cls:=.type "slice",data:=.fields #[.none,.none,.int (-1) t] } };exact tail_any (ops:=[.str a t2,.ref s3.heap.objs.size]) (typeIs_str _ _ _) PySem.F.slot_str_getitem.lookup hg (by with_unfolding_all rfl)
open Classical in
def Di(m ms:ME):ME:=λls hd=>(m ls hd).bind λp=>(ms ls p.2).bind λq=>match q.1,p.1 with
 |.im (.int i),.im (.str a)=>if i=-1/\Be a.length then some (.im (.str (GU a)),q.2)else none
 |.im (.int i),d=>if i=-1 then(AN d).map λds=>(AK ds.reverse,q.2)else none
 |_,_=>none
def UT{K:PySem.W.Frag}{te ts:TE}{m ms:ME}(h:RE K te m)(hs:RE K ts ms):RE K (NV K te ts) (Di m ms):=by
 and_intros;obtain⟨⟨d1,h1⟩,e1,hm⟩:=dF hm;obtain⟨⟨d2,h2⟩,e2,hm⟩:=dF hm;dsimp only at e2 hm;split at hm
 .split at hm
  .next c=>
   cases hm;obtain⟨rfl,c⟩:=c;refine h ρ σ H hd ls _ _ h1 hR hL e1 λρ1 H1 v1 x1 R1 r1=>?_;refine hs ρ1 σ H1 h1 ls _ _ _ R1 (hL.ext hR x1) e2 λρ2 H2 v x2 R2 r2=>?_;simp only[RD,RI]at r1 r2;subst r1;exact⟨r2,.inr ⟨_,rfl,c,hQ ρ2 _ _ (x1.trans R1 x2) R2 (by simp[RD,RI])⟩⟩
  .cases hm
 .split at hm
  .next hi=>
   obtain⟨ds,e3,e4⟩:=dG hm;cases e4;subst hi;refine h ρ σ H hd ls _ d1 h1 hR hL e1 λρ1 H1 v1 x1 R1 r1=>?_;refine hs ρ1 σ H1 h1 ls _ _ _ R1 (hL.ext hR x1) e2 λρ2 H2 v x2 R2 r2=>?_;simp only[RD,RI]at r2;obtain⟨a,xs,rfl,q,r⟩:=(r1.ext R1 x2).tup e3;refine⟨r2,.inl ⟨a,xs,rfl,q,λp hp=>?_⟩⟩;obtain⟨R3,x3⟩:=R2.hid (ho:=.tup xs.reverse) hp;exact hQ ρ2 _ _ ((x1.trans R1 x2).trans R2 x3) R3 (Ba (SqT.of Ad) ((RDs.rev r).ext R2 x3))
  .cases hm
 .cases hm
def V4{K:PySem.W.Frag}{e stp:Expr}{te ts:TE}{m ms:ME}{pos p2:Pos}(h:QE K X e te m)(hs:QE K X stp ts ms)(hK:X.K=K:=by rfl):QE K X (.Subscript e (.Slice none none (some stp) p2) pos) (NV K te ts) (Di m ms):=by
 subst hK;exact⟨VW h.p hs.p,UT h.r hs.r⟩
def Rn:V->List V->Hp->VK->Prop:=λx vs H Q=>∃a:Str,x=.str a/\vs=[]/\a.length<=5592405/\Q (.str (Txt.upper a)) H
def Yv:MtR X "str.upper" Rn:=by
 intro pins s σ H x vs v us Q I rx rv h;obtain⟨a,rfl,rfl,hl,q⟩:=h;obtain⟨t,rfl⟩:=rx;cases rv;exact SCL.upper hl λ_=>⟨.str (Txt.upper a),H,I.tok _,⟨_,rfl⟩,q⟩
def Hy(m:ME):ME:=λls hd=>(m ls hd).bind λp=>match p.1 with
 |.im (.str a)=>if a.length<=5592405 then some (.im (.str (Txt.upper a)),p.2)else none
 |_=>none
def XM{K:PySem.W.Frag}{t:TE}{m:ME}(h:RE K t m):RE K (RO K "str" Rn t) (Hy m):=by
 and_intros;obtain⟨⟨d1,h1⟩,e1,hm⟩:=dF hm;dsimp only at hm;split at hm
 .split at hm
  .next c=>
   cases hm;refine h ρ σ H hd ls _ _ _ hR hL e1 λρ1 H1 v1 x1 R1 r1=>?_;simp only[RD,RI]at r1;subst r1;exact⟨rfl,_,rfl,rfl,c,hQ ρ1 _ _ x1 R1 (by simp[RD,RI])⟩
  .cases hm
 .cases hm
def Y3(K:PySem.W.Frag){o:Expr}{to:TE}{mo:ME}{apos cpos:Pos}(ho:QE K X o to mo)
 (hbase:attributeBase o "upper" X.env (eval o X.env)=eval o X.env:=by rfl) (hline:(apos.endLine==cpos.line)=true:=by rfl) (hK:X.K=K:=by rfl):QE K X (.Call (.Attribute o "upper" apos) [] [] cpos) (RO K "str" Rn to) (Hy mo):=by
 subst hK;exact⟨Yj PySem.F.plainAttrs_str PySem.F.slot_str_upper PySem.F.type_str_upper Yv ho.p hbase hline,XM ho.r⟩
end
def E3{α:Type}:List (Option α)->Option (List α)
 |[]=>some []
 |some x::r=>(E3 r).map (x::·)
 |none::_=>none
def pyN:Nat->Hd->D->Option PyData
 |_,_,.im i=>some i.py
 |_,_,.ro ns=>some (.list (I.pys (ns.map I.int)))
 |0,_,_=>none
 |n+1,hd,.tm ds=>(E3 (ds.map (pyN n hd))).map .tuple
 |n+1,hd,.mu k=>match hd[k]? with
  |some (.lst ds)=>(E3 (ds.map (pyN n hd))).map .list
  |_=>none
section
variable{K:PySem.W.Frag}{ρ:List Addr}{H:Hp}{hd:Hd}
def IF{f:D->Option PyData}(hf:∀d v p,RD K ρ H d v->f d=some p->Rep K H p v):∀{ds:List D} {xs:List V} {ps:List PyData},RDs K ρ H ds xs->E3 (ds.map f)=some ps->Bq K H ps xs
 |[],xs,ps,r,e=>by
  simp only[RDs]at r;subst r;simp[E3]at e;subst e;simp only[Bq]
 |d::ds,xs,ps,r,e=>by
  simp only[RDs]at r;obtain⟨x,r',rfl,h1,h2⟩:=r;rw[map_cons]at e;cases q:f d with
  |none=>rw[q]at e;cases e
  |some p=>
   rw[q]at e;obtain⟨ps',e1,rfl⟩:=dG (show(E3 (ds.map f)).map (p::·)=some ps from e);simp only[Bq];exact⟨x,r',rfl,hf d x p h1 q,IF hf h2 e1⟩
def FQ(hR:RH K ρ H hd):∀(n:Nat) (d:D) (v:V) (p:PyData),RD K ρ H d v->pyN n hd d=some p->Rep K H p v
 |n,.im i,v,p,h,e=>Du (hd:=hd) hR h (by cases n<;>exact e)
 |n,.ro ns,v,p,h,e=>Du (hd:=hd) hR h (by cases n<;>exact e)
 |0,.tm ds,v,p,h,e=>by cases e
 |0,.mu k,v,p,h,e=>by cases e
 |n+1,.tm ds,v,p,h,e=>by
  simp only[RD]at h;obtain⟨a,xs,rfl,q,r⟩:=h;obtain⟨ps,e1,rfl⟩:=dG (show(E3 (ds.map (pyN n hd))).map PyData.tuple=some p from e);simp only[Rep];exact⟨a,xs,rfl,q,IF (λd v p=>FQ hR n d v p) r e1⟩
 |n+1,.mu k,v,p,h,e=>by
  simp only[pyN]at e;simp only[RD]at h;obtain⟨a,hn,rfl⟩:=h;split at e
  .next ds q=>
   obtain⟨ps,e1,rfl⟩:=dG e;obtain⟨xs,e2,e3⟩:=hR.lst hn q;simp only[Rep];exact⟨a,xs,rfl,SqL.of e2,IF (λd v p=>FQ hR n d v p) e3 e1⟩
  .cases e
end
def JW(neg:Bool):D->D->Hd->Option (D×Hd):=λd e hd=>match pyN 30 hd d,pyN 30 hd e with
 |some x,some y=>if x.canLay0=true/\y.canLay0=true/\min x.depth y.depth<=60 then some (.im (.bl (if neg then !PyData.eqv x y else PyData.eqv x y)),hd)else none
 |_,_=>none
def Xa{K:PySem.W.Frag}:RB K (Ny K) (JW true):=by
 intro ρ H hd d e v u Q z hd' hR h1 h2 hf hQ;unfold JW at hf;split at hf
 .next e1 e2=>
  split at hf
  .next c=>cases hf;exact⟨_,_,FQ hR _ _ _ _ h1 e1,FQ hR _ _ _ _ h2 e2,c.1,c.2.1,c.2.2,hQ ρ H _ .refl hR (by simp[RD,RI])⟩
  .cases hf
 .cases hf
open Classical in
def Cy:List D->Hd->Option (D×Hd)
 |[d],hd=>match pyN 30 hd d with
  |some p=>if Ie p then some (.im (.str p.shown),hd)else none
  |none=>none
 |_,_=>none
def Rg{K:PySem.W.Frag}:RF K (Nx K) Cy:=by
 intro ρ H hd ds vs Q z hd' hR h1 hf hQ;unfold Cy at hf;split at hf
 .split at hf
  .next p e=>
   split at hf
   .next c=>
    cases hf;simp only[RDs]at h1;obtain⟨x,r,rfl,rx,rfl⟩:=h1;exact⟨x,p,rfl,FQ hR _ _ _ _ rx e,c.1,c.2.1,c.2.2.1,c.2.2.2.1,c.2.2.2.2,hQ ρ H _ .refl hR (by simp[RD,RI])⟩
   .cases hf
  .cases hf
 .cases hf
section
variable{hd:Hd}{QE:D->Hd->Prop}{ls:Ls}{ma mb:ME}
def Th{a b:Str}(h:a.length+b.length<=1000000)(q:QE (.im (.str (a++b))) hd):WP (HP (.im (.str a)) (.im (.str b)) hd) QE:=⟨_,_,if_pos (AL h),q⟩
def Wa{ml mh:MO1}(h:WE ma ls hd λd x=>WO ml ls x λl y=>WO mh ls y λu z=>∃a:Str,d=.im (.str a)/\a.length<=1000000/\QE (.im (.str (GH a l u))) z):WE (Hz ma ml mh) ls hd QE:=by
 obtain⟨d,x,e1,l,y,e2,u,z,e3,a,rfl,c,q⟩:=h;exact⟨_,_,by simp only[Hz,e1,bind_some,e2,e3,AL c,if_true],q⟩
def Tj(h:WE ma ls hd λd x=>WE mb ls x λi y=>i=.im (.int (-1))/\∃a:Str,d=.im (.str a)/\a.length<=1000000/\QE (.im (.str (GU a))) y):WE (Di ma mb) ls hd QE:=by
 obtain⟨d,x,e1,i,y,e2,rfl,a,rfl,c,q⟩:=h;exact⟨_,_,by simp only[Di,e1,bind_some,e2,AL c,and_self,if_true],q⟩
def Tk(h:WE ma ls hd λd x=>WE mb ls x λi y=>i=.im (.int (-1))/\∃ds,AN d=some ds/\QE (AK ds.reverse) y):WE (Di ma mb) ls hd QE:=by
 obtain⟨d,x,e1,i,y,e2,rfl,ds,e3,q⟩:=h;refine⟨_,_,?_,q⟩;unfold Di;rw[e1,bind_some];dsimp only;rw[e2,bind_some];cases d with
 |im i=>cases i with
  |tup is=>exact(if_pos rfl).trans (by rw[e3];rfl)
  |_=>cases e3
 |tm es=>exact(if_pos rfl).trans (by rw[e3];rfl)
 |mu k=>cases e3
 |ro ns=>cases e3
def WZ(h:WE ma ls hd λd x=>∃a:Str,d=.im (.str a)/\a.length<=1000000/\QE (.im (.str (Txt.upper a))) x):WE (Hy ma) ls hd QE:=by
 obtain⟨d,x,e1,a,rfl,c,q⟩:=h;exact⟨_,_,by simp only[Hy,e1,bind_some];rw[if_pos (by omega)],q⟩
def WX{neg:Bool}{d e:D}{x y:PyData}(h1:pyN 30 hd d=some x)(h2:pyN 30 hd e=some y)(c:x.canLay0=true/\y.canLay0=true/\min x.depth y.depth<=60)(q:QE (.im (.bl (if neg then !PyData.eqv x y else PyData.eqv x y))) hd):WP (JW neg d e hd) QE:=⟨_,_,by unfold JW;rw[h1,h2];dsimp only;rw[if_pos c],q⟩
def Kh{d:D}{p:PyData}(h1:pyN 30 hd d=some p)(c:Ie p)(q:QE (.im (.str p.shown)) hd):WP (Cy [d] hd) QE:=⟨_,_,by show(match pyN 30 hd d with|some p=>_|none=>_)=_;rw[h1];exact if_pos c,q⟩
end
end L2
namespace L2
open PySem PySem.Spec PyProof.Rows PySem.W
def Ey(md my mx:ME):ME:=λls hd=>(md ls hd).bind λp=>(BV p.2 p.1).bind λ_=>(my ls p.2).bind λq=>(mx ls q.2).bind λr=>(BV r.2 p.1).bind λkvs=>(Ch q.1).map λk=>((B1 kvs k).getD r.1,r.2)
section
variable{K:PySem.W.Frag}
def Ri{td ty tx:TE}{md my mx:ME}(hd:RE K td md)(hy:RE K ty my)(hx:RE K tx mx):RE K (Ky td ty tx) (Ey md my mx):=by
 intro ρ σ H hd0 ls Q d hd' hR hL hm hQ;obtain⟨⟨d1,h1⟩,e1,hm⟩:=dF hm;obtain⟨kv0,e0,hm⟩:=dF hm;obtain⟨⟨d2,h2⟩,e2,hm⟩:=dF hm;obtain⟨⟨d3,h3⟩,e3,hm⟩:=dF hm;obtain⟨kvs,e4,hm⟩:=dF hm;obtain⟨k,e5,e6⟩:=dG hm;cases e6;refine hd ρ σ H hd0 ls _ d1 h1 hR hL e1 λρ1 H1 v1 x1 R1 r1=>?_;obtain⟨n,a,xs,ed,rfl,hn,l1,l2⟩:=RD.dic R1 r1 e0;refine⟨a,rfl,.inl ⟨xs,.inl l1⟩,?_⟩;refine hy ρ1 σ H1 h1 ls _ d2 _ R1 (hL.ext hR x1) e2 λρ2 H2 v2 x2 R2 r2=>?_;refine hx ρ2 σ H2 h2 ls _ d3 _ R2 (hL.ext hR (x1.trans R1 x2)) e3 λρ3 H3 v3 x3 R3 r3=>?_;obtain⟨n',a',xs',ed',ea',hn',l1',l2'⟩:=RD.dic R3 ((r1.ext R1 x2).ext R2 x3) e4;cases ea';have:=HL (r2.ext R2 x3) e5;subst this;refine⟨_,DGet.k l1',hQ ρ3 H3 _ ((x1.trans R1 x2).trans R2 x3) R3 ?_⟩;cases e:B1 kvs k with
 |some w=>
  obtain⟨v,hv,rv⟩:=l2'.val e;rw[hv];exact rv
 |none=>
  have q:=l2'.valN (k:=k);rw[e]at q;cases hv:DW xs' k with
  |some _=>rw[hv]at q;cases q
  |none=>exact r3
def S4(K:PySem.W.Frag){X:Cx}{o e f:Expr}{apos cpos:Pos}{td ty tx:TE}{md my mx:ME}(hu:X.A.units+1<cLine)(ho:QE K X o td md)(he:QE K X e ty my)(hf:QE K X f tx mx)(m1:attributeBase o "get" X.env (eval o X.env)=eval o X.env:=by rfl)
 (m2:((backTo cpos (starEach [e,f] X.env)).all (λx=>!x.1)&&(backToKw cpos (keywordEach [] X.env)).all (λx=>x.1.isSome)&&decide (([e,f]:List Expr).length+([]:List Keyword).length+(if([]:List Keyword).isEmpty then 0 else 1)<30))=true:=by rfl)
 (m3:(apos.endLine==cpos.line)=true:=by rfl) (m4:backTo cpos (starEach [e,f] X.env)=[(false,eval e X.env),(false,eval f X.env)]:=by rfl):QE K X (.Call (.Attribute o "get" apos) [e,f] [] cpos) (Ky td ty tx) (Ey md my mx):=⟨SI hu ho.p he.p hf.p ⟨m1,m2,m3,m4⟩,Ri ho.r he.r hf.r⟩
end
def Ql{md my mx:ME}{ls:Ls}{hd:Hd}{Q:D->Hd->Prop}(h:WE md ls hd λd x=>(∃kv,BV x d=some kv)/\WE my ls x λe y=>WE mx ls y λf z=>∃kvs k,BV z d=some kvs/\Ch e=some k/\Q ((B1 kvs k).getD f) z):WE (Ey md my mx) ls hd Q:=by
 obtain⟨d,x,e1,⟨kv,e0⟩,e,y,e2,f,z,e3,kvs,k,e4,e5,q⟩:=h;exact⟨_,_,by simp only[Ey,e1,bind_some,e0,e2,e3,e4,e5,map_some],q⟩
def S5{K:PySem.W.Frag}{X:Cx}{a b c:Expr}{ta tb tc:TE}{ma mb mc:ME}{pos:Pos}{op op':CmpOp}{r r':R2}{f g:D->D->Hd->Option (D×Hd)}(ho:OpR X (compareOp op) r)(hr:RB K r f)(ho':OpR X (compareOp op') r')(hr':RB K r' g)(ha:QE K X a ta ma)(hb:QE K X b tb mb)(hc:QE K X c tc mc)
 (hm:lastMarks [op,op'] [b,c]=false:=by with_unfolding_all rfl):QE K X (.Compare a [op,op'] [b,c] pos) (Kz r r' ta tb tc) (EG f g ma mb mc):=⟨SK ho ho' ha.p hb.p hc.p hm,Rk hr hr' ha.r hb.r hc.r⟩
end L2
namespace Rw
open PySem L2 Bd
def pairs_im(ps:List (Int×Int)):(ps.map Cs).map D.im=ps.map Ax:=by rw[map_map];rfl
end Rw
namespace An
open PySem L2 Bd
inductive Tv where
 |non|bl (b:Bool)|int (i:Int)|str (x:Str)|tup (l:List Tv)|lst (l:List Tv)
mutual
def Is(n:Nat)(hd:Hd):Tv->D->Prop
 |.non,d=>d=.im .non
 |.bl b,d=>d=.im (.bl b)
 |.int i,d=>d=.im (.int i)
 |.str x,d=>d=.im (.str x)
 |.tup ts,d=>∃ds,d=AK ds/\Iss n hd ts ds
 |.lst ts,d=>∃k ds,d=.mu k/\2<=k/\k<n/\hd[k]?=some (.lst ds)/\Iss n hd ts ds
def Iss(n:Nat)(hd:Hd):List Tv->List D->Prop
 |[],ds=>ds=[]
 |t::ts,ds=>∃d r,ds=d::r/\Is n hd t d/\Iss n hd ts r
end
section
variable{n n':Nat}{hd hd':Hd}
mutual
def Is.mono(hn:n<=n')(hk:∀k,2<=k->k<n->hd'[k]?=hd[k]?):∀{t:Tv} {d:D},Is n hd t d->Is n' hd' t d
 |.non,d,h=>by simpa only[Is]using h
 |.bl b,d,h=>by simpa only[Is]using h
 |.int i,d,h=>by simpa only[Is]using h
 |.str x,d,h=>by simpa only[Is]using h
 |.tup ts,d,h=>by
  simp only[Is]at h ⊢;obtain⟨ds,e,q⟩:=h;exact⟨ds,e,Iss.mono hn hk q⟩
 |.lst ts,d,h=>by
  simp only[Is]at h ⊢;obtain⟨k,ds,e,k2,kn,e2,q⟩:=h;exact⟨k,ds,e,k2,lt_of_lt_of_le kn hn,(hk k k2 kn).trans e2,Iss.mono hn hk q⟩
def Iss.mono(hn:n<=n')(hk:∀k,2<=k->k<n->hd'[k]?=hd[k]?):∀{ts:List Tv} {ds:List D},Iss n hd ts ds->Iss n' hd' ts ds
 |[],ds,h=>by simpa only[Iss]using h
 |t::ts,ds,h=>by
  simp only[Iss]at h ⊢;obtain⟨d,r,e,q,z⟩:=h;exact⟨d,r,e,Is.mono hn hk q,Iss.mono hn hk z⟩
end
def Iss.len:∀{ts:List Tv} {ds:List D},Iss n hd ts ds->ds.length=ts.length
 |[],ds,h=>by simp only[Iss]at h;subst h;rfl
 |t::ts,ds,h=>by
  simp only[Iss]at h;obtain⟨d,r,rfl,q,z⟩:=h;simp[Iss.len z]
def Iss.app:∀{ts us:List Tv} {ds es:List D},Iss n hd ts ds->Iss n hd us es->Iss n hd (ts++us) (ds++es)
 |[],us,ds,es,h,h'=>by simp only[Iss]at h;subst h;simpa using h'
 |t::ts,us,ds,es,h,h'=>by
  simp only[Iss]at h;obtain⟨d,r,rfl,q,z⟩:=h;rw[cons_append,cons_append];simp only[Iss];exact⟨d,r++es,rfl,q,z.app h'⟩
def Iss.nil:Iss n hd [] []:=by simp only[Iss]
def Iss.cons{t:Tv}{ts:List Tv}{d:D}{ds:List D}(h:Is n hd t d)(r:Iss n hd ts ds):Iss n hd (t::ts) (d::ds):=by simp only[Iss];exact⟨d,ds,rfl,h,r⟩
def Iss.one{t:Tv}{d:D}(h:Is n hd t d):Iss n hd [t] [d]:=.cons h .nil
def Iss.drop:∀(k:Nat) {ts:List Tv} {ds:List D},Iss n hd ts ds->Iss n hd (ts.drop k) (ds.drop k)
 |0,ts,ds,h=>by simpa using h
 |k+1,[],ds,h=>by simp only[Iss]at h;subst h;simpa using Iss.nil
 |k+1,t::ts,ds,h=>by
  simp only[Iss]at h;obtain⟨d,r,rfl,q,z⟩:=h;simpa using Iss.drop k z
def Iss.take:∀(k:Nat) {ts:List Tv} {ds:List D},Iss n hd ts ds->Iss n hd (ts.take k) (ds.take k)
 |0,ts,ds,h=>by simpa using Iss.nil
 |k+1,[],ds,h=>by simp only[Iss]at h;subst h;simpa using Iss.nil
 |k+1,t::ts,ds,h=>by
  simp only[Iss]at h;obtain⟨d,r,rfl,q,z⟩:=h;simpa using Iss.cons q (Iss.take k z)
def Iss.rev:∀{ts:List Tv} {ds:List D},Iss n hd ts ds->Iss n hd ts.reverse ds.reverse
 |[],ds,h=>by simp only[Iss]at h;subst h;simpa using Iss.nil
 |t::ts,ds,h=>by
  simp only[Iss]at h;obtain⟨d,r,rfl,q,z⟩:=h;rw[reverse_cons,reverse_cons];exact z.rev.app (.one q)
def Iss.get:∀{ts:List Tv} {ds:List D} {k:Nat} {t:Tv},Iss n hd ts ds->ts[k]?=some t->∃d,ds[k]?=some d/\Is n hd t d
 |[],ds,k,t,h,e=>by simp at e
 |u::ts,ds,0,t,h,e=>by
  simp only[Iss]at h;obtain⟨d,r,rfl,q,z⟩:=h;simp at e;subst e;exact⟨d,rfl,q⟩
 |u::ts,ds,k+1,t,h,e=>by
  simp only[Iss]at h;obtain⟨d,r,rfl,q,z⟩:=h;exact Iss.get (k:=k) z (by simpa using e)
def Iss.tup{ts:List Tv}{ds:List D}(h:Iss n hd ts ds):Is n hd (.tup ts) (AK ds):=by simp only[Is];exact⟨ds,rfl,h⟩
def Is.view{ts:List Tv}{d:D}(h:Is n hd (.tup ts) d):∃ds,AN d=some ds/\Iss n hd ts ds:=by
 simp only[Is]at h;obtain⟨ds,rfl,q⟩:=h;exact⟨ds,AF ds,q⟩
def ty(T:Ty):Tv->Bool
 |.non=>false
 |.bl _=>decide (T=.int∨T=.bool)
 |.int _=>decide (T=.int)
 |.str _=>decide (T=.str)
 |.tup _=>decide (T=.tuple)
 |.lst _=>decide (T=.list)
def Is.isD{t:Tv}{d:D}(T:Ty)(h:Is n hd t d):isD T hd d=some (ty T t):=by
 cases t with
 |non=>simp only[Is]at h;subst h;rfl
 |bl b=>simp only[Is]at h;subst h;rfl
 |int b=>simp only[Is]at h;subst h;rfl
 |str b=>simp only[Is]at h;subst h;rfl
 |tup ts=>
  simp only[Is]at h;obtain⟨ds,rfl,q⟩:=h;unfold AK;cases B8 ds<;>rfl
 |lst ts=>
  simp only[Is]at h;obtain⟨k,ds,rfl,_,_,e,_⟩:=h;simp[L2.isD,e,ty]
mutual
def pyT:Tv->PyData
 |.non=>.none
 |.bl b=>.bool b
 |.int i=>.int i
 |.str x=>.str x
 |.tup ts=>.tuple (FE ts)
 |.lst ts=>.list (FE ts)
def FE:List Tv->List PyData
 |[]=>[]
 |t::ts=>pyT t::FE ts
end
mutual
def Is.py:∀{t:Tv} {i:I},Is n hd t (.im i)->i.py=pyT t
 |.non,i,h=>by simp only[Is]at h;cases h;rfl
 |.bl b,i,h=>by simp only[Is]at h;cases h;rfl
 |.int b,i,h=>by simp only[Is]at h;cases h;rfl
 |.str b,i,h=>by simp only[Is]at h;cases h;rfl
 |.tup ts,i,h=>by
  simp only[Is]at h;obtain⟨ds,e,q⟩:=h;unfold AK at e;cases z:B8 ds with
  |none=>rw[z]at e;cases e
  |some is=>
   rw[z]at e;cases e;rw[DJ z]at q;rw[I.py,pyT,Iss.pys q]
 |.lst ts,i,h=>by simp only[Is]at h;obtain⟨k,ds,e,_⟩:=h;cases e
def Iss.pys:∀{ts:List Tv} {is:List I},Iss n hd ts (is.map D.im)->I.pys is=FE ts
 |[],is,h=>by
  simp only[Iss]at h;have:is=[]:=by simpa using h
  subst this;rfl
 |t::ts,is,h=>by
  simp only[Iss]at h;obtain⟨d,r,e,q,z⟩:=h;cases is with
  |nil=>cases e
  |cons i is=>
   rw[map_cons]at e;obtain⟨rfl,rfl⟩:=List.cons.inj e;rw[I.pys,FE,Is.py q,Iss.pys z]
end
mutual
def dep:Tv->Nat
 |.non=>0
 |.bl _=>0
 |.int _=>0
 |.str _=>0
 |.tup ts=>BJ ts+1
 |.lst ts=>BJ ts+1
def BJ:List Tv->Nat
 |[]=>0
 |t::ts=>max (dep t) (BJ ts)
end
def Dd(m:Nat)(i:I):pyN m hd (.im i)=some i.py:=by cases m<;>rfl
mutual
def Is.pyN:∀{t:Tv} {d:D} {m:Nat},Is n hd t d->dep t<=m->pyN m hd d=some (pyT t)
 |.non,d,m,h,hm=>by simp only[Is]at h;subst h;exact Dd m _
 |.bl b,d,m,h,hm=>by simp only[Is]at h;subst h;exact Dd m _
 |.int i,d,m,h,hm=>by simp only[Is]at h;subst h;exact Dd m _
 |.str x,d,m,h,hm=>by simp only[Is]at h;subst h;exact Dd m _
 |.tup ts,d,m,h,hm=>by
  have h0:=h;simp only[Is]at h;obtain⟨ds,e,q⟩:=h;cases m with
  |zero=>simp[dep]at hm
  |succ m=>
   unfold AK at e;cases z:B8 ds with
   |some is=>rw[z]at e;subst e;rw[Dd,Is.py h0]
   |none=>
    rw[z]at e;subst e;show(E3 (ds.map (L2.pyN m hd))).map PyData.tuple=_;rw[Iss.pyN q (by simp[dep]at hm;omega),pyT];rfl
 |.lst ts,d,m,h,hm=>by
  simp only[Is]at h;obtain⟨k,ds,rfl,_,_,e,q⟩:=h;cases m with
  |zero=>simp[dep]at hm
  |succ m=>
   show(match hd[k]? with|some (.lst ds)=>(E3 (ds.map (L2.pyN m hd))).map PyData.list|_=>none)=_;rw[e];show(E3 (ds.map (L2.pyN m hd))).map PyData.list=_;rw[Iss.pyN q (by simp[dep]at hm;omega),pyT];rfl
def Iss.pyN:∀{ts:List Tv} {ds:List D} {m:Nat},Iss n hd ts ds->BJ ts<=m->E3 (ds.map (L2.pyN m hd))=some (FE ts)
 |[],ds,m,h,hm=>by simp only[Iss]at h;subst h;rfl
 |t::ts,ds,m,h,hm=>by
  simp only[Iss]at h;obtain⟨d,r,rfl,q,z⟩:=h;simp only[BJ]at hm;rw[map_cons,Is.pyN q (by omega)];show(E3 (r.map (L2.pyN m hd))).map (pyT t::·)=_;rw[Iss.pyN z (by omega),FE];rfl
end
mutual
def Gq(m:Nat):Tv->Prop
 |.non=>True
 |.bl _=>True
 |.int i=>i.natAbs<=m
 |.str x=>∀c∈x.cps.toList,c<128
 |.tup ts=>Gqs m ts
 |.lst ts=>Gqs m ts
def Gqs(m:Nat):List Tv->Prop
 |[]=>True
 |t::ts=>Gq m t/\Gqs m ts
end
mutual
def wt:Tv->Nat
 |.non=>1
 |.bl _=>1
 |.int i=>i.natAbs.log2+2
 |.str x=>x.length+1
 |.tup ts=>wts ts+1
 |.lst ts=>wts ts+1
def wts:List Tv->Nat
 |[]=>0
 |t::ts=>wt t+wts ts
end
def gds_iff{m:Nat}:∀{ts:List Tv},Gqs m ts↔∀t∈ts,Gq m t
 |[]=>by simp[Gqs]
 |t::ts=>by simp[Gqs,gds_iff]
def CA:∀(ts us:List Tv),wts (ts++us)=wts ts+wts us
 |[],us=>by simp[wts]
 |t::ts,us=>by simp[wts,CA ts us];omega
def GG:∀(ts us:List Tv),BJ (ts++us)=max (BJ ts) (BJ us)
 |[],us=>by simp[BJ]
 |t::ts,us=>by simp only[cons_append,BJ,GG ts us];omega
def Ff{t:Tv}:∀{ts:List Tv},t∈ts->dep t<=BJ ts
 |u::ts,h=>by
  simp only[BJ];rcases mem_cons.mp h with rfl|h
  .omega
  .have:=Ff h;omega
def Fd{ts:List Tv}{k:Nat}(h:∀t∈ts,dep t<=k):BJ ts<=k:=by
 induction ts with
 |nil=>simp[BJ]
 |cons t ts ih=>
  simp only[BJ];have h1:=h t (by simp);have h2:=ih λu hu=>h u (by simp[hu]);omega
def J8:∀(ts:List Tv),ts.length<=wts ts
 |[]=>by simp[wts]
 |t::ts=>by
  have:1<=wt t:=by cases t<;>simp[wt]
  have:=J8 ts;simp[wts];omega
def Qj{ts us:List Tv}(h:ts.Perm us):wts ts=wts us:=by
 induction h with
 |nil=>rfl
 |cons x _ ih=>simp[wts,ih]
 |swap x y l=>simp[wts];omega
 |trans _ _ a b=>rw[a,b]
mutual
def Gq.mono{m m':Nat}(h:m<=m'):∀{t:Tv},Gq m t->Gq m' t
 |.non,q=>trivial
 |.bl _,q=>trivial
 |.int i,q=>by simp only[Gq]at q ⊢;omega
 |.str x,q=>by simpa only[Gq]using q
 |.tup ts,q=>by simp only[Gq]at q ⊢;exact Gqs.mono h q
 |.lst ts,q=>by simp only[Gq]at q ⊢;exact Gqs.mono h q
def Gqs.mono{m m':Nat}(h:m<=m'):∀{ts:List Tv},Gqs m ts->Gqs m' ts
 |[],q=>trivial
 |t::ts,q=>by simp only[Gqs]at q ⊢;exact⟨Gq.mono h q.1,Gqs.mono h q.2⟩
end
structure OkV(w dp:Nat)(p:PyData):Prop where
 sh:p.showable=true
 lay:p.canLay0=true
 it:p.intsShort 90=true
 dp:p.depth<=dp
 wt:p.weight+1<=w
structure OkVs(w dp:Nat)(p:List PyData):Prop where
 sh:PyData.showableAll p=true
 lay:PyData.canLayAll0 p=true
 it:PyData.intsShortAll 90 p=true
 dp:PyData.depthAll p<=dp
 wt:PyData.weightAll p<=w
def OkV.tup{w dp:Nat}{p:List PyData}(h:OkVs w dp p):OkV (w+1) (dp+1) (.tuple p):=by
 refine⟨?_,?_,?_,?_,?_⟩
 .rw[PyData.showable];exact h.sh
 .rw[PyData.canLay0];exact h.lay
 .rw[PyData.intsShort];exact h.it
 .rw[PyData.depth];have:=h.dp;omega
 .rw[PyData.weight];have:=h.wt;omega
def OkV.lst{w dp:Nat}{p:List PyData}(h:OkVs w dp p):OkV (w+1) (dp+1) (.list p):=by
 refine⟨?_,?_,?_,?_,?_⟩
 .rw[PyData.showable];exact h.sh
 .rw[PyData.canLay0];exact h.lay
 .rw[PyData.intsShort];exact h.it
 .rw[PyData.depth];have:=h.dp;omega
 .rw[PyData.weight];have:=h.wt;omega
def OkVs.nil{w dp:Nat}:OkVs w dp []:=⟨by simp[PyData.showableAll],by simp[PyData.canLayAll0],by simp[PyData.intsShortAll],by simp[PyData.depthAll],by simp[PyData.weightAll]⟩
def OkVs.cons{w w' dp:Nat}{d:PyData}{ds:List PyData}(h:OkV w dp d)(t:OkVs w' dp ds):OkVs (w+w') dp (d::ds):=by
 refine⟨by simp[PyData.showableAll,h.sh,t.sh],by simp[PyData.canLayAll0,h.lay,t.lay],by simp[PyData.intsShortAll,h.it,t.it],?_,?_⟩
 .simp only[PyData.depthAll];exact Nat.max_le.mpr ⟨h.dp,t.dp⟩
 .simp only[PyData.weightAll];have:=h.wt;have:=t.wt;omega
def OkV.mono{w w' dp dp':Nat}{d:PyData}(h:OkV w dp d)(a:w<=w')(b:dp<=dp'):OkV w' dp' d:=⟨h.sh,h.lay,h.it,le_trans h.dp b,le_trans h.wt a⟩
def OkVs.mono{w w' dp dp':Nat}{d:List PyData}(h:OkVs w dp d)(a:w<=w')(b:dp<=dp'):OkVs w' dp' d:=⟨h.sh,h.lay,h.it,le_trans h.dp b,le_trans h.wt a⟩
mutual
def LB:∀{p:PyData},p.intsShort 13=true->p.intsShort 90=true
 |.none,h=>by simp[PyData.intsShort]
 |.bool _,h=>by simp[PyData.intsShort]
 |.str _,h=>by simp[PyData.intsShort]
 |.dict _,h=>by simp[PyData.intsShort]
 |.int i,h=>by
  simp only[PyData.intsShort,decide_eq_true_eq]at h ⊢;omega
 |.list xs,h=>by simp only[PyData.intsShort]at h ⊢;exact GS h
 |.tuple xs,h=>by simp only[PyData.intsShort]at h ⊢;exact GS h
def GS:∀{p:List PyData},PyData.intsShortAll 13 p=true->PyData.intsShortAll 90 p=true
 |[],h=>by simp[PyData.intsShortAll]
 |x::xs,h=>by
  simp only[PyData.intsShortAll,Bool.and_eq_true]at h ⊢;exact⟨LB h.1,GS h.2⟩
end
def OkV.of{w dp:Nat}{p:PyData}(h:OkP w dp p):OkV (w+1) dp p:=⟨h.sh,h.lay,LB h.it,h.dp,by have:=h.wt;omega⟩
mutual
def Gq.ok{m:Nat}(hm:m<=10^70):∀{t:Tv},Gq m t->OkV (wt t) (dep t) (pyT t)
 |.non,q=>⟨by simp[pyT,PyData.showable],by simp[pyT,PyData.canLay0],by simp[pyT,PyData.intsShort],by simp[pyT,PyData.depth],by simp[pyT,PyData.weight,wt]⟩
 |.bl _,q=>⟨by simp[pyT,PyData.showable],by simp[pyT,PyData.canLay0],by simp[pyT,PyData.intsShort],by simp[pyT,PyData.depth],by simp[pyT,PyData.weight,wt]⟩
 |.int i,q=>by
  simp only[Gq]at q;have h1:i.natAbs<10^71:=lt_of_le_of_lt (le_trans q hm) (by decide);have h0:i.natAbs<2^240:=lt_of_lt_of_le h1 (by decide);have lg:i.natAbs.log2<240:=by
   by_cases z:i.natAbs=0
   .rw[z];decide
   .exact(log2_lt z).mpr h0
  refine⟨?_,by simp[pyT,PyData.canLay0],?_,by simp[pyT,PyData.depth],?_⟩
  .simp only[pyT,PyData.showable];exact decide_eq_true (by omega)
  .simp only[pyT,PyData.intsShort,PyData.shown];refine decide_eq_true ?_;have h2:=int_text_length_le10 (a:=i) (k:=71) (by decide) h1;rw[PySem.ofString_length];omega
  .simp only[pyT,PyData.weight,wt];split<;>omega
 |.str x,q=>by
  simp only[Gq]at q;refine⟨by simp[pyT,PyData.showable],?_,by simp[pyT,PyData.intsShort],by simp[pyT,PyData.depth],by simp only[pyT,PyData.weight,wt];exact le_refl _⟩;simp only[pyT,PyData.canLay0,PyData.strOk];rw[Array.all_eq_true'];intro c hc;have:=q c (by simpa using hc);simp;omega
 |.tup ts,q=>by
  simp only[Gq]at q;rw[pyT,wt,dep];exact .tup (Gqs.ok hm q)
 |.lst ts,q=>by
  simp only[Gq]at q;rw[pyT,wt,dep];exact .lst (Gqs.ok hm q)
def Gqs.ok{m:Nat}(hm:m<=10^70):∀{ts:List Tv},Gqs m ts->OkVs (wts ts) (BJ ts) (FE ts)
 |[],q=>.nil
 |t::ts,q=>by
  simp only[Gqs]at q;rw[FE,wts,BJ];exact .cons ((Gq.ok hm q.1).mono (le_refl _) (by omega)) ((Gqs.ok hm q.2).mono (le_refl _) (by omega))
end
end
end An
namespace Pl
open PySem L2 Bd
abbrev Pc:=Nat×Int×Int
def last:List Pc->Nat->Int->Int
 |[],_,v=>v
 |p::r,k,v=>last r k (if p.1=k then p.2.2 else v)
def dn:List Pc->Nat->Int
 |[],_=>0
 |p::r,k=>(if p.1=k then p.2.2-p.2.1 else 0)+dn r k
def K0:∀(ps:List Pc) (es:List Int) (k:Nat),(EY es ps)[k]?=(es[k]?).map (last ps k)
 |[],es,k=>by
  show es[k]?=(es[k]?).map id;rw[Option.map_id_fun];rfl
 |p::r,es,k=>by
  rw[EY,K0 r,List.getElem?_set];by_cases h:p.1=k
  .subst h;by_cases hk:p.1<es.length
   .simp[hk,last]
   .simp[hk]
  .simp only[h,if_false,last]
def ends_map{n:Nat}(ps:List Pc):EY (List.replicate n 0) ps=(List.range n).map λk=>last ps k 0:=by
 refine ext_getElem? λi=>?_;rw[K0];by_cases hi:i<n
 .simp[hi]
 .simp[hi]
def N3{k:Nat}{v:Int}:∀{ps:List Pc},(∀p∈ps,p.1≠k)->last ps k v=v
 |[],_=>rfl
 |p::r,h=>by
  rw[last,if_neg (h p mem_cons_self)];exact N3 λq hq=>h q (mem_cons_of_mem _ hq)
def last_in{k:Nat}:∀{ps:List Pc} {v:Int},(∃p∈ps,p.1=k)->∃p∈ps,p.1=k/\last ps k v=p.2.2
 |[],v,h=>by obtain⟨p,hp,_⟩:=h;cases hp
 |p::r,v,h=>by
  rw[last];by_cases q:∃p∈r,p.1=k
  .obtain⟨z,h1,h2,h3⟩:=last_in (v:=if p.1=k then p.2.2 else v) q;exact⟨z,mem_cons_of_mem _ h1,h2,h3⟩
  .have hp:p.1=k:=by
    obtain⟨z,hz,e⟩:=h;rcases mem_cons.mp hz with rfl|hz
    .exact e
    .exact absurd ⟨z,hz,e⟩ q
   refine⟨p,mem_cons_self,hp,?_⟩;rw[if_pos hp];exact N3 λz hz e=>q ⟨z,hz,e⟩
structure Ok(n:Nat)(c:Int)(ps:List Pc):Prop where
 ch:ps.Pairwise λp q=>p.2.2<=q.2.1
 ea:∀p∈ps,p.1<n/\c<=p.2.1/\p.2.1<p.2.2
structure Full(n:Nat)(c:Int)(l:Nat->Int)(ps:List Pc):Prop where
 ok:Ok n c ps
 l1:∀k,k<n->1<=l k
 all:∀k,k<n->dn ps k=l k
def dn_no{k:Nat}:∀{ps:List Pc},(∀p∈ps,p.1≠k)->dn ps k=0
 |[],_=>rfl
 |p::r,h=>by
  rw[dn,if_neg (h p mem_cons_self),dn_no λq hq=>h q (mem_cons_of_mem _ hq)];rfl
section
variable{n:Nat}{c:Int}{l:Nat->Int}{ps:List Pc}
def Full.has(F:Full n c l ps){k:Nat}(hk:k<n):∃p∈ps,p.1=k:=by
 refine Classical.byContradiction λh=>?_;have:=dn_no (k:=k) (ps:=ps) λp hp e=>h ⟨p,hp,e⟩;have h1:=F.all k hk;have h2:=F.l1 k hk;omega
abbrev E(ps:List Pc)(k:Nat):Int:=last ps k 0
def sum_ite(a:Nat)(x:Int):∀{S:List Nat},S.Nodup->(S.map λj=>if a=j then x else 0).sum=if a∈S then x else 0
 |[],_=>by simp
 |y::r,nd=>by
  obtain⟨h1,h2⟩:=nodup_cons.mp nd;rw[map_cons,sum_cons,sum_ite a x h2];by_cases e:a=y
  .subst e;simp[h1]
  .simp[e]
def sum_add(f g:Nat->Int):∀S:List Nat,(S.map λj=>f j+g j).sum=(S.map f).sum+(S.map g).sum
 |[]=>by simp
 |y::r=>by simp only[map_cons,sum_cons,sum_add f g r];omega
end
end Pl
namespace An
open PySem L2 Bd
section
variable{n n':Nat}{hd hd':Hd}
mutual
def ofI:I->Tv
 |.non=>.non
 |.bl b=>.bl b
 |.int i=>.int i
 |.str x=>.str x
 |.tup l=>.tup (CD l)
def CD:List I->List Tv
 |[]=>[]
 |i::l=>ofI i::CD l
end
mutual
def Al:∀(i:I),Is n hd (ofI i) (.im i)
 |.non=>by simp only[ofI,Is]
 |.bl _=>by simp only[ofI,Is]
 |.int _=>by simp only[ofI,Is]
 |.str _=>by simp only[ofI,Is]
 |.tup l=>by
  simp only[ofI,Is];exact⟨l.map D.im,(DG l).symm,EH l⟩
def EH:∀(l:List I),Iss n hd (CD l) (l.map D.im)
 |[]=>Iss.nil
 |i::l=>by rw[CD,map_cons];exact .cons (Al i) (EH l)
end
def Ex:∀l:List I,CD l=l.map ofI
 |[]=>rfl
 |i::l=>by rw[CD,Ex l];rfl
def tl:Tv->Nat
 |.tup l=>l.length
 |.lst l=>l.length
 |_=>0
structure Bo(m w dp l:Nat)(t:Tv):Prop where
 gd:Gq m t
 wt:wt t<=w
 dp:dep t<=dp
 tl:tl t<=l
def Bo.mono{m w dp l m' w' dp' l':Nat}{t:Tv}(h:Bo m w dp l t)(h1:m<=m')(h2:w<=w')(h3:dp<=dp')(h4:l<=l'):Bo m' w' dp' l' t:=⟨h.gd.mono h1,le_trans h.wt h2,le_trans h.dp h3,le_trans h.tl h4⟩
def Gs{m w dp l:Nat}{ts:List Tv}(h1:∀t∈ts,Gq m t)(h2:wts ts+1<=w)(h3:BJ ts+1<=dp)(h4:ts.length<=l):Bo m w dp l (.tup ts):=⟨by simp only[Gq];exact gds_iff.mpr h1,by simpa only[An.wt]using h2,by simpa only[dep]using h3,by simpa only[An.tl]using h4⟩
def M7{m w dp l:Nat}{ts:List Tv}(h1:∀t∈ts,Gq m t)(h2:wts ts+1<=w)(h3:BJ ts+1<=dp)(h4:ts.length<=l):Bo m w dp l (.lst ts):=⟨by simp only[Gq];exact gds_iff.mpr h1,by simpa only[An.wt]using h2,by simpa only[dep]using h3,by simpa only[An.tl]using h4⟩
def Fi{m w dp l:Nat}{i:Int}(h1:i.natAbs<=m)(h2:i.natAbs.log2+2<=w):Bo m w dp l (.int i):=⟨by simpa only[Gq]using h1,by simpa only[An.wt]using h2,by simp[dep],by simp[An.tl]⟩
def EM{m w dp l:Nat}{x:Str}(h1:∀c∈x.cps.toList,c<128)(h2:x.length+1<=w):Bo m w dp l (.str x):=⟨by simpa only[Gq]using h1,by simpa only[An.wt]using h2,by simp[dep],by simp[An.tl]⟩
def Oc{m w dp l:Nat}{b:Bool}(h2:1<=w):Bo m w dp l (.bl b):=⟨trivial,by simpa only[An.wt]using h2,by simp[dep],by simp[An.tl]⟩
def Qa{m w dp l:Nat}(h2:1<=w):Bo m w dp l .non:=⟨trivial,by simpa only[An.wt]using h2,by simp[dep],by simp[An.tl]⟩
def Bo.tup{m w dp l:Nat}{ts:List Tv}(h:Bo m w dp l (.tup ts)):(∀t∈ts,Gq m t)/\wts ts+1<=w/\BJ ts+1<=dp/\ts.length<=l:=by
 have h1:=h.gd;have h2:=h.wt;have h3:=h.dp;have h4:=h.tl;simp only[Gq]at h1;simp only[An.wt]at h2;simp only[dep]at h3;simp only[An.tl]at h4;exact⟨gds_iff.mp h1,h2,h3,h4⟩
def TY{ts:List Tv}{ds:List D}{r:Int}(h:Iss n hd ts ds)(h0:0<=r)(h1:r<ts.length):∃d t,atI ds r=some d/\t∈ts/\Is n hd t d:=by
 obtain⟨k,rfl⟩:∃k:Nat,r=(k:Int):=⟨r.toNat,by omega⟩
 have hk:k<ts.length:=by omega
 obtain⟨d,e,q⟩:=h.get (List.getElem?_eq_getElem hk);exact⟨d,_,C0 rfl e,List.getElem_mem hk,q⟩
def sIx_nat(l d k:Nat):HT.sIx l d (some (k:Int))=min k l:=by
 unfold HT.sIx;have h:¬ ((k:Int)<0):=by omega
 simp[h]
def Ix(xs:List D)(k:Nat):Bj xs none (some (k:Int))=xs.take k:=by
 unfold Bj;rw[sIx_nat,show HT.sIx xs.length 0 none=0 from rfl,List.drop_zero,Nat.sub_zero,<- List.take_eq_take_min]
def Gm(xs:List D)(k:Nat):Bj xs (some (k:Int)) none=xs.drop k:=by
 unfold Bj;rw[sIx_nat,show HT.sIx xs.length xs.length none=xs.length from rfl,take_of_length_le (by simp)];by_cases h:k<=xs.length
 .rw[Nat.min_eq_left h]
 .rw[Nat.min_eq_right (by omega),List.drop_of_length_le (le_refl _),List.drop_of_length_le (by omega)]
def NG(xs:List D)(k j:Nat)(hj:j=k+2):Bj xs (some (k:Int)) (some (j:Int))=(xs.drop k).take 2:=by
 subst hj;unfold Bj;rw[sIx_nat,sIx_nat];by_cases h:k<=xs.length
 .rw[Nat.min_eq_left h];by_cases h2:k+2<=xs.length
  .rw[Nat.min_eq_left h2,show k+2-k=2 by omega]
  .rw[Nat.min_eq_right (by omega),take_of_length_le (by simp),take_of_length_le (by simp;omega)]
 .rw[List.drop_of_length_le (show xs.length<=min k xs.length by omega),List.drop_of_length_le (show xs.length<=k by omega)];simp
end
section
variable{hd:Hd}{QE:D->Hd->Prop}{d e:D}{xs ys:List D}
def Qd(h:AN d=some xs):JX d e hd=none:=by
 cases d with
 |im i=>cases i with
  |tup is=>rfl
  |_=>cases h
 |tm _=>rfl
 |mu _=>cases h
 |ro _=>cases h
def FM(h1:AN d=some xs)(h2:AN e=some ys)(hn:xs≠[])(hl:xs.length+ys.length<=1000000)(q:QE (AK (xs++ys)) hd):WP (AE d e hd) QE:=by
 refine⟨_,_,?_,q⟩;show CK JX EW d e hd=_;unfold CK;rw[Qd h1];show EW d e hd=_;unfold EW;rw[h1,bind_some,h2,bind_some,if_pos ⟨hn,AL hl⟩]
def Bk(h1:AN d=some xs)(h2:AN e=some ys)(hl:xs.length+ys.length<=1000000)(q:QE (AK (xs++ys)) hd):WP (BC d e hd) QE:=by
 by_cases hn:xs=[]
 .subst hn;refine⟨_,_,?_,q⟩;show CK AE GA d e hd=_;unfold CK;have:AE d e hd=none:=by
   show CK JX EW d e hd=_;unfold CK;rw[Qd h1];show EW d e hd=_;unfold EW;rw[h1,bind_some,h2,bind_some,if_neg (λc=>c.1 rfl)]
  rw[this];show GA d e hd=_;unfold GA;rw[h1,bind_some,h2,bind_some,if_pos rfl];rfl
 .obtain⟨z,x,e1,q1⟩:=FM (hd:=hd) (QE:=QE) h1 h2 hn hl q;refine⟨z,x,?_,q1⟩;show CK AE GA d e hd=_;unfold CK;rw[e1]
def Ma{k:Nat}(hk:k<=1000)(q:QE (.im (.int ((10:Int)^k))) hd):WP (Gg (.im (.int 10)) (.im (.int (k:Int))) hd) QE:=by
 have:KQ 10 (k:Int):=⟨by omega,by omega,by decide⟩
 exact⟨_,_,by simp[this],q⟩
end
end An
namespace An
open PySem L2 Bd
abbrev Asc(x:Str):Prop:=∀c∈x.cps.toList,c<128
def WU{x y:Str}(h:Asc x)(k:Asc y):Asc (x++y):=by
 intro c hc;have:c∈(x.cps++y.cps).toList:=hc;rw[Array.toList_append,mem_append]at this;rcases this with q|q
 .exact h c q
 .exact k c q
def Vw(x y:Str):(x++y).length=x.length+y.length:=by
 show(x.cps++y.cps).size=_;simp;rfl
def Qc{x:Str}(h:Asc x)(L:List Nat):Asc ⟨(L.filterMap (x.cps[·]?)).toArray⟩:=by
 intro c hc;simp only[mem_filterMap]at hc;obtain⟨k,_,e⟩:=hc;exact h c (by simpa using Array.mem_of_getElem? e)
def WQ{x:Str}(h:Asc x):Asc (GU x):=Qc h _
def WR{x:Str}(h:Asc x)(l u:Option Int):Asc (GH x l u):=by
 unfold GH Txt.slice;split
 .exact h
 .exact Qc h _
def Zb(x:Str)(l u:Option Int):(GH x l u).length<=x.length:=Txt.slice_le x l u
def Zl{x:Str}(h:Asc x):Asc (Txt.upper x)/\(Txt.upper x).length=x.length:=by
 rw[PyProof.Rows.upper_ascii h];refine⟨λc hc=>?_,by show(x.cps.map _).size=_;rw[Array.size_map];rfl⟩;simp only[Array.toList_map,mem_map]at hc;obtain⟨b,hb,rfl⟩:=hc;have key:∀b,b<128->PyProof.Rows.up1 b<128:=by decide +kernel
 exact key b (h b hb)
def NN(i:Int):Asc (Str.ofString (toString i)):=by
 intro c hc;refine Classical.byContradiction λz=>?_;exact PyProof.Rows.int_text_free' c ⟨by omega,by omega⟩ i hc
def N1{i:Int}(h:i.natAbs<10^71):(Str.ofString (toString i)).length<=72:=by
 have h2:=int_text_length_le10 (a:=i) (k:=71) (by decide) h;rw[PySem.ofString_length];exact h2
section
variable{ls:Ls}{hd:Hd}{QE:D->Hd->Prop}{d:D}{ds:List D}{i j k:Nat}
def KM(h1:ls[i]?=some (some d))(hv:AN d=some ds)(h2:ls[j]?=some (some (.im (.int (k:Int)))))(q:QE (AK (ds.take k)) hd):WE (Ay (A2 i) AJ (AQ (A2 j))) ls hd QE:=
 DT (A3 h1 (DS (BU (A3 h2 ⟨_,rfl,ds,hv,by rw[Ix];exact q⟩))))
def Sy(h1:ls[i]?=some (some d))(hv:AN d=some ds)(h2:ls[j]?=some (some (.im (.int (k:Int)))))(q:QE (AK (ds.drop k)) hd):WE (Ay (A2 i) (AQ (A2 j)) AJ) ls hd QE:=
 DT (A3 h1 (BU (A3 h2 ⟨_,rfl,DS ⟨ds,hv,by rw[Gm];exact q⟩⟩)))
def Wo(h1:ls[i]?=some (some d))(hv:AN d=some ds)(h2:ls[j]?=some (some (.im (.int (k:Int)))))(q:QE (AK (ds.take (k+1))) hd):WE (Ay (A2 i) AJ (AQ (mOp AE (A2 j) (mC (.int 1))))) ls hd QE:=
 DT (A3 h1 (DS (BU (A9 (A3 h2 (AC (BA ⟨_,rfl,ds,hv,by rw[show((k:Int)+1)=((k+1:Nat):Int) by omega,Ix];exact q⟩)))))))
def LA{c:Nat}(h1:ls[i]?=some (some d))(hv:AN d=some ds)(h2:ls[j]?=some (some (.im (.int (k:Int)))))(q:QE (AK (ds.drop (k+c))) hd):WE (Ay (A2 i) (AQ (mOp AE (A2 j) (mC (.int (c:Int))))) AJ) ls hd QE:=
 DT (A3 h1 (BU (A9 (A3 h2 (AC (BA ⟨_,rfl,DS ⟨ds,hv,by rw[show((k:Int)+(c:Int))=((k+c:Nat):Int) by omega,Gm];exact q⟩⟩))))))
def Wn(h1:ls[i]?=some (some d))(hv:AN d=some ds)(h2:ls[j]?=some (some (.im (.int (k:Int)))))(q:QE (AK ((ds.drop k).take 2)) hd):WE (Ay (A2 i) (AQ (A2 j)) (AQ (mOp AE (A2 j) (mC (.int 2))))) ls hd QE:=
 DT (A3 h1 (BU (A3 h2 ⟨_,rfl,BU (A9 (A3 h2 (AC (BA ⟨_,rfl,ds,hv,by rw[show((k:Int)+2)=((k+2:Nat):Int) by omega,NG _ _ _ rfl];exact q⟩))))⟩)))
end
def DK(ts:List Tv)(k:Nat):wts (ts.take k)+wts (ts.drop k)=wts ts:=by rw[<- CA,List.take_append_drop]
def MW(ts:List Tv):wts ts.reverse=wts ts:=Qj (List.reverse_perm ts)
def Fh{m w dp l:Nat}{ts us:List Tv}(hm:10^50<=m)(h:Bo m w dp l (.tup ts))(hs:∀u∈us,u∈ts∨Bo (10^50) 200 2 2 u)(hw:wts us<=2*wts ts+200)(hl:us.length<=ts.length+1):Bo (m+1) (2*w+400) (dp+4) (max l 2+1) (.tup us)/\Bo (m+1) (2*w+400) (dp+4) (max l 2+1) (.lst us):=by
 obtain⟨h1,h2,h3,h4⟩:=h.tup;have g:∀t∈us,Gq (m+1) t:=λt ht=>by
  rcases hs t ht with q|q
  .exact(h1 t q).mono (by omega)
  .exact q.gd.mono (by omega)
 have p:BJ us+1<=dp+4:=by
  refine Nat.succ_le_succ (le_trans (Fd (k:=dp+3) λt ht=>?_) (by omega));rcases hs t ht with q|q
  .have:=Ff q;omega
  .have:=q.dp;omega
 exact⟨Gs g (by omega) p (by omega),M7 g (by omega) p (by omega)⟩
def SS(n:Nat):(n+1).log2<=n.log2+1:=by
 by_cases z:n=0
 .subst z;decide
 .have h1:=Nat.lt_log2_self (n:=n);refine Nat.le_of_lt_succ ((log2_lt (by omega)).mpr ?_);rw[Nat.pow_succ];have:2^(n.log2+1)>=n+1:=h1;omega
def Ez{a b:Nat}(h:a<=b):a.log2<=b.log2:=by
 by_cases z:a=0
 .subst z;rw[show Nat.log2 0=0 from by decide];exact zero_le _
 .refine Nat.le_of_lt_succ ((log2_lt z).mpr (lt_of_le_of_lt h ?_));exact Nat.lt_log2_self
end An
namespace L2
open PySem PySem.W PyProof.Rows
def feE{K:PySem.W.Frag}{e:Df}{n:Str}{s:Stmt}(h:Ea.Fe K n s)(hn:e.x=n:=by rfl)(hs:e.st=s:=by rfl):Fe K e:=by subst hn;subst hs;exact h
def zsE{K:PySem.W.Frag}(h:Ea.Zs K):Zs K:=h
end L2
namespace T11
open PySem L2
abbrev Hc:Stmt:=top 1
def LG:FnScope ["thing"] ["thing"] (AM Hc):=Bb (by kernel_rfl)
@[reducible] def MQ:MS:=(Aa (Cb (By .int (A2 0)) (EU (By .bool (A2 0)))))
def CU:FD:=mkF 1 1 MQ
abbrev E7:Df:=⟨"is_number",Hc,["thing"],1,CU⟩
abbrev Es:Stmt:=top 2
def HY:FnScope ["least","thing"] ["least","thing"] (AM Es):=Bb (by kernel_rfl)
@[reducible] def Hx:MS:=(Aa (Cb (Ak CU (A1 (A2 1) A5)) (mOp gGe (A2 1) (A2 0))))
def CO:FD:=mkF 2 2 Hx
abbrev DH:Df:=⟨"is_number_from",Es,["least","thing"],2,CO⟩
abbrev Ds:Stmt:=top 3
def Fr:FnScope ["many","thing"] ["many","thing"] (AM Ds):=Bb (by kernel_rfl)
@[reducible] def GN:MS:=(Aa (Cb (Ak CO (A1 (mC (.int 0)) (A1 (A2 1) A5))) (mOp gLt (A2 1) (A2 0))))
def Bw:FD:=mkF 2 2 GN
abbrev Ca:Df:=⟨"is_number_of_work",Ds,["many","thing"],3,Bw⟩
abbrev GK:Stmt:=top 4
def JG:FnScope ["many","thing"] ["many","thing"] (AM GK):=Bb (by kernel_rfl)
@[reducible] def KF:MS:=(Aa (Cb (By .tuple (A2 1)) (mOp gEq (mCB (f1 true BI) (A1 (A2 1) A5)) (A2 0))))
def DC:FD:=mkF 2 2 KF
abbrev ES:Df:=⟨"is_tuple_of",GK,["many","thing"],1,DC⟩
abbrev IV:Stmt:=top 6
def ML:FnScope ["works","thing","work","begin","end"] ["works","thing"] (AM IV):=Bb (by kernel_rfl)
@[reducible] def OE:MS:=(A7 (B2 (Dx (Bg (Ak DC (A1 (mC (.int 3)) (A1 (A2 1) A5)))))
 (Aa (mC (.bl false)))
 Ap)
 (A7 (Fz (A2 1) (Bx 3 (Ac (AG 2) (Ac (AG 3) (Ac (AG 4) CF)))))
 (A7 (B2 (mOr (Dx (Bg (Ak Bw (A1 (mCB (f1 true BI) (A1 (A2 0) A5)) (A1 (A2 2) A5))))) (mOr (Dx (Bg (Ak CU (A1 (A2 3) A5)))) (Dx (Bg (Ak CU (A1 (A2 4) A5))))))
  (Aa (mC (.bl false)))
  Ap)
 (Aa (Cb (mOp gLe (mOp gIx (mOp gIx (A2 0) (A2 2)) (mC (.int 1))) (A2 3)) (mOp gLt (A2 3) (A2 4)))))))
def Ed:FD:=mkF 2 5 OE
abbrev GE:Df:=⟨"is_piece",IV,["works","thing"],4,Ed⟩
abbrev F6:Stmt:=top 7
def Hm:FnScope ["pieces"] ["pieces"] (AM F6):=Bb (by kernel_rfl)
@[reducible] def Ig:MS:=(Aa (Dk G0 (B5 2 [] (JQ (BD (A2 0)) (BD (Ay (A2 0) (AQ (mC (.int 1))) AJ))) (Bx 2 (Ac (AG 0) (Ac (AG 1) CF))) Bc (mOp gLe (mOp gIx (A2 0) (mC (.int 2))) (mOp gIx (A2 1) (mC (.int 1)))))))
def Cc:FD:=mkF 1 1 Ig
abbrev Dp:Df:=⟨"one_at_a_time",F6,["pieces"],1,Cc⟩
abbrev FN:Stmt:=top 8
def IR:FnScope ["works","pieces","done","work","begin","end"] ["works","pieces"] (AM FN):=Bb (by kernel_rfl)
@[reducible] def JO:MS:=(A7 (AH 2 (AO (B5 1 [] (BD (A2 0)) (AG 0) Bc (mC (.int 0)))))
 (A7 (BO (BD (A2 1)) (Bx 3 (Ac (AG 3) (Ac (AG 4) (Ac (AG 5) CF))))
  (HI (A2 2) (A2 3) (mOp B3 (A2 5) (A2 4)) (λi j=>i+j)))
 (Aa (A2 2))))
def Cn:FD:=mkF 2 6 JO
abbrev Dz:Df:=⟨"lengths_done",FN,["works","pieces"],1,Cn⟩
abbrev FO:Stmt:=top 9
def IS:FnScope ["wishes","pieces","ends"] ["wishes","pieces","ends"] (AM FO):=Bb (by kernel_rfl)
@[reducible] def JP:MS:=(Aa (mCB (f1 false G0) (A1 (Cu 5 [1,2] (BD (A2 0)) (Bx 2 (Ac (AG 0) (Ac (AG 1) CF))) Bc (BD (A2 5)) (Bx 3 (Ac (AG 2) (Ac (AG 3) (Ac (AG 4) CF)))) (AR (mOp gEq (A2 2) (A2 1))) (mOp gLe (mOp gIx (A2 6) (A2 0)) (A2 3))) A5)))
def Co:FD:=mkF 3 3 JP
abbrev E1:Df:=⟨"keeps_wishes",FO,["wishes","pieces","ends"],1,Co⟩
abbrev Jo:Stmt:=top 11
def Nj:FnScope ["works","plan","ends","work","begin","end"] ["works","plan"] (AM Jo):=Bb (by kernel_rfl)
@[reducible] def cz:MS:=(A7 (AH 2 (AO (B5 1 [] (BD (A2 0)) (AG 0) Bc (mC (.int 0)))))
 (A7 (BO (BD (A2 1)) (Bx 3 (Ac (AG 3) (Ac (AG 4) (Ac (AG 5) CF))))
  (Dj (A2 2) (A2 3) (A2 5)))
 (Aa (mCB (f1 true BQ) (A1 (A2 2) A5)))))
def F_ends_of:FD:=mkF 2 6 cz
abbrev Gi:Df:=⟨"ends_of",Jo,["works","plan"],1,F_ends_of⟩
abbrev Jn:Stmt:=top 10
def Ni:FnScope ["works","wishes","thing"] ["works","wishes","thing"] (AM Jn):=Bb (by kernel_rfl)
@[reducible] def Ps:MS:=(A7 (B2 (mOr (Dx (Bg (By .tuple (A2 2)))) (Dx (Bg (Dk G0 (B5 1 [0] (BD (A2 2)) (AG 0) Bc (Ak Ed (A1 (A2 1) (A1 (A2 0) A5))))))))
 (Aa (mC (.bl false)))
 Ap)
 (A7 (B2 (Dx (Bg (AA 0 Cc (A1 (A2 2) A5))))
  (Aa (mC (.bl false)))
  Ap)
 (A7 (B2 (AR (C4 true (AA 0 Cn (A1 (A2 0) (A1 (A2 2) A5))) (B5 1 [] (BD (A2 0)) (AG 0) Bc (mOp gIx (A2 0) (mC (.int 0))))))
  (Aa (mC (.bl false)))
  Ap)
 (Aa (AA 0 Co (A1 (A2 1) (A1 (A2 2) (A1 (AA 0 F_ends_of (A1 (A2 0) (A1 (A2 2) A5))) A5))))))))
def DQ:FD:=mkF 3 3 Ps
abbrev Gh:Df:=⟨"is_plan",Jn,["works","wishes","thing"],5,DQ⟩
abbrev Oz:Stmt:=top 13
def U5:FnScope ["_law_script"] ["_law_script"] (AM Oz):=Bb (by kernel_rfl)
@[reducible] def dD:MS:=(Aa (Ij [((mC (.str "cells")),(AO (FW (Gc (A2 0) AJ (AQ (mC (.int 63))))))),((mC (.str "next")),(mC (.int 0))),((mC (.str "left")),(mC (.int 0))),((mC (.str "turn")),(mC (.int 0)))]))
def F_tape:FD:=mkF 1 1 dD
abbrev Lr:Df:=⟨"_law_tape",Oz,["_law_script"],1,F_tape⟩
abbrev P1:Stmt:=top 14
def U7:FnScope ["_law_tape_here","_law_many","_law_found","_law_cells","_law_at","_law_turn","_law_cell","_law_mixed"] ["_law_tape_here","_law_many"] (AM P1):=Bb (by kernel_rfl)
@[reducible] def dE:MS:=(A7 (C5 (A2 0) (mC (.str "turn")) (mOp AE (mOp BY (A2 0) (mC (.str "turn"))) (mC (.int 1))))
 (A7 (B2 (AR (mOp gGt (mOp BY (A2 0) (mC (.str "left"))) (mC (.int 0))))
  (A7 (AH 2 (mOp CZ (mOp BY (A2 0) (mC (.str "left"))) (A2 1)))
 (A7 (C5 (A2 0) (mC (.str "left")) (mOp Dm (mOp BY (A2 0) (mC (.str "left"))) (A2 1)))
 (Aa (A2 2))))
  Ap)
 (A7 (Ii 3 4 5 (A1 (mOp BY (A2 0) (mC (.str "cells"))) (A1 (mOp BY (A2 0) (mC (.str "next"))) (A1 (mOp BY (A2 0) (mC (.str "turn"))) A5))))
 (A7 (AH 6 (mIf (AR (C4 true (A2 3) (AV A5))) (mOp gIx (A2 3) (mOp CZ (A2 4) (mCB (f1 true BI) (A1 (A2 3) A5)))) (mC (.int 23))))
 (A7 (C5 (A2 0) (mC (.str "next")) (mOp AE (A2 4) (mC (.int 1))))
 (A7 (B2 (EQ (AR (mOp gGe (A2 6) (mOp Gg (mC (.int 10)) (mC (.int 18))))) (AR (mOp gLt (A2 4) (mCB (f1 true BI) (A1 (A2 3) A5)))))
  (A7 (C5 (A2 0) (mC (.str "left")) (mOp Dm (A2 6) (A2 1)))
 (Aa (mOp CZ (A2 6) (A2 1))))
  Ap)
 (A7 (AH 7 (mOp CZ (mOp AE (mOp AE (mOp CZ (A2 6) (mC (.int 2147483587))) (mOp Dl (mC (.int 104729)) (A2 5))) (mC (.int 17))) (mC (.int 2147483629))))
 (A7 (AH 7 (mOp CZ (mOp AE (mOp Dl (A2 7) (A2 7)) (mOp Dl (mC (.int 48271)) (A2 5))) (mC (.int 2147483647))))
 (A7 (AH 7 (mOp CZ (mOp AE (mOp AE (mOp Dl (A2 7) (A2 7)) (mOp Dl (mC (.int 7919)) (A2 7))) (A2 5)) (mC (.int 2147483629))))
 (Aa (mOp CZ (mOp Dm (A2 7) (mC (.int 128))) (A2 1))))))))))))
def F_pick:FD:=mkF 2 8 dE
abbrev D4:Df:=⟨"_law_pick",P1,["_law_tape_here","_law_many"],1,F_pick⟩
abbrev Jm:Stmt:=top 15
def Nh:FnScope ["_law_tape_here","_law_some"] ["_law_tape_here"] (AM Jm):=Bb (by kernel_rfl)
@[reducible] def Pr:MS:=(A7 (AH 1 (AO (AV (A1 (mC .non) (A1 (mC (.bl true)) (A1 (mC (.bl false)) (A1 (mC (.str "")) (A1 (mC (.str "late")) (A1 (mC (.str "0")) (A1 (AI A5) (A1 (AO (AV A5)) (A1 (AI (A1 (mC (.int 0)) A5)) (A1 (AO (AV (A1 (mC (.int 2)) A5))) (A1 (C7 (mC (.int 1))) (A1 (mC (.int 0)) (A1 (mC (.int 1)) (A1 (mC (.int 3)) (A1 (mOp Gg (mC (.int 10)) (mC (.int 50))) (A1 (AI (A1 (AI A5) A5)) (A1 (AI (A1 (mC (.int 0)) (A1 (mC (.int 1)) A5))) (A1 (AI (A1 (mC (.str "ends")) (A1 (mC (.int 2)) A5))) A5)))))))))))))))))))))
 (Aa (mOp gIx (A2 1) (AA 2 F_pick (A1 (A2 0) (A1 (mC (.int 18)) A5))))))
def DP:FD:=mkF 1 2 Pr
abbrev FB:Df:=⟨"_law_strange",Jm,["_law_tape_here"],2,DP⟩
abbrev LI:Stmt:=top 16
def UA:FnScope ["_law_tape_here","_law_thing","_law_deep","_law_at","_law_way","_law_odd","_law_some"] ["_law_tape_here","_law_thing","_law_deep"] (AM LI):=Bb (by kernel_rfl)
@[reducible] def Pu(Dr:FD):MS:=(A7 (B2 (EQ (Bg (By .tuple (A2 1))) (EQ (AR (mOp (JW true) (A2 1) (AI A5))) (EQ (AR (mOp gGt (A2 2) (mC (.int 0)))) (AR (mOp gGt (AA 2 F_pick (A1 (A2 0) (A1 (mC (.int 5)) A5))) (mC (.int 0)))))))
 (A7 (AH 3 (AA 2 F_pick (A1 (A2 0) (A1 (mCB (f1 true BI) (A1 (A2 1) A5)) A5))))
 (Aa (mOp AE (mOp BC (Ay (A2 1) AJ (AQ (A2 3))) (AI (A1 (Ak Dr (A1 (A2 0) (A1 (mOp gIx (A2 1) (A2 3)) (A1 (mOp B3 (A2 2) (mC (.int 1))) A5)))) A5))) (Ay (A2 1) (AQ (mOp AE (A2 3) (mC (.int 1)))) AJ))))
  Ap)
 (A7 (AH 4 (AA 2 F_pick (A1 (A2 0) (A1 (mC (.int 7)) A5))))
 (A7 (AH 5 (Ak DP (A1 (A2 0) A5)))
 (A7 (B2 (Bg (By .tuple (A2 1)))
  (A7 (AH 3 (AA 2 F_pick (A1 (A2 0) (A1 (mOp AE (mCB (f1 true BI) (A1 (A2 1) A5)) (mC (.int 1))) A5))))
 (A7 (AH 6 (AO (AV (A1 (AO (EV (A2 1))) (A1 (mOp AE (mOp BC (Ay (A2 1) AJ (AQ (A2 3))) (AI (A1 (A2 5) A5))) (Ay (A2 1) (AQ (A2 3)) AJ)) (A1 (mOp BC (Ay (A2 1) AJ (AQ (A2 3))) (Ay (A2 1) (AQ (mOp AE (A2 3) (mC (.int 1)))) AJ)) (A1 (mOp BC (Ay (A2 1) AJ (AQ (mOp AE (A2 3) (mC (.int 1))))) (Ay (A2 1) (AQ (A2 3)) AJ)) A5)))))))
 (Aa (Bi (Bn (A2 6) (AO (AV (A1 (mOp BC (mOp BC (Ay (A2 1) AJ (AQ (A2 3))) (Dh (Ay (A2 1) (AQ (A2 3)) (AQ (mOp AE (A2 3) (mC (.int 2))))) (C7 (mC (.int 1))))) (Ay (A2 1) (AQ (mOp AE (A2 3) (mC (.int 2)))) AJ)) (A1 (Di (A2 1) (C7 (mC (.int 1)))) (A1 (A2 5) A5)))))) (A2 4)))))
  Ap)
 (A7 (B2 (Bg (By .bool (A2 1)))
  (Aa (Bi (AV (A1 (EU (A2 1)) (A1 (mCB Lk (A1 (A2 1) A5)) (A1 (mCB ER (A1 (A2 1) A5)) (A1 (AI (A1 (A2 1) A5)) (A1 (mC .non) (A1 (AO (AV (A1 (A2 1) A5))) (A1 (A2 5) A5)))))))) (A2 4)))
  Ap)
 (A7 (B2 (Bg (By .int (A2 1)))
  (Aa (Bi (AV (A1 (mOp AE (A2 1) (mC (.int 1))) (A1 (mOp B3 (A2 1) (mC (.int 1))) (A1 (mOp B3 (mC (.int 0)) (A2 1)) (A1 (mOp gEq (A2 1) (mC (.int 1))) (A1 (mCB ER (A1 (A2 1) A5)) (A1 (AI (A1 (A2 1) A5)) (A1 (A2 5) A5)))))))) (A2 4)))
  Ap)
 (A7 (B2 (Bg (By .str (A2 1)))
  (Aa (Bi (AV (A1 (mOp HP (A2 1) (mC (.str "s"))) (A1 (Hz (A2 1) AJ (AQ (C7 (mC (.int 1))))) (A1 (Hy (A2 1)) (A1 (Di (A2 1) (C7 (mC (.int 1)))) (A1 (AI (A1 (A2 1) A5)) (A1 (mC (.str "steps")) (A1 (A2 5) A5)))))))) (A2 4)))
  Ap)
 (Aa (A2 5)))))))))
def Gu:Nat->FD
 |0=>λ_ _=>none
 |n+1=>mkF 3 7 (Pu (Gu n))
abbrev Dr:FD:=Gu 4
abbrev Lx:Df:=⟨"_law_bent",LI,["_law_tape_here","_law_thing","_law_deep"],6,Dr⟩
abbrev GT:Stmt:=top 17
def KD:FnScope ["_law_thing"] ["_law_thing"] (AM GT):=Bb (by kernel_rfl)
@[reducible] def Lb:MS:=(Aa (Cb (By .int (A2 0)) (EU (By .bool (A2 0)))))
def F3:FD:=mkF 1 1 Lb
abbrev F1:Df:=⟨"_law_is_number",GT,["_law_thing"],1,F3⟩
abbrev P3:Stmt:=top 18
def U9:FnScope ["_law_tape_here","_law_way","_law_due","_law_weight","_law_start","_law_told","_law_rows","_law_k"] ["_law_tape_here","_law_way"] (AM P3):=Bb (by kernel_rfl)
@[reducible] def cy:MS:=(A7 (AH 2 (mIf (AR (mOp gEq (AA 2 F_pick (A1 (A2 0) (A1 (mC (.int 4)) A5))) (mC (.int 0)))) (mOp B3 (AA 2 F_pick (A1 (A2 0) (A1 (mC (.int 500)) A5))) (mC (.int 99))) (mOp B3 (AA 2 F_pick (A1 (A2 0) (A1 (mC (.int 40)) A5))) (mC (.int 5)))))
 (A7 (AH 3 (AA 2 F_pick (A1 (A2 0) (A1 (mC (.int 10)) A5))))
 (A7 (B2 (AR (mOp gLt (A2 1) (mC (.int 4))))
  (Aa (Bi (AV (A1 (AI (A1 (mC (.str "late")) (A1 (A2 2) A5))) (A1 (AI (A1 (mC (.str "tardy")) (A1 (A2 2) (A1 (A2 3) A5)))) (A1 (AI (A1 (mC (.str "miss")) (A1 (A2 2) (A1 (A2 3) A5)))) (A1 (AI (A1 (mC (.str "ends")) (A1 (A2 3) A5))) A5))))) (A2 1)))
  Ap)
 (A7 (I0 [4,5] (A1 (mCB HQ (A1 (A2 2) (A1 (mC (.int 200)) A5))) (A1 (mC (.int 0)) A5)))
 (A7 (AH 6 (AO (AV A5)))
 (A7 (BO (Cq (A1 (mOp AE (mC (.int 1)) (AA 2 F_pick (A1 (A2 0) (A1 (mC (.int 5)) A5)))) A5)) (AG 7)
  (A7 (AH 4 (mOp AE (mOp AE (A2 4) (mC (.int 1))) (AA 2 F_pick (A1 (A2 0) (A1 (mC (.int 40)) A5)))))
 (A7 (AH 5 (mOp AE (A2 5) (AA 2 F_pick (A1 (A2 0) (A1 (mC (.int 20)) A5)))))
 (BE (mMt Ao (A2 6) (A1 (AI (A1 (A2 4) (A1 (A2 5) A5))) A5))))))
 (Aa (AI (A1 (mC (.str "steps")) (A1 (mCB (f1 true BQ) (A1 (A2 6) A5)) A5))))))))))
def HR:FD:=mkF 2 8 cy
abbrev Lw:Df:=⟨"_law_cost",P3,["_law_tape_here","_law_way"],2,HR⟩
abbrev Mh:Stmt:=top 19
def RX:FnScope ["_law_tape_here","_law_many","_law_alike","_law_begin","_law_wide","_law_found","_law_k","_law_coming"] ["_law_tape_here","_law_many","_law_alike"] (AM Mh):=Bb (by kernel_rfl)
@[reducible] def dC:MS:=(A7 (AH 3 (mOp Dl (AA 2 F_pick (A1 (A2 0) (A1 (mC (.int 61)) A5))) (AA 2 F_pick (A1 (A2 0) (A1 (mC (.int 2)) A5)))))
 (A7 (AH 4 (Bi (AV (A1 (mC (.int 3)) (A1 (mC (.int 20)) A5))) (AA 2 F_pick (A1 (A2 0) (A1 (mC (.int 2)) A5)))))
 (A7 (AH 5 (AO (AV A5)))
 (A7 (BO (Cq (A1 (A2 1) A5)) (AG 6)
  (A7 (AH 7 (mIf (Bg (A2 2)) (A2 3) (AA 2 F_pick (A1 (A2 0) (A1 (Bi (AV (A1 (mC (.int 8)) (A1 (mC (.int 61)) A5))) (AA 2 F_pick (A1 (A2 0) (A1 (mC (.int 2)) A5)))) A5)))))
 (BE (mMt Ao (A2 5) (A1 (AI (A1 (mOp AE (mC (.int 1)) (AA 2 F_pick (A1 (A2 0) (A1 (A2 4) A5)))) (A1 (A2 7) (A1 (AA 2 HR (A1 (A2 0) (A1 (AA 2 F_pick (A1 (A2 0) (A1 (mC (.int 5)) A5))) A5))) A5)))) A5)))))
 (Aa (mCB (f1 true BQ) (A1 (A2 5) A5)))))))
def F_works:FD:=mkF 3 8 dC
abbrev JZ:Df:=⟨"_law_works",Mh,["_law_tape_here","_law_many","_law_alike"],3,F_works⟩
abbrev LH:Stmt:=top 20
def Oy:FnScope ["_law_tape_here","_law_many","_law_left","_law_seq","_law_k","_law_dense","_law_found","_law_i","_law_j"] ["_law_tape_here","_law_many"] (AM LH):=Bb (by kernel_rfl)
@[reducible] def d6:MS:=(A7 (AH 2 (AO (Ge (A1 (A2 1) A5))))
 (A7 (AH 3 (AO (AV A5)))
 (A7 (BO (Cq (A1 (A2 1) A5)) (AG 4)
  (BE (mMt Ao (A2 3) (A1 (mMt FZ (A2 2) (A1 (AA 2 F_pick (A1 (A2 0) (A1 (mCB (f1 true BI) (A1 (A2 2) A5)) A5))) A5)) A5))))
 (A7 (AH 5 (Bi (AV (A1 (mC (.int 2)) (A1 (mC (.int 3)) (A1 (mC (.int 6)) A5)))) (AA 2 F_pick (A1 (A2 0) (A1 (mC (.int 3)) A5)))))
 (A7 (AH 6 (AO (AV A5)))
 (A7 (BO (Cq (A1 (A2 1) A5)) (AG 7)
  (BO (E4 (A1 (mOp AE (A2 7) (mC (.int 1))) (A1 (A2 1) A5))) (AG 8)
  (B2 (AR (mOp gEq (AA 2 F_pick (A1 (A2 0) (A1 (A2 5) A5))) (mC (.int 0))))
  (BE (mMt Ao (A2 6) (A1 (AI (A1 (mOp gIx (A2 3) (A2 7)) (A1 (mOp gIx (A2 3) (A2 8)) A5))) A5)))
  Ap)))
 (Aa (Dk BQ (Gc (AO (Dw (CY (A2 6)))) AJ (AQ (mC (.int 16))))))))))))
def F_wishes:FD:=mkF 2 9 d6
abbrev ID:Df:=⟨"_law_wishes",LH,["_law_tape_here","_law_many"],2,F_wishes⟩
abbrev Sz:Stmt:=top 21
def Wq:FnScope ["_law_works_here","_law_wishes_here","_law_left","_law_work","_law_firsts"] ["_law_works_here","_law_wishes_here","_law_left","_law_work"] (AM Sz):=Bb (by kernel_rfl)
@[reducible] def aU:MS:=(A7 (AH 4 (AO (B5 2 [3] (BD (A2 1)) (Bx 2 (Ac (AG 0) (Ac (AG 1) CF))) (AR (mOp gEq (A2 1) (A2 2))) (A2 0))))
 (Aa (Cb (mOp gGt (mOp gIx (A2 2) (A2 3)) (mC (.int 0))) (D8 false (B5 1 [2] (CY (A2 4)) (AG 0) (AR (mOp gGt (mOp gIx (A2 1) (A2 0)) (mC (.int 0)))) (A2 0)) (AV A5)))))
def Kc:FD:=mkF 4 5 aU
abbrev OU:Df:=⟨"_law_may",Sz,["_law_works_here","_law_wishes_here","_law_left","_law_work"],1,Kc⟩
abbrev P0:Stmt:=top 22
def U6:FnScope ["_law_tape_here","_law_works_here","_law_wishes_here","_law_left","_law_found","_law_now","_law_gaps","_law_turn","_law_some","_law_work","_law_here","_law_days"] ["_law_tape_here","_law_works_here","_law_wishes_here"] (AM P0):=Bb (by kernel_rfl)
@[reducible] def Yx:MS:=(A7 (AH 3 (AO (B5 1 [] (BD (A2 1)) (AG 0) Bc (mOp gIx (A2 0) (mC (.int 0))))))
 (A7 (AH 4 (AO (AV A5)))
 (A7 (Fz (AI (A1 (mC (.int 0)) (A1 (mC (.int 4)) A5))) (Bx 2 (Ac (AG 5) (Ac (AG 6) CF))))
 (A7 (BO (Cq (A1 (mC (.int 60)) A5)) (AG 7)
  (FV (A7 (AH 8 (AO (AV A5)))
 (A7 (BO (Cq (A1 (mCB (f1 true BI) (A1 (A2 1) A5)) A5)) (AG 9)
  (FV (B2 (Bg (Ak Kc (A1 (A2 1) (A1 (A2 2) (A1 (A2 3) (A1 (A2 9) A5))))))
  (BE (mMt Ao (A2 8) (A1 (A2 9) A5)))
  Ap)))
 (A7 (AH 10 (AO (B5 1 [1,5] (CY (A2 8)) (AG 0) (AR (mOp gLe (mOp gIx (mOp gIx (A2 1) (A2 0)) (mC (.int 1))) (A2 2))) (A2 0))))
 (B2 (EQ (AR (C4 false (A2 10) (AV A5))) (AR (C4 true (A2 8) (AV A5))))
  (AH 5 (Dk JR (B5 1 [1] (CY (A2 8)) (AG 0) Bc (mOp gIx (mOp gIx (A2 1) (A2 0)) (mC (.int 1))))))
  (B2 (AR (C4 true (A2 10) (AV A5)))
  (A7 (AH 9 (mOp gIx (A2 10) (AA 2 F_pick (A1 (A2 0) (A1 (mCB (f1 true BI) (A1 (A2 10) A5)) A5)))))
 (A7 (AH 11 (mOp gIx (A2 3) (A2 9)))
 (A7 (B2 (AR (mOp gLt (mCB (f1 true BI) (A1 (A2 4) A5)) (mC (.int 30))))
  (AH 11 (mOp AE (mC (.int 1)) (AA 2 F_pick (A1 (A2 0) (A1 (A2 11) A5)))))
  Ap)
 (A7 (BE (mMt Ao (A2 4) (A1 (AI (A1 (A2 9) (A1 (A2 5) (A1 (mOp AE (A2 5) (A2 11)) A5)))) A5)))
 (A7 (Dj (A2 3) (A2 9) (mOp B3 (mOp gIx (A2 3) (A2 9)) (A2 11)))
 (A7 (AH 5 (mOp AE (A2 5) (A2 11)))
 (B2 (EQ (AR (mOp gGt (A2 6) (mC (.int 0)))) (AR (mOp gEq (AA 2 F_pick (A1 (A2 0) (A1 (mC (.int 6)) A5))) (mC (.int 0)))))
  (A7 (AH 6 (mOp B3 (A2 6) (mC (.int 1))))
 (AH 5 (mOp AE (mOp AE (A2 5) (mC (.int 1))) (AA 2 F_pick (A1 (A2 0) (A1 (mC (.int 4)) A5))))))
  Ap)))))))
  Ap)))))))
 (Aa (mCB (f1 true BQ) (A1 (A2 4) A5)))))))
def J7:FD:=mkF 3 12 Yx
abbrev Lu:Df:=⟨"_law_plan",P0,["_law_tape_here","_law_works_here","_law_wishes_here"],2,J7⟩
abbrev Ha:Stmt:=top 23
def LF:FnScope ["_law_works_here","_law_thing"] ["_law_works_here","_law_thing"] (AM Ha):=Bb (by kernel_rfl)
@[reducible] def MP:MS:=(A7 (B2 (mOr (Dx (Bg (By .tuple (A2 1)))) (mOr (AR (mOp gNe (mCB (f1 true BI) (A1 (A2 1) A5)) (mC (.int 3)))) (AR (IB false (mC (.bl false)) (B5 1 [] (BD (A2 1)) (AG 0) Bc (Ak F3 (A1 (A2 0) A5)))))))
 (Aa (mC (.bl false)))
 Ap)
 (Aa (Cb (EG gLe gLt (mC (.int 0)) (mOp gIx (A2 1) (mC (.int 0))) (mCB (f1 true BI) (A1 (A2 0) A5))) (Cb (mOp gLt (mOp gIx (A2 1) (mC (.int 1))) (mOp gIx (A2 1) (mC (.int 2)))) (mOp gGe (mOp gIx (A2 1) (mC (.int 1))) (mOp gIx (mOp gIx (A2 0) (mOp gIx (A2 1) (mC (.int 0)))) (mC (.int 1))))))))
def E9:FD:=mkF 2 2 MP
abbrev FI:Df:=⟨"_law_is_piece",Ha,["_law_works_here","_law_thing"],2,E9⟩
abbrev IU:Stmt:=top 24
def MK:FnScope ["_law_works_here","_law_wishes_here","_law_thing","_law_left","_law_first","_law_last","_law_now","_law_work","_law_start","_law_end"] ["_law_works_here","_law_wishes_here","_law_thing"] (AM IU):=Bb (by kernel_rfl)
@[reducible] def OD:MS:=(A7 (B2 (mOr (Dx (Bg (By .tuple (A2 2)))) (AR (IB false (mC (.bl false)) (B5 1 [0] (BD (A2 2)) (AG 0) Bc (Ak E9 (A1 (A2 1) (A1 (A2 0) A5)))))))
 (Aa (mC (.bl false)))
 Ap)
 (A7 (AH 3 (AO (B5 1 [] (BD (A2 0)) (AG 0) Bc (mOp gIx (A2 0) (mC (.int 0))))))
 (A7 (Fz (AI (A1 Ik (A1 Ik A5))) (Bx 2 (Ac (AG 4) (Ac (AG 5) CF))))
 (A7 (AH 6 (mC (.int 0)))
 (A7 (BO (BD (A2 2)) (Bx 3 (Ac (AG 7) (Ac (AG 8) (Ac (AG 9) CF))))
  (A7 (B2 (AR (mOp gLt (A2 8) (A2 6)))
  (Aa (mC (.bl false)))
  Ap)
 (A7 (AH 6 (A2 9))
 (A7 (Dj (A2 3) (A2 7) (mOp B3 (mOp gIx (A2 3) (A2 7)) (mOp B3 (A2 9) (A2 8))))
 (A7 (C5 (A2 4) (A2 7) (Ey (A2 4) (A2 7) (A2 8)))
 (C5 (A2 5) (A2 7) (A2 9)))))))
 (A7 (B2 (AR (D8 true (B5 1 [] (CY (A2 3)) (AG 0) (AR (mOp gNe (A2 0) (mC (.int 0)))) (A2 0)) (AV A5)))
  (Aa (mC (.bl false)))
  Ap)
 (Aa (D8 false (B5 1 [5,4] (BD (A2 1)) (AG 0) (AR (mOp gGt (mOp BY (A2 1) (mOp gIx (A2 0) (mC (.int 0)))) (mOp BY (A2 2) (mOp gIx (A2 0) (mC (.int 1)))))) (A2 0)) (AV A5)))))))))
def Cm:FD:=mkF 3 10 OD
abbrev GD:Df:=⟨"_law_is_plan",IU,["_law_works_here","_law_wishes_here","_law_thing"],3,Cm⟩
abbrev Jp:Stmt:=top 25
def Nk:FnScope ["_law_plan_here","_law_found","_law_work","_law_start","_law_end"] ["_law_plan_here"] (AM Jp):=Bb (by kernel_rfl)
@[reducible] def Pt:MS:=(A7 (AH 1 (AO (AV A5)))
 (A7 (BO (BD (A2 0)) (Bx 3 (Ac (AG 2) (Ac (AG 3) (Ac (AG 4) CF))))
  (BE (mMt Eh (A2 1) (A1 (AO (B5 1 [2] (E4 (A1 (A2 3) (A1 (A2 4) A5))) (AG 0) Bc (AI (A1 (A2 1) (A1 (A2 0) (A1 (mOp AE (A2 0) (mC (.int 1))) A5)))))) A5))))
 (Aa (mCB (f1 true BQ) (A1 (A2 1) A5)))))
def EN:FD:=mkF 1 5 Pt
abbrev Gj:Df:=⟨"_law_by_days",Jp,["_law_plan_here"],1,EN⟩
abbrev P2:Stmt:=top 26
def U8:FnScope ["_law_tape_here","_law_works_here","_law_plan_here","_law_at","_law_work","_law_start","_law_end","_law_other","_law_some","_law_found","_law_middle","_law_pair","_law_days","_law_moved"] ["_law_tape_here","_law_works_here","_law_plan_here"] (AM P2):=Bb (by kernel_rfl)
@[reducible] def Yy:MS:=(A7 (AH 3 (AA 2 F_pick (A1 (A2 0) (A1 (mCB (f1 true BI) (A1 (A2 2) A5)) A5))))
 (A7 (Fz (mOp gIx (A2 2) (A2 3)) (Bx 3 (Ac (AG 4) (Ac (AG 5) (Ac (AG 6) CF)))))
 (A7 (AH 7 (mOp gIx (A2 2) (AA 2 F_pick (A1 (A2 0) (A1 (mCB (f1 true BI) (A1 (A2 2) A5)) A5)))))
 (A7 (AH 8 (AO (AV (A1 (AI (A1 (A2 4) (A1 (A2 5) (A1 (mOp AE (A2 6) (mC (.int 1))) A5)))) (A1 (AI (A1 (A2 4) (A1 (A2 5) (A1 (mOp B3 (A2 6) (mC (.int 1))) A5)))) (A1 (AI (A1 (A2 4) (A1 (mOp B3 (A2 5) (mC (.int 1))) (A1 (A2 6) A5)))) (A1 (AI (A1 (A2 4) (A1 (mOp AE (A2 5) (mC (.int 1))) (A1 (A2 6) A5)))) (A1 (A2 7) A5))))))))
 (A7 (AH 8 (AO (Bn (A2 8) (AO (AV (A1 (AI (A1 (A2 4) (A1 (mOp B3 (A2 5) (mC (.int 1))) (A1 (mOp B3 (A2 6) (mC (.int 1))) A5)))) (A1 (AI (A1 (A2 4) (A1 (mOp AE (A2 5) (mC (.int 1))) (A1 (mOp AE (A2 6) (mC (.int 1))) A5)))) (A1 (AI (A1 (AA 2 F_pick (A1 (A2 0) (A1 (mCB (f1 true BI) (A1 (A2 1) A5)) A5))) (A1 (A2 5) (A1 (A2 6) A5)))) A5))))))))
 (A7 (AH 8 (AO (Bn (A2 8) (AO (AV (A1 (AI (A1 (A2 4) (A1 (A2 5) (A1 (A2 5) A5)))) (A1 (AI (A1 (A2 4) (A1 (A2 6) (A1 (A2 5) A5)))) (A1 (AO (AV (A1 (A2 4) (A1 (A2 5) (A1 (A2 6) A5))))) (A1 (AI (A1 (A2 4) (A1 (A2 5) A5))) (A1 (AI (A1 (A2 4) (A1 (A2 5) (A1 (A2 6) (A1 (A2 6) A5))))) A5))))))))))
 (A7 (AH 8 (AO (Bn (A2 8) (AO (AV (A1 (AI (A1 (mOp gEq (A2 4) (mC (.int 1))) (A1 (A2 5) (A1 (A2 6) A5)))) (A1 (AI (A1 (A2 4) (A1 (mOp gEq (A2 5) (mC (.int 0))) (A1 (A2 6) A5)))) (A1 (AI (A1 (mCB (f1 true BI) (A1 (A2 1) A5)) (A1 (A2 5) (A1 (A2 6) A5)))) (A1 (AI (A1 (C7 (mC (.int 1))) (A1 (A2 5) (A1 (A2 6) A5)))) (A1 (mC .non) A5))))))))))
 (A7 (AH 8 (AO (Bn (A2 8) (AO (AV (A1 (AI (A1 (A2 4) (A1 (A2 5) (A1 (mOp Gg (mC (.int 10)) (mC (.int 50))) A5)))) (A1 (AI (A1 (A2 4) (A1 (mC .non) (A1 (A2 6) A5)))) (A1 (AI (A1 (mCB ER (A1 (A2 4) A5)) (A1 (A2 5) (A1 (A2 6) A5)))) (A1 (AI (A1 (A2 5) (A1 (A2 4) (A1 (A2 6) A5)))) A5)))))))))
 (A7 (AH 9 (AO (B5 1 [2,3] (CY (A2 8)) (AG 0) Bc (mOp AE (mOp BC (Bh (A2 1) AJ (AQ (A2 2))) (AI (A1 (A2 0) A5))) (Bh (A2 1) (AQ (mOp AE (A2 2) (mC (.int 1)))) AJ)))))
 (A7 (AH 9 (AO (Bn (A2 9) (AO (AV (A1 (mOp BC (Bh (A2 2) AJ (AQ (A2 3))) (Bh (A2 2) (AQ (mOp AE (A2 3) (mC (.int 1)))) AJ)) (A1 (mOp BC (Ay (A2 2) AJ (AQ (mOp AE (A2 3) (mC (.int 1))))) (Ay (A2 2) (AQ (A2 3)) AJ)) (A1 (Dh (A2 2) (C7 (mC (.int 1)))) (A1 (AO (EV (A2 2))) (A1 (mOp AE (A2 2) (AI (A1 (A2 2) A5))) A5))))))))))
 (A7 (AH 7 (Dh (Ay (A2 2) (AQ (A2 3)) (AQ (mOp AE (A2 3) (mC (.int 2))))) (C7 (mC (.int 1)))))
 (A7 (BE (mMt Ao (A2 9) (A1 (mOp BC (mOp BC (Bh (A2 2) AJ (AQ (A2 3))) (A2 7)) (Bh (A2 2) (AQ (mOp AE (A2 3) (mC (.int 2)))) AJ)) A5)))
 (A7 (AH 10 (mOp AE (A2 5) (mOp Dm (mOp B3 (A2 6) (A2 5)) (mC (.int 2)))))
 (A7 (BO (IA (AV (A1 (AI (A1 (AI (A1 (A2 4) (A1 (A2 5) (A1 (A2 10) A5)))) (A1 (AI (A1 (A2 4) (A1 (A2 10) (A1 (A2 6) A5)))) A5))) (A1 (AI (A1 (AI (A1 (A2 4) (A1 (A2 5) (A1 (A2 6) A5)))) (A1 (AI (A1 (A2 4) (A1 (A2 6) (A1 (A2 6) A5)))) A5))) A5)))) (AG 11)
  (BE (mMt Ao (A2 9) (A1 (mOp BC (mOp BC (Bh (A2 2) AJ (AQ (A2 3))) (A2 11)) (Bh (A2 2) (AQ (mOp AE (A2 3) (mC (.int 1)))) AJ)) A5))))
 (A7 (BE (mMt Ao (A2 9) (A1 (AA 0 EN (A1 (A2 2) A5)) A5)))
 (A7 (BO (BD (AI (A1 (mC (.int 1)) (A1 (C7 (mC (.int 1))) (A1 (mC (.int 5000)) A5))))) (AG 12)
  (A7 (AH 13 (AO (B5 3 [12] (BD (A2 2)) (Bx 3 (Ac (AG 0) (Ac (AG 1) (Ac (AG 2) CF)))) Bc (AI (A1 (A2 0) (A1 (mOp AE (A2 1) (A2 3)) (A1 (mOp AE (A2 2) (A2 3)) A5)))))))
 (BE (mMt Ao (A2 9) (A1 (mCB (f1 true BQ) (A1 (A2 13) A5)) A5)))))
 (Aa (A2 9))))))))))))))))))
def Gv:FD:=mkF 3 14 Yy
abbrev Lv:Df:=⟨"_law_near",P2,["_law_tape_here","_law_works_here","_law_plan_here"],2,Gv⟩
abbrev T3:Stmt:=top 27
def Wr:FnScope ["_law_script","_law_tape_here","_law_k","_law_many","_law_works_here","_law_wishes_here","_law_plan_here","_law_bent_here","_law_things","_law_asked","_law_thing","_law_kept","_law_due"] ["_law_script"] (AM T3):=Bb (by kernel_rfl)
@[reducible] def aV:MS:=(A7 (AH 1 (Ak F_tape (A1 (A2 0) A5)))
 (A7 (BO (Cq (A1 (mC (.int 3)) A5)) (AG 2)
  (A7 (AH 3 (mOp AE (mC (.int 1)) (AA 2 F_pick (A1 (A2 1) (A1 (mC (.int 8)) A5)))))
 (A7 (AH 4 (AA 2 F_works (A1 (A2 1) (A1 (A2 3) (A1 (mOp gEq (A2 2) (mC (.int 0))) A5)))))
 (A7 (AH 5 (AA 2 F_wishes (A1 (A2 1) (A1 (A2 3) A5))))
 (A7 (AH 6 (AA 2 J7 (A1 (A2 1) (A1 (A2 4) (A1 (A2 5) A5)))))
 (A7 (AH 7 (Ak Dr (A1 (A2 1) (A1 (A2 6) (A1 (mC (.int 3)) A5)))))
 (A7 (AH 8 (AO (AV (A1 (A2 6) (A1 (mOp gIx (A2 6) (mC (.int 0))) (A1 (AO (AV (A1 (A2 6) A5))) (A1 (A2 7) (A1 (Ak Dr (A1 (A2 1) (A1 (A2 7) (A1 (mC (.int 3)) A5)))) A5))))))))
 (A7 (AH 8 (AO (Bn (A2 8) (AO (AV (A1 (AI A5) (A1 (mC .non) (A1 (mC (.int 0)) (A1 (mC (.str "")) (A1 (AI (A1 (AI A5) A5)) A5))))))))))
 (A7 (AH 8 (AO (Bn (A2 8) (AO (AV (A1 (Ak Dr (A1 (A2 1) (A1 (A2 6) (A1 (mC (.int 3)) A5)))) (A1 (Ak DP (A1 (A2 1) A5)) A5)))))))
 (A7 (AH 8 (AO (Bn (A2 8) (Ak Gv (A1 (A2 1) (A1 (A2 4) (A1 (A2 6) A5)))))))
 (BO (BD (AI (A1 (A2 5) (A1 (AA 2 F_wishes (A1 (A2 1) (A1 (A2 3) A5))) (A1 (AI A5) A5))))) (AG 9)
  (BO (CY (A2 8)) (AG 10)
  (A7 (AH 11 (mCB Cy (A1 (AI (A1 (A2 4) (A1 (A2 9) (A1 (A2 10) A5)))) A5)))
 (A7 (AH 12 (mCB Cz (A1 (Ak Cm (A1 (A2 4) (A1 (A2 9) (A1 (A2 10) A5)))) A5)))
 (A7 (B2 (AR (mOp gNe (mCB Cz (A1 (Ak DQ (A1 (A2 4) (A1 (A2 9) (A1 (A2 10) A5)))) A5)) (A2 12)))
  (Aa (mC (.bl false)))
  Ap)
 (B2 (AR (mOp gNe (mCB Cy (A1 (AI (A1 (A2 4) (A1 (A2 9) (A1 (A2 10) A5)))) A5)) (A2 11)))
  (Aa (mC (.bl false)))
  Ap))))))))))))))))
 (Aa (mC (.bl true)))))
def d8:FD:=mkF 1 13 aV
abbrev OV:Df:=⟨"law",T3,["_law_script"],7,d8⟩
set_option maxHeartbeats 0 in
def oks{E:EnK}(B:BltA E.mg):(Dn E E7->Kn E E7)/\
 (Dn E DH->Kn E E7->Kn E DH)/\
 (Dn E Ca->Kn E DH->Kn E Ca)/\
 (Dn E ES->Kn E ES)/\
 (Dn E GE->Kn E E7->Kn E Ca->Kn E ES->Kn E GE)/\
 (Dn E Dp->Kn E Dp)/\
 (Dn E Dz->Kn E Dz)/\
 (Dn E E1->Kn E E1)/\
 (Dn E Gi->Kn E Gi)/\
 (Dn E Gh->Kn E GE->Kn E Dp->Kn E Dz->Kn E E1->Kn E Gi->Kn E Gh)/\
 (Dn E Lr->Kn E Lr)/\
 (Dn E D4->Kn E D4)/\
 (Dn E FB->Kn E D4->Kn E FB)/\
 (Dn E Lx->Kn E D4->Kn E FB->Kn E Lx)/\
 (Dn E F1->Kn E F1)/\
 (Dn E Lw->Kn E D4->Kn E Lw)/\
 (Dn E JZ->Kn E D4->Kn E Lw->Kn E JZ)/\
 (Dn E ID->Kn E D4->Kn E ID)/\
 (Dn E OU->Kn E OU)/\
 (Dn E Lu->Kn E D4->Kn E OU->Kn E Lu)/\
 (Dn E FI->Kn E F1->Kn E FI)/\
 (Dn E GD->Kn E FI->Kn E GD)/\
 (Dn E Gj->Kn E Gj)/\
 (Dn E Lv->Kn E D4->Kn E Gj->Kn E Lv)/\
 (Dn E OV->Kn E Gh->Kn E Lr->Kn E D4->Kn E FB->Kn E Lx->Kn E JZ->Kn E ID->Kn E Lu->Kn E GD->Kn E Lv->Kn E OV):=by
 refine⟨λD=>okK D LG rfl rfl λ_ _ _ _ _ _ _ hr=>?_,
  λD _=>okK D HY rfl rfl λ_ _ _ _ _ _ _ hr=>?_,
  λD _=>okK D Fr rfl rfl λ_ _ _ _ _ _ _ hr=>?_,
  λD=>okK D JG rfl rfl λ_ _ _ _ _ _ _ hr=>?_,
  λD _ _ _=>okK D ML rfl rfl λ_ _ _ _ _ _ _ hr=>?_,
  λD=>okK D Hm rfl rfl λ_ _ _ _ _ _ _ hr=>?_,
  λD=>okK D IR rfl rfl λ_ _ _ _ _ _ _ hr=>?_,
  λD=>okK D IS rfl rfl λ_ _ _ _ _ _ _ hr=>?_,
  λD=>okK D Nj rfl rfl λ_ _ _ _ _ _ _ hr=>?_,
  λD _ _ _ _ _=>okK D Ni rfl rfl λ_ _ _ _ _ _ _ hr=>?_,
  λD=>okK D U5 rfl rfl λ_ _ _ _ _ _ _ hr=>?_,
  λD=>okK D U7 rfl rfl λ_ _ _ _ _ _ _ hr=>?_,
  λD _=>okK D Nh rfl rfl λ_ _ _ _ _ _ _ hr=>?_,
  λD _ _=>Nat.rec (motive:=λn=>Kn E ⟨"_law_bent",LI,["_law_tape_here","_law_thing","_law_deep"],n+2,Gu n⟩) (ok0 D) (λn ih=>okK (j:=n+2) D UA rfl (by omega) λ_ _ _ _ _ _ _ hr=>?_) 4,
  λD=>okK D KD rfl rfl λ_ _ _ _ _ _ _ hr=>?_,
  λD _=>okK D U9 rfl rfl λ_ _ _ _ _ _ _ hr=>?_,
  λD _ _=>okK D RX rfl rfl λ_ _ _ _ _ _ _ hr=>?_,
  λD _=>okK D Oy rfl rfl λ_ _ _ _ _ _ _ hr=>?_,
  λD=>okK D Wq rfl rfl λ_ _ _ _ _ _ _ hr=>?_,
  λD _ _=>okK D U6 rfl rfl λ_ _ _ _ _ _ _ hr=>?_,
  λD _=>okK D LF rfl rfl λ_ _ _ _ _ _ _ hr=>?_,
  λD _=>okK D MK rfl rfl λ_ _ _ _ _ _ _ hr=>?_,
  λD=>okK D Nk rfl rfl λ_ _ _ _ _ _ _ hr=>?_,
  λD _ _=>okK D U8 rfl rfl λ_ _ _ _ _ _ _ hr=>?_,
  λD _ _ _ _ _ _ _ _ _ _=>okK D Wr rfl rfl λ_ _ _ _ _ _ _ hr=>?_⟩
 all_goals (refine' ⟨_,_⟩;rotate_left;repeat' (first
  |((with_reducible show QE _ _ _ _ _);first|exact qv _ _|(first|exact YG _|exact Y5 _|exact aI _|exact YC _)|((with_reducible show QE _ _ _ _ (mOp _ _ _));first|((with_reducible show QE _ _ _ _ (mOp gIx _ _));refine' aG _ _ _)|((with_reducible show QE _ _ _ _ (mOp BY _ _));refine' V8 _ (OM hr) _ _)|((with_reducible show QE _ _ _ _ (mOp AE _ _));refine' F7 _ ((Pj).or (LY _)) (Ef PK Mp) _ _)|((with_reducible show QE _ _ _ _ (mOp B3 _ _));refine' F7 _ Yl XW _ _)|((with_reducible show QE _ _ _ _ (mOp Dl _ _));refine' F7 _ Yo Xb _ _)|((with_reducible show QE _ _ _ _ (mOp CZ _ _));refine' F7 _ Yp Xc _ _)|((with_reducible show QE _ _ _ _ (mOp Dm _ _));refine' F7 _ Vc Ub _ _)|((with_reducible show QE _ _ _ _ (mOp Gg _ _));refine' F7 _ Ym XX _ _)|((with_reducible show QE _ _ _ _ (mOp HP _ _));refine' F7 _ Vf Ud _ _)|((with_reducible show QE _ _ _ _ (mOp BC _ _));refine' F7 _ (((Pj).or (LY _)).or (Ve _)) (Ef (Ef PK Mp) Uc) _ _)|((with_reducible show QE _ _ _ _ (mOp gLt _ _));refine' GW _ O8 Np _ _)|((with_reducible show QE _ _ _ _ (mOp gLe _ _));refine' GW _ O9 Nq _ _)|((with_reducible show QE _ _ _ _ (mOp gGt _ _));refine' GW _ TK T7 _ _)|((with_reducible show QE _ _ _ _ (mOp gGe _ _));refine' GW _ TL T8 _ _)|((with_reducible show QE _ _ _ _ (mOp gEq _ _));refine' GW _ ((TM).or (JK _ hr.units)) (Ef PH PJ) _ _))|refine' Y4 _ _|((with_reducible show QE _ _ _ _ (AO _));refine' YD _ _)|refine' YE _ _|((with_reducible show QE _ _ _ _ (AA _ _ _));first|refine' qcW _ (by assumption) hr _|refine' qcW _ (by assumption) (hr.in1.deeper _) _)|((with_reducible show QE _ _ _ _ (Ak _ _));refine' qcG (by assumption) hr _)|((with_reducible show QE _ _ _ _ (Dk _ _));first|((with_reducible show QE _ _ _ _ (Dk G0 _));refine' TD _ (K5 _ rfl) P8 B.all L2.bt_all _)|((with_reducible show QE _ _ _ _ (Dk JR _));refine' TD _ (K4 _ rfl) P7 B.min L2.bt_min _)|((with_reducible show QE _ _ _ _ (Dk BQ _));refine' aH _ (Hi _) LM B.tuple L2.bt_tuple _))|((with_reducible show QE _ _ _ _ (mCB _ _));first|((with_reducible show QE _ _ _ _ (mCB (f1 _ G0) _));refine' HE _ (K5 _ rfl) (Nn P8) B.all L2.bt_all _)|((with_reducible show QE _ _ _ _ (mCB (f1 _ BI) _));refine' HE _ (QV _) (Nn XG) B.len L2.bt_len _)|((with_reducible show QE _ _ _ _ (mCB (f1 _ JR) _));refine' HE _ (K4 _ rfl) (Nn P7) B.min L2.bt_min _)|((with_reducible show QE _ _ _ _ (mCB HQ _));refine' HE _ (QU rfl) UQ B.min L2.bt_min _)|((with_reducible show QE _ _ _ _ (mCB Cz _));refine' HE _ OZ Rh B.repr L2.bt_repr _)|((with_reducible show QE _ _ _ _ (mCB Cy _));refine' HE _ (MV _ hr.gd hr.units) Rg B.repr L2.bt_repr _)|((with_reducible show QE _ _ _ _ (mCB (f1 _ BQ) _));refine' O2 _ (Hi _) (Nn LM) B.tuple L2.bt_tuple _)|((with_reducible show QE _ _ _ _ (mCB ER _));refine' O2 _ Sl XH B.str L2.bt_str _)|((with_reducible show QE _ _ _ _ (mCB Lk _));refine' O2 _ QX XI B.int L2.bt_int _))|((with_reducible show QE _ _ _ _ (Bi _ _));refine' YF _ _ _)|((with_reducible show QE _ _ _ _ (Bh _ _ _));refine' Y7 _ _ _ _)|((with_reducible show QE _ _ _ _ (Ay _ _ _));refine' Y9 _ _ _ _)|((with_reducible show QE _ _ _ _ (Dh _ _));refine' V3 _ _)|((with_reducible show QE _ _ _ _ (Di _ _));refine' V4 _ _)|((with_reducible show QE _ _ _ _ (Hz _ _ _));refine' Y8 _ _ _ _)|((with_reducible show QE _ _ _ _ (Hy _));refine' Y3 _ _)|((with_reducible show QE _ _ _ _ (EG _ _ _ _ _));first|((with_reducible show QE _ _ _ _ (EG gLe gLt _ _ _));refine' S5 O9 Nq O8 Np _ _ _))|((with_reducible show QE _ _ _ _ (Ey _ _ _));refine' S4 _ (OM hr) _ _ _)|refine' S3 _ _ _ _|((with_reducible show QE _ _ _ _ (mMt _ _ _));first|((with_reducible show QE _ _ _ _ (mMt Ao _ _));refine' O1 _ PySem.F.slot_list_append PySem.F.type_list_append Js P5 _ _)|((with_reducible show QE _ _ _ _ (mMt FZ _ _));refine' O1 _ PySem.F.slot_list_pop PySem.F.type_list_pop SO Re _ _)|((with_reducible show QE _ _ _ _ (mMt Eh _ _));refine' O1 _ PySem.F.slot_list_extend PySem.F.type_list_extend Po P4 _ _))|((with_reducible show QE _ _ _ _ (Cu _ _ _ _ _ _ _ _ _));refine' bG _ (λ_ _ _=>_) (λ_ _ _=>_) (λ_ _ _=>_) (λ_ _ _=>_) (λ_ _ _=>_) (λ_ _ _=>_))|exact V6 _|refine' V7 _ _|((with_reducible show QE _ _ _ _ (By _ _));first|((with_reducible show QE _ _ _ _ (By .int _));refine' Ia _ .int B.isinstance B.int _)|((with_reducible show QE _ _ _ _ (By .bool _));refine' Ia _ .bool B.isinstance B.bool _)|((with_reducible show QE _ _ _ _ (By .str _));refine' Ia _ .str B.isinstance B.str _)|((with_reducible show QE _ _ _ _ (By .tuple _));refine' Ia _ .tuple B.isinstance B.tuple _))|((with_reducible show QE _ _ _ _ (D8 _ _ _));refine' V5 _ (Pi _ hr.units) _ _)|((with_reducible show QE _ _ _ _ (Cb _ _));refine' YH _ _ _)|((with_reducible show QE _ _ _ _ (EU _));refine' YB _ _)|refine' YA _ _)
  |refine' V9 _ _ _|exact YI _
  |((with_reducible show QT _ _ _ _ _);first|((with_reducible show QT _ _ _ _ (AR (mOp _ _ _)));first|((with_reducible show QT _ _ _ _ (AR (mOp gLt _ _)));refine' Ev _ O8 Np _ _)|((with_reducible show QT _ _ _ _ (AR (mOp gLe _ _)));refine' Ev _ O9 Nq _ _)|((with_reducible show QT _ _ _ _ (AR (mOp gGt _ _)));refine' Ev _ TK T7 _ _)|((with_reducible show QT _ _ _ _ (AR (mOp gGe _ _)));refine' Ev _ TL T8 _ _)|((with_reducible show QT _ _ _ _ (AR (mOp gEq _ _)));refine' Ev _ ((TM).or (JK _ hr.units)) (Ef PH PJ) _ _)|((with_reducible show QT _ _ _ _ (AR (mOp gNe _ _)));refine' Ev _ ((aQ).or (JJ _ hr.units)) (Ef XY XZ) _ _)|((with_reducible show QT _ _ _ _ (AR (mOp (JW true) _ _)));refine' Ev _ (JJ _ hr.units) Xa _ _))|refine' Xj _ _|((with_reducible show QT _ _ _ _ (Bg _));refine' Rt _ _)|((with_reducible show QT _ _ _ _ (EQ _ _));refine' QW.toT _)|((with_reducible show QT _ _ _ _ (mOr _ _));refine' QW.toT _)|((with_reducible show QT _ _ _ _ (AR (C4 _ _ _)));first|refine' Mu _ (Pi _ hr.units) _ _|refine' Mu _ (Pf _ hr.units) _ _)|((with_reducible show QT _ _ _ _ (AR (D8 _ _ _)));refine' Uh _ (Pf _ hr.units) _ _)|((with_reducible show QT _ _ _ _ (AR (IB _ _ _)));refine' Ug _ (Yq _) _ _))
  |refine' Uf _ _|refine' Xh _ _|refine' Xi _ _ _|refine' aD _ _ _
  |((with_reducible show QN _ _ _ _ _);first|refine' Xr _ _|((with_reducible show QN _ _ _ _ (B5 _ _ _ _ _ _));refine' qnA _ (λ_ _ _=>_) (λ_ _ _=>_) (λ_ _ _=>_))|((with_reducible show QN _ _ _ _ (Bn _ _));refine' Xu _ _ _)|((with_reducible show QN _ _ _ _ (Gc _ _ _));refine' Xq _ _ _ _)|((with_reducible show QN _ _ _ _ (Dw _));refine' O0 _ B.sorted _)|((with_reducible show QN _ _ _ _ (Ge _));refine' Ry _ B.list B.range _)|((with_reducible show QN _ _ _ _ (FW _));refine' Rz _ B.list _)|((with_reducible show QN _ _ _ _ (EV _));refine' Uw _ B.list _))
  |((with_reducible show QI _ _ _ _ _ _);first|((with_reducible show QI _ _ _ _ _ (Cq _));refine' Uz _ B.range _)|((with_reducible show QI _ _ _ _ _ (E4 _));refine' Uy _ B.range _)|((with_reducible show QI _ _ _ _ _ (BD _));refine' Xw _ _)|((with_reducible show QI _ _ _ _ _ (CY _));refine' V0 _ _)|((with_reducible show QI _ _ _ _ _ (IA _));refine' Xx _ _)|((with_reducible show QI _ _ _ _ _ (JQ _ _));refine' Xv _ B.zip _ _))
  |((with_reducible show QR _ _ _ _ _ _);first|((with_reducible show QR _ _ _ _ _ (CY _));refine' Us _ _)|((with_reducible show QR _ _ _ _ _ (BD _));refine' Xp _ _))
  |exact qgA
  |refine' Xy _ rfl _
  |exact V1 _|refine' S0 _ _ _
  |exact Y0 _|refine' Xz _ _
  |exact Uv _|refine' Uu _ _
  |exact Ut _|refine' Rx _ _ _ _
  |((with_reducible show QSs _ _ _ _ _);first|((with_reducible show QSs _ _ _ _ (A7 _ _));refine' Ru _ _ _)|((with_reducible show QSs _ _ _ _ (FV _));refine' PR _ _)|(first|exact Uj _|refine' Ui _ _))
  | ((with_reducible show QS _ _ _ _ _);first|((with_reducible show QS _ _ _ _ (AH _ (AO (B5 _ _ _ _ _ _))));first|refine' bF _ (λ_ _ _=>_) (λ_ _ _=>_) (λ_ _ _=>_)|refine' qsA _)|((with_reducible show QS _ _ _ _ (AH _ (Cu _ _ _ _ _ _ _ _ _)));first|refine' aF _ (λ_ _ _=>_) (λ_ _ _=>_) (λ_ _ _=>_) (λ_ _ _=>_) (λ_ _ _=>_) (λ_ _ _=>_)|refine' qsA _)|((with_reducible show QS _ _ _ _ (AH _ _));refine' qsA _)|refine' aE _ _ _ _|refine' Xl _ _|refine' Xn _ rfl _ _ _|refine' Uq _ _|((with_reducible show QS _ _ _ _ (C5 _ _ _));refine' Ur _ (OM hr) _ _ _)|((with_reducible show QS _ _ _ _ (Dj _ _ _));refine' Uo _ _ _ _)|refine' Xm _ rfl (ED (by kernel_rfl)) rfl rfl (by decide) rfl rfl _|refine' Um _ rfl (ED (by kernel_rfl)) rfl rfl rfl rfl rfl rfl _|refine' Xo _ _ _|exact Ul _|((with_reducible show QS _ _ _ _ (HI _ _ _ _));refine' Up _ _ _ _ ZE))))
open Bd
def ZL:F_pick=Bd.F_pick:=rfl
def ZK:F_tape=Bd.F_tape:=rfl
def Sb:F_wishes=Bd.F_wishes:=rfl
def W8:F_works=Bd.F_works:=rfl
def T(_:Nat)(a b:MO):Prop:=∃τ:Tp,tp τ=[a,b]
def tap:Tap T F_pick where
 cl:=by
  rintro k a b ⟨τ,e⟩;have:=IL τ;rw[e]at this;simpa using this
 le:=λh _=>h
 pick:=by
  rintro k a b many ⟨τ,e⟩ h0 h1;obtain⟨r,τ',d⟩:=draw τ many h0 h1;refine⟨r,.lst (τ'.cells.map λi=>.im (.int i)),.dic (BH τ'),d.lo,d.hi,?_,τ',rfl⟩;rw[<- e,ZL];exact d.eq
abbrev wI(ps:List (Int×Int)):I:=.tup (ps.map Cs)
def Kl{neg:Bool}{ml:MA}{ls:Ls}{hd:Hd}{QE:D->Hd->Prop}(h:WA ml ls hd λds x=>∃ns:List Int,ds=AS ns/\QE (.im (.bl (if neg then !decide (ns=[])else decide (ns=[])))) x):WE (D8 neg ml (AV A5)) ls hd QE:=by
 obtain⟨ds,x,e,ns,rfl,q⟩:=h;refine⟨_,x,?_,q⟩;unfold D8;rw[e];simp[CN,Cf,I.pys,E2]
def DD{neg:Bool}{ma:ME}{ls:Ls}{hd:Hd}{QE:D->Hd->Prop}(h:WE ma ls hd λd x=>∃ns:List Int,pyD x d=some (.list (ns.map PyData.int))/\QE (.im (.bl (if neg then !decide (ns=[])else decide (ns=[])))) x):WE (C4 neg ma (AV A5)) ls hd QE:=by
 obtain⟨d,x,e,ns,e2,q⟩:=h;refine⟨_,x,?_,q⟩;unfold C4;rw[e];simp[e2,I.pys,E2]
def N0(L:List Nat):Av L=AS (L.map λk:Nat=>(k:Int)):=by simp[Av,AS]
def bP(p:Nat->Prop)[DecidablePred p](L:List Nat):(L.filterMap λa=>if p a then some (D.im (.int (a:Int)))else none)=Av (L.filter λa=>decide (p a)):=by
 induction L with
 |nil=>rfl
 |cons x r ih=>
  rw[filterMap_cons,filter_cons];by_cases h:p x
  .simp[h,ih,Av]
  .simp[h,ih,Av]
def NJ(w:Nat)(ks:List Nat):B6 w (Av ks)=true:=by rw[N0];exact CH w _
def HW(n:Nat)(ds:List D):clO n (.lst ds)=B6 n ds:=rfl
def Go{α:Type}(n:Nat)(f:α->I)(l:List α):B6 n (l.map λx=>D.im (f x))=true:=by induction l<;>simp_all
def Mv{hd:Hd}{k:Nat}{ns:List Int}(e:hd[k]?=some (.lst (AS ns))):pyD hd (.mu k)=some (.list (ns.map PyData.int)):=by
 show(match hd[k]? with|some (.lst ds)=>(B8 ds).map λis=>PyData.list (I.pys is)|_=>none)=_;rw[e];show(B8 (ns.map λi=>D.im (.int i))).map _=_;rw[CN,map_some,Cf]
structure Wsh(n:Nat)(ps:List (Int×Int)):Prop where
 len:ps.length<=16
 al:∃seq:List Nat,seq.Perm (List.range n)/\Along seq ps
def Wsh.nats{n:Nat}{ps:List (Int×Int)}(h:Wsh n ps):∀p∈ps,∃a b:Nat,p=((a:Int),(b:Int))/\a<n/\b<n:=λp hp=>by
 obtain⟨seq,pm,al⟩:=h.al;obtain⟨i,j,a,b,_,e1,e2,e⟩:=al p hp;exact⟨a,b,e,by simpa using pm.mem_iff.mp (mem_of_getElem? e1),by simpa using pm.mem_iff.mp (mem_of_getElem? e2)⟩
def Kj{n:Nat}(hn:n<=8):∀a b,T 0 a b->WF F_wishes [.mu 1,.im (.int (n:Int))] [a,b] λd x=>∃i a' b' g,d=.im i/\(∃ps,i=wI ps/\Wsh n ps)/\T 0 a' b'/\x=a'::b'::g:=by
 rintro a b ⟨τ,e⟩;obtain⟨seq,ps,τ',g,pm,al,l,_,q⟩:=MJ τ n hn;rw[Sb,<- e];exact WP.eq q ⟨_,_,_,g,rfl,⟨ps,rfl,l,seq,pm,al⟩,⟨τ',rfl⟩,rfl⟩
def Ti{n:Nat}(hn:n<=8)(al:Bool):∀a b,T 0 a b->WF F_works [.mu 1,.im (.int (n:Int)),.im (.bl al)] [a,b] λd x=>∃i a' b' g,d=.im i/\(∃ws,i=AY ws/\ws.length=n/\∀w∈ws,w.ok)/\T 0 a' b'/\x=a'::b'::g:=by
 rintro a b ⟨τ,e⟩;obtain⟨ws,τ',⟨l,ok,_⟩,q⟩:=NP τ (n:Int) al (by omega) (by omega);obtain⟨g,q⟩:=q.eq;rw[W8,<- e];exact WP.eq q ⟨_,_,_,g,rfl,⟨ws,rfl,by simpa using l,ok⟩,⟨τ',rfl⟩,rfl⟩
open An
def EZ{m:MA}{ls:Ls}{hd:Hd}{QE:D->Hd->Prop}(h:WA m ls hd λds x=>∃(a b:MO) (rest:Hd) (many:Int),x=a::b::rest/\ds=[.mu 1,.im (.int many)]/\T 0 a b/\0<many/\many<1073741824/\∀r a' b',T 0 a' b'->0<=r->r<many->QE (.im (.int r)) (a'::b'::rest)):WE (AA 2 F_pick m) ls hd QE:=by
 obtain⟨ds,x,e,a,b,rest,many,rfl,rfl,hT,h0,h1,q⟩:=h;exact tap.draw (n:=0) hT e h0 h1 λr a' b' hT' p1 p2=>q r a' b' hT' p1 p2
def DV{ma mb:ME}{ls:Ls}{hd:Hd}{QA:List D->Hd->Prop}(h:WE ma ls hd λd x=>WE mb ls x λe y=>∃i j xs ys,d=.mu i/\e=.mu j/\y[i]?=some (.lst xs)/\y[j]?=some (.lst ys)/\Be (xs.length+ys.length)/\QA (xs++ys) y):WA (Bn ma mb) ls hd QA:=by
 obtain⟨d,x,e1,e,y,e2,i,j,xs,ys,rfl,rfl,e3,e4,c,q⟩:=h;exact⟨_,_,by simp only[Bn,e1,bind_some,e2,e3,e4,c,if_true],q⟩
def keep{a b a' b':MO}{g g':Hd}{t:Tv}{d:D}{n:Nat}(hn:n<=(a::b::g).length)(h:Is n (a::b::g) t d):Is n (a'::b'::(g++g')) t d:=h.mono (le_refl _) λk k2 kn=>by
 obtain⟨j,rfl⟩:∃j,k=j+2:=⟨k-2,by omega⟩
 simp only[List.getElem?_cons_succ];simp at hn;rw[List.getElem?_append_left (by omega)]
def keeps{a b a' b':MO}{g g':Hd}{t:List Tv}{d:List D}{n:Nat}(hn:n<=(a::b::g).length)(h:Iss n (a::b::g) t d):Iss n (a'::b'::(g++g')) t d:=h.mono (le_refl _) λk k2 kn=>by
 obtain⟨j,rfl⟩:∃j,k=j+2:=⟨k-2,by omega⟩
 simp only[List.getElem?_cons_succ];simp at hn;rw[List.getElem?_append_left (by omega)]
def Jl{a b:MO}{g:Hd}(hT:T 0 a b):WF DP [.mu 1] (a::b::g) λd x=>∃a' b' g' t,x=a'::b'::(g++g')/\T 0 a' b'/\Is x.length x t d/\Bo (10^50) 200 2 2 t:=by
 unfold DP;refine Br rfl ?_;refine AB (AX (Ah (B7 ?_)));refine A4 (AC (A4 (AC (A4 (AC (A4 (AC (A4 (AC (A4 (AC ?_)))))))))));refine A4 (AT (A6 ⟨Cw,?_⟩));refine A4 (Ah (B7 (A6 ⟨Cw,?_⟩)));refine A4 (AT (A4 (AC (A6 ⟨CG,?_⟩))));refine A4 (Ah (B7 (A4 (AC (A6 ⟨CG,?_⟩)))));refine A4 (DU (AC ⟨_,rfl,?_⟩));refine A4 (AC (A4 (AC (A4 (AC ?_)))));refine A4 (A9 (AC (AC (Ma (k:=50) (by decide) ?_))));refine A4 (AT (A4 (AT (A6 ⟨Cw,A6 ⟨CG,?_⟩⟩))));refine A4 (AT (A4 (AC (A4 (AC (A6 ⟨EI,?_⟩))))));refine A4 (AT (A4 (AC (A4 (AC (A6 ⟨EI,A6 ⟨AL (by simp),A8 ?_⟩⟩))))));generalize hds:[D.im .non,_,_,_,_,_,_,_,_,_,_,_,_,_,_,_,_,_]=ds;refine Af (A9 (A3 rfl (EZ (A4 (A3 rfl (A4 (AC (A6 ⟨a,b,g++[.lst [],.lst [.im (.int 2)],.lst ds],18,by simp,rfl,hT,by decide,by decide,λr a b hT p q=>?_⟩))))))));have hl:(a::b::g++[MO.lst []]).length=g.length+3:=by simp
 have key:∀h:Hd,h=a::b::(g++[.lst [],.lst [.im (.int 2)],.lst ds])->Iss h.length h ([.non,.bl true,.bl false,.str "",.str "late",.str "0",.tup [],.lst [],.tup [.int 0],.lst [.int 2],.int (-1),.int 0,.int 1,.int 3,.int (10^50),.tup [.tup []],.tup [.int 0,.int 1],.tup [.str "ends",.int 2]]:List Tv) ds:=by
  rintro h rfl;subst hds;refine .cons (Al .non) (.cons (Al (.bl true)) (.cons (Al (.bl false)) (.cons (Al (.str "")) (.cons (Al (.str "late")) (.cons (Al (.str "0")) (.cons (Al (.tup [])) ?_))))));refine .cons ?_ (.cons (Al (.tup [.int 0])) (.cons ?_ (.cons (Al (.int (-1))) (.cons (Al (.int 0)) (.cons (Al (.int 1)) (.cons (Al (.int 3)) (.cons (Al (.int (10^50))) (.cons (Al (.tup [.tup []])) (.cons (Al (.tup [.int 0,.int 1])) (.one (Al (.tup [.str "ends",.int 2]))))))))))))
  .simp only[Is];exact⟨g.length+2,[],by simp,by omega,by simp,by simp,Iss.nil⟩
  .simp only[Is];exact⟨g.length+3,[.im (.int 2)],by simp,by omega,by simp,by simp,.one (Al (.int 2))⟩
 obtain⟨d,t,e1,e2,e3⟩:=TY (key _ rfl) p q;refine Aw (ds:=ds) (by rw[Nf,Il];simp) e1 ⟨a,b,_,t,rfl,hT,e3,?_⟩;have all:∀t∈([.non,.bl true,.bl false,.str "",.str "late",.str "0",.tup [],.lst [],.tup [.int 0],.lst [.int 2],.int (-1),.int 0,.int 1,.int 3,.int (10^50),.tup [.tup []],.tup [.int 0,.int 1],.tup [.str "ends",.int 2]]:List Tv),Bo (10^50) 200 2 2 t:=by
  intro t ht;simp only[mem_cons,not_mem_nil,or_false]at ht;rcases ht with rfl|rfl|rfl|rfl|rfl|rfl|rfl|rfl|rfl|rfl|rfl|rfl|rfl|rfl|rfl|rfl|rfl|rfl
  all_goals refine⟨?_,?_,?_,?_⟩
  all_goals (simp only[Gq,Gqs,An.wt,wts,dep,BJ,An.tl]<;>decide +kernel)
 exact all t e2
def PB(m w dp l:Nat)(g:Hd)(d:D)(x:Hd):Prop:=∃a' b' g' t,x=a'::b'::(g++g')/\T 0 a' b'/\Is x.length x t d/\Bo (m+1) (2*w+400) (dp+4) (max l 2+1) t
def Ce{hd:Hd}{d:D}{ds:List D}(h:AN d=some ds):B9 hd d=some ds:=by unfold B9;rw[h]
def KW{m:MA}{ls:Ls}{hd:Hd}{i:Nat}{r:Int}{Q:D->Hd->Prop}{mw w dp l:Nat}(h:WA m ls hd λds x=>ls[i]?=some (some (.im (.int r)))/\∃ts,Iss x.length x ts ds/\0<=r/\r<ts.length/\(∀t∈ts,Bo mw w dp l t)/\∀d t,Is x.length x t d->Bo mw w dp l t->Q d x):WE (Bi m (A2 i)) ls hd Q:=by
 obtain⟨ds,x,e,e1,ts,h1,h2,h3,h4,q⟩:=h;obtain⟨d,t,e2,ht,hi⟩:=TY h1 h2 h3;exact Wb ⟨ds,x,e,A3 e1 ⟨r,d,rfl,e2,q d t hi (h4 t ht)⟩⟩
def FR{m w dp l:Nat}{t:Tv}(hm:10^50<=m)(h:Bo (10^50) 200 2 2 t):Bo (m+1) (2*w+400) (dp+4) (max l 2+1) t:=h.mono (by omega) (by omega) (by omega) (by omega)
def eqv_nil(ts:List Tv):PyData.eqv (pyT (.tup ts)) (I.py (.tup []))=ts.isEmpty:=by
 cases ts with
 |nil=>rfl
 |cons t r=>rw[pyT,FE,I.py,I.pys];rfl
def HF{n:Nat}{h g:Hd}{t:Tv}{d:D}(hn:n<=h.length)(q:Is n h t d):Is n (h++g) t d:=q.mono (le_refl _) λk _ kn=>List.getElem?_append_left (by omega)
def Hq{n:Nat}{h g:Hd}{t:List Tv}{d:List D}(hn:n<=h.length)(q:Iss n h t d):Iss n (h++g) t d:=q.mono (le_refl _) λk _ kn=>List.getElem?_append_left (by omega)
def F4{n n':Nat}{h:Hd}{t:Tv}{d:D}(hn:n<=n')(q:Is n h t d):Is n' h t d:=q.mono hn λk _ _=>rfl
def DX{n n':Nat}{h:Hd}{t:List Tv}{d:List D}(hn:n<=n')(q:Iss n h t d):Iss n' h t d:=q.mono hn λk _ _=>rfl
section
variable{m w dp l:Nat}{a b:MO}{g:Hd}{d dO:D}{tO:Tv}{r k:Int}{ls:Ls}
def Tn{ts:List Tv}{z3 z6:Option D}(hm:10^50<=m)(hw:w<=100000){h:Hd}{g1:Hd}(eh:h=a::b::(g++g1))(hT:T 0 a b)(hI:Is h.length h (.tup ts) d)(hO:Is h.length h tO dO)(bt:Bo m w dp l (.tup ts))(bO:Bo (10^50) 200 2 2 tO)(r0:0<=r)(r1:r<7):
 WS (A7 (AH 3 (AA 2 F_pick (A1 (A2 0) (A1 (mOp AE (mCB (f1 true BI) (A1 (A2 1) A5)) (mC (.int 1))) A5))))
 (A7 (AH 6 (AO (AV (A1 (AO (EV (A2 1))) (A1 (mOp AE (mOp BC (Ay (A2 1) AJ (AQ (A2 3))) (AI (A1 (A2 5) A5))) (Ay (A2 1) (AQ (A2 3)) AJ)) (A1 (mOp BC (Ay (A2 1) AJ (AQ (A2 3))) (Ay (A2 1) (AQ (mOp AE (A2 3) (mC (.int 1)))) AJ)) (A1 (mOp BC (Ay (A2 1) AJ (AQ (mOp AE (A2 3) (mC (.int 1))))) (Ay (A2 1) (AQ (A2 3)) AJ)) A5)))))))
 (Aa (Bi (Bn (A2 6) (AO (AV (A1 (mOp BC (mOp BC (Ay (A2 1) AJ (AQ (A2 3))) (Dh (Ay (A2 1) (AQ (A2 3)) (AQ (mOp AE (A2 3) (mC (.int 2))))) (C7 (mC (.int 1))))) (Ay (A2 1) (AQ (mOp AE (A2 3) (mC (.int 2)))) AJ)) (A1 (Di (A2 1) (C7 (mC (.int 1)))) (A1 (A2 5) A5)))))) (A2 4)))))
  [some (.mu 1),some d,some (.im (.int k)),z3,some (.im (.int r)),some dO,z6] h λfl x=>∃d',fl=.rt d'/\PB m w dp l g d' x:=by
 obtain⟨ds,hv,hs⟩:=hI.view;obtain⟨g0,w0,p0,l0⟩:=bt.tup;have hlen:=hs.len;have hwl:=J8 ts;have hl5:ds.length<=100000:=by omega
 subst eh;refine AB (AX (EZ (A4 (A3 rfl (A4 (A9 (BN (A4 (A3 rfl (A6 (C8 (ds:=ds) (by rw[if_pos rfl];exact Ce hv) rfl (AC (BA (A6 ⟨a,b,g++g1,(ds.length:Int)+1,rfl,rfl,hT,by omega,by omega,λr3 a b hT p q=>A8 ?_⟩))))))))))))));obtain⟨j,rfl⟩:∃j:Nat,r3=(j:Int):=⟨r3.toNat,by omega⟩
 have hs:Iss (a::b::(g++g1)).length (a::b::(g++g1)) ts ds:=by have:=keeps (g':=[]) (a':=a) (b':=b) (le_refl _) hs;rw[append_nil]at this;exact this
 have hO:Is (a::b::(g++g1)).length (a::b::(g++g1)) tO dO:=by have:=keep (g':=[]) (a':=a) (b':=b) (le_refl _) hO;rw[append_nil]at this;exact this
 generalize eH:a::b::(g++g1)=h at *;have hn:h.length=(a::b::(g++g1)).length:=by rw[<- eH]
 have tl:∀n,(ds.take n).length<=ds.length:=λn=>by rw[length_take];omega
 have dl:∀n,(ds.drop n).length<=ds.length:=λn=>by rw[length_drop];omega
 refine AB (AX (Ah (B7 (A4 (Ah (Md (A3 rfl ⟨ds,Ce hv,?_⟩)))))));refine A4 (A9 (A9 (KM (j:=3) rfl hv rfl (AT (A4 (A3 rfl (A6 ⟨CG,Bk (AF _) (AF _) (by have:=tl j;simp;omega) (Sy (j:=3) rfl hv rfl (FM (AF _) (AF _) (by simp) (by have:=tl j;have:=dl j;simp;omega) ?_))⟩)))))));refine A4 (A9 (KM (j:=3) rfl hv rfl (LA (c:=1) (j:=3) rfl hv rfl (Bk (AF _) (AF _) (by have:=tl j;have:=dl (j+1);omega) ?_))));refine A4 (A9 (Wo (j:=3) rfl hv rfl (Sy (j:=3) rfl hv rfl (Bk (AF _) (AF _) (by have:=tl (j+1);have:=dl j;omega) (A6 ⟨AL (by simp),A8 ?_⟩)))));generalize eA:[D.mu h.length,_,_,_]=A;refine Af (KW (i:=4) (r:=r) (mw:=m+1) (w:=2*w+400) (dp:=dp+4) (l:=max l 2+1) (DV (A3 rfl (Ah (B7 ?_)))));refine A4 (A9 (A9 (KM (j:=3) rfl hv rfl (JC (Wn (j:=3) rfl hv rfl (DU (AC ⟨_,rfl,rfl,_,AF _,Bk (AF _) (AF _) (by have:=tl j;simp;omega) (LA (c:=2) (j:=3) rfl hv rfl (Bk (AF _) (AF _) (by have:=tl j;have:=dl (j+2);simp;omega) ?_))⟩)))))));refine A4 (Tk (A3 rfl (DU (AC ⟨_,rfl,rfl,ds,hv,A4 (A3 rfl (A6 ⟨Aq,?_⟩))⟩))));generalize eB:[AK (List.take j ds++(List.take 2 (List.drop j ds)).reverse++List.drop (j+2) ds),AK ds.reverse,dO]=B;refine⟨h.length+1,h.length+2,A,B,by simp,by simp,by simp,by simp,AL (by subst eA;subst eB;simp),rfl,[.lst ts,.tup ((ts.take j++[tO])++ts.drop j),.tup (ts.take j++ts.drop (j+1)),.tup (ts.take (j+1)++ts.drop j),.tup ((ts.take j++((ts.drop j).take 2).reverse)++ts.drop (j+2)),.tup ts.reverse,tO],?_,r0,by simpa using r1,?_,λd' t' hi bo=>⟨d',rfl,a,b,g1++[.lst ds,.lst A,.lst B],t',by rw[<- eH];simp,hT,hi,bo⟩⟩
 .subst eA;subst eB;have h2:2<=h.length:=by rw[hn];simp
  generalize eX:h++[MO.lst ds]++[MO.lst _]++[MO.lst _]=X;have hX:h.length<=X.length:=by rw[<- eX];simp
  have hX2:h.length<X.length:=by rw[<- eX];simp
  have u:Iss X.length X ts ds:=by rw[<- eX,append_assoc,append_assoc];exact DX (by simp) (Hq (le_refl _) hs)
  have o:Is X.length X tO dO:=by rw[<- eX,append_assoc,append_assoc];exact F4 (by simp) (HF (le_refl _) hO)
  refine .cons ?_ (.cons (((u.take j).app (.one o)).app (u.drop j)).tup (.cons ((u.take j).app (u.drop (j+1))).tup (.cons ((u.take (j+1)).app (u.drop j)).tup (.cons (((u.take j).app ((u.drop j).take 2).rev).app (u.drop (j+2))).tup (.cons u.rev.tup (.one o))))));simp only[Is];exact⟨h.length,ds,rfl,h2,hX2,by rw[<- eX];simp,u⟩
 .have s0:=DK ts j;have s1:=DK ts (j+1);have s2:=DK ts (j+2);have s3:=DK (ts.drop j) 2;rw[List.drop_drop]at s3;have s4:=MW ((ts.drop j).take 2);have bw:=bO.wt;have tk:∀n u,u∈ts.take n->u∈ts:=λn u hu=>mem_of_mem_take hu;have dr:∀n u,u∈ts.drop n->u∈ts:=λn u hu=>mem_of_mem_drop hu;intro t ht;simp only[mem_cons,not_mem_nil,or_false]at ht;rcases ht with rfl|rfl|rfl|rfl|rfl|rfl|rfl
  .exact(Fh hm bt (λu hu=>.inl hu) (by omega) (by omega)).2
  .refine(Fh hm bt (λu hu=>?_) ?_ ?_).1
   .simp only[mem_append,mem_singleton]at hu;rcases hu with(hu|rfl)|hu
    .exact .inl (tk _ _ hu)
    .exact .inr bO
    .exact .inl (dr _ _ hu)
   .rw[CA,CA];simp only[wts];omega
   .simp;omega
  .refine(Fh hm bt (λu hu=>?_) ?_ ?_).1
   .rcases mem_append.mp hu with hu|hu
    .exact .inl (tk _ _ hu)
    .exact .inl (dr _ _ hu)
   .rw[CA];omega
   .simp;omega
  .refine(Fh hm bt (λu hu=>?_) ?_ ?_).1
   .rcases mem_append.mp hu with hu|hu
    .exact .inl (tk _ _ hu)
    .exact .inl (dr _ _ hu)
   .rw[CA];omega
   .simp;omega
  .refine(Fh hm bt (λu hu=>?_) ?_ ?_).1
   .simp only[mem_append,List.mem_reverse]at hu;rcases hu with(hu|hu)|hu
    .exact .inl (tk _ _ hu)
    .exact .inl (dr _ _ (mem_of_mem_take hu))
    .exact .inl (dr _ _ hu)
   .rw[CA,CA];omega
   .simp;omega
  .refine(Fh hm bt (λu hu=>.inl (by simpa using hu)) ?_ (by simp)).1;rw[MW];omega
  .exact FR hm bO
def J3{t:Tv}(hm:10^50<=m)(bt:Bo m w dp l t):Bo (m+1) (2*w+400) (dp+4) (max l 2+1) (.tup [t])/\Bo (m+1) (2*w+400) (dp+4) (max l 2+1) (.lst [t]):=by
 have h1:=bt.gd;have h2:=bt.wt;have h3:=bt.dp;exact⟨Gs (λu hu=>by rw[mem_singleton]at hu;subst hu;exact h1.mono (by omega)) (by simp only[wts];omega) (by simp only[BJ];omega) (by simp),M7 (λu hu=>by rw[mem_singleton]at hu;subst hu;exact h1.mono (by omega)) (by simp only[wts];omega) (by simp only[BJ];omega) (by simp)⟩
def Wc{v:Bool}{z3 z6:Option D}(hm:10^50<=m){h:Hd}{g1:Hd}(eh:h=a::b::(g++g1))(hT:T 0 a b)(hO:Is h.length h tO dO)(bt:Bo m w dp l (.bl v))(bO:Bo (10^50) 200 2 2 tO)(r0:0<=r)(r1:r<7):
 WS (Aa (Bi (AV (A1 (EU (A2 1)) (A1 (mCB Lk (A1 (A2 1) A5)) (A1 (mCB ER (A1 (A2 1) A5)) (A1 (AI (A1 (A2 1) A5)) (A1 (mC .non) (A1 (AO (AV (A1 (A2 1) A5))) (A1 (A2 5) A5)))))))) (A2 4)))
  [some (.mu 1),some (.im (.bl v)),some (.im (.int k)),z3,some (.im (.int r)),some dO,z6] h λfl x=>∃d',fl=.rt d'/\PB m w dp l g d' x:=by
 refine Af (KW (i:=4) (r:=r) (mw:=m+1) (w:=2*w+400) (dp:=dp+4) (l:=max l 2+1) (B7 ?_));refine A4 (JD (AZ (A3 rfl ⟨_,rfl,?_⟩)));refine A4 (BN (A4 (A3 rfl (A6 ⟨_,_,rfl,?_⟩))));refine A4 (BN (A4 (A3 rfl (A6 (Tf ?_)))));refine A4 (AT (A4 (A3 rfl (A6 ⟨CG,?_⟩))));refine A4 (AC (A4 (Ah (B7 (A4 (A3 rfl (A6 ⟨CG,?_⟩)))))));refine A4 (A3 rfl (A6 ⟨AL (by simp),rfl,[.bl (!v),.int (if v then 1 else 0),.str (if v then "True" else "False":Str),.tup [.bl v],.non,.lst [.bl v],tO],?_,r0,by simpa using r1,?_,λd' t' hi bo=>⟨d',rfl,a,b,g1++[.lst [.im (.bl v)]],t',by rw[eh];simp,hT,hi,bo⟩⟩))
 .have h2:2<=h.length:=by rw[eh];simp
  refine .cons (Al (.bl (!v))) (.cons (Al (.int (if v then 1 else 0))) (.cons (Al (.str (if v then "True" else "False":Str))) (.cons (Al (.tup [.bl v])) (.cons (Al .non) (.cons ?_ (.one (F4 (by simp) (HF (le_refl _) hO))))))));simp only[Is];exact⟨h.length,_,rfl,h2,by simp,by simp,.one (Al (.bl v))⟩
 .intro t ht;simp only[mem_cons,not_mem_nil,or_false]at ht;rcases ht with rfl|rfl|rfl|rfl|rfl|rfl|rfl
  .exact Oc (by omega)
  .refine Fi ?_ ?_
   .cases v<;>simp
   .have:Nat.log2 (Int.natAbs (if v then 1 else 0))<=1:=by cases v<;>decide
    omega
  .refine EM ?_ ?_
   .cases v<;>decide
   .have:(if v then "True" else "False":Str).length<=5:=by cases v<;>decide
    omega
  .exact(J3 hm bt).1
  .exact Qa (by omega)
  .exact(J3 hm bt).2
  .exact FR hm bO
def Tq{v:Int}{z3 z6:Option D}(hm:10^50<=m)(hm2:m<=10^70){h:Hd}{g1:Hd}(eh:h=a::b::(g++g1))(hT:T 0 a b)(hO:Is h.length h tO dO)(bt:Bo m w dp l (.int v))(bO:Bo (10^50) 200 2 2 tO)(r0:0<=r)(r1:r<7):
 WS (Aa (Bi (AV (A1 (mOp AE (A2 1) (mC (.int 1))) (A1 (mOp B3 (A2 1) (mC (.int 1))) (A1 (mOp B3 (mC (.int 0)) (A2 1)) (A1 (mOp gEq (A2 1) (mC (.int 1))) (A1 (mCB ER (A1 (A2 1) A5)) (A1 (AI (A1 (A2 1) A5)) (A1 (A2 5) A5)))))))) (A2 4)))
  [some (.mu 1),some (.im (.int v)),some (.im (.int k)),z3,some (.im (.int r)),some dO,z6] h λfl x=>∃d',fl=.rt d'/\PB m w dp l g d' x:=by
 have hv:v.natAbs<=m:=by have:=bt.gd;simpa only[Gq]using this
 have hwv:v.natAbs.log2+2<=w:=by have:=bt.wt;simpa only[An.wt]using this
 have hb:v.natAbs<10^71:=lt_of_le_of_lt (le_trans hv hm2) (by decide);have lg:v.natAbs.log2<1920:=by
  by_cases z:v.natAbs=0
  .rw[z];decide
  .exact lt_of_lt_of_le ((log2_lt z).mpr (lt_of_lt_of_le hb (show 10^71<=2^240 by decide))) (by decide)
 refine Af (KW (i:=4) (r:=r) (mw:=m+1) (w:=2*w+400) (dp:=dp+4) (l:=max l 2+1) (B7 ?_));refine A4 (A9 (A3 rfl (AC (BA ?_))));refine A4 (A9 (A3 rfl (AC (CB ?_))));refine A4 (A9 (AC (A3 rfl (CB ?_))));refine A4 (A9 (A3 rfl (AC (EA ?_))));refine A4 (BN (A4 (A3 rfl (A6 (MZ lg ?_)))));refine A4 (AT (A4 (A3 rfl (A6 ⟨CG,?_⟩))));refine A4 (A3 rfl (A6 ⟨AL (by simp),rfl,[.int (v+1),.int (v-1),.int (0-v),.bl (decide (v=1)),.str (Str.ofString (toString v)),.tup [.int v],tO],?_,r0,by simpa using r1,?_,λd' t' hi bo=>⟨d',rfl,a,b,g1,t',eh,hT,hi,bo⟩⟩))
 .exact .cons (Al (.int (v+1))) (.cons (Al (.int (v-1))) (.cons (Al (.int (0-v))) (.cons (Al (.bl (decide (v=1)))) (.cons (Al (.str (Str.ofString (toString v)))) (.cons (Al (.tup [.int v])) (.one hO))))))
 .have lo:=SS v.natAbs;intro t ht;simp only[mem_cons,not_mem_nil,or_false]at ht;rcases ht with rfl|rfl|rfl|rfl|rfl|rfl|rfl
  .refine Fi (by omega) ?_;have:=Ez (show(v+1).natAbs<=v.natAbs+1 by omega);omega
  .refine Fi (by omega) ?_;have:=Ez (show(v-1).natAbs<=v.natAbs+1 by omega);omega
  .refine Fi (by omega) ?_;have:=Ez (show(0-v).natAbs<=v.natAbs by omega);omega
  .exact Oc (by omega)
  .refine EM (NN v) ?_;have:=N1 hb;omega
  .exact(J3 hm bt).1
  .exact FR hm bO
def To{v:Str}{z3 z6:Option D}(hm:10^50<=m)(hw:w<=100000){h:Hd}{g1:Hd}(eh:h=a::b::(g++g1))(hT:T 0 a b)(hO:Is h.length h tO dO)(bt:Bo m w dp l (.str v))(bO:Bo (10^50) 200 2 2 tO)(r0:0<=r)(r1:r<7):
 WS (Aa (Bi (AV (A1 (mOp HP (A2 1) (mC (.str "s"))) (A1 (Hz (A2 1) AJ (AQ (C7 (mC (.int 1))))) (A1 (Hy (A2 1)) (A1 (Di (A2 1) (C7 (mC (.int 1)))) (A1 (AI (A1 (A2 1) A5)) (A1 (mC (.str "steps")) (A1 (A2 5) A5)))))))) (A2 4)))
  [some (.mu 1),some (.im (.str v)),some (.im (.int k)),z3,some (.im (.int r)),some dO,z6] h λfl x=>∃d',fl=.rt d'/\PB m w dp l g d' x:=by
 have hv:Asc v:=by have:=bt.gd;simpa only[Gq]using this
 have hwv:v.length+1<=w:=by have:=bt.wt;simpa only[An.wt]using this
 obtain⟨u1,u2⟩:=Zl hv;have r2:=Mm v;have c2:=Zb v none (some (-1));refine Af (KW (i:=4) (r:=r) (mw:=m+1) (w:=2*w+400) (dp:=dp+4) (l:=max l 2+1) (B7 ?_));refine A4 (A9 (A3 rfl (AC (Th (by
  have:("s":Str).length=1:=by decide
  omega) ?_))))
 refine A4 (Wa (A3 rfl (DS (BU (DU (AC ⟨_,rfl,_,rfl,v,rfl,by omega,?_⟩))))));refine A4 (WZ (A3 rfl ⟨v,rfl,by omega,?_⟩));refine A4 (Tj (A3 rfl (DU (AC ⟨_,rfl,rfl,v,rfl,by omega,?_⟩))));refine A4 (AT (A4 (A3 rfl (A6 ⟨CG,?_⟩))));refine A4 (AC (A4 (A3 rfl (A6 ⟨AL (by simp),rfl,[.str (v++"s"),.str (GH v none (some (-1))),.str (Txt.upper v),.str (GU v),.tup [.str v],.str "steps",tO],?_,r0,by simpa using r1,?_,λd' t' hi bo=>⟨d',rfl,a,b,g1,t',eh,hT,hi,bo⟩⟩))))
 .exact .cons (Al (.str (v++"s"))) (.cons (Al (.str (GH v none (some (-1))))) (.cons (Al (.str (Txt.upper v))) (.cons (Al (.str (GU v))) (.cons (Al (.tup [.str v])) (.cons (Al (.str "steps")) (.one hO))))))
 .intro t ht;simp only[mem_cons,not_mem_nil,or_false]at ht;rcases ht with rfl|rfl|rfl|rfl|rfl|rfl|rfl
  .refine EM (WU hv (by decide)) ?_;rw[Vw];have:("s":Str).length=1:=by decide
   omega
  .exact EM (WR hv _ _) (by omega)
  .exact EM u1 (by omega)
  .exact EM (WQ hv) (by omega)
  .exact(J3 hm bt).1
  .refine EM (by decide) ?_;have:("steps":Str).length=5:=by decide
   omega
  .exact FR hm bO
end
def J4:∀(f k:Nat),k<f->∀{m w dp l:Nat},10^50<=m->m<=10^70->w<=100000->dp<=25->∀{a b:MO} {g:Hd} {t:Tv} {d:D},T 0 a b->Is (a::b::g).length (a::b::g) t d->Bo m w dp l t ->
 WF (Gu f) [.mu 1,d,.im (.int (k:Int))] (a::b::g) (PB m w dp l g)
 |0,k,hk,_,_,_,_,_,_,_,_,_,_,_,_,_,_,_,_=>absurd hk (Nat.not_lt_zero _)
 |f+1,k,hk,m,w,dp,l,hm,hm2,hw,hdp,a,b,g,t,d,hT,hI,bt=>by
  show WF (mkF 3 7 (Pu (Gu f))) _ _ _;refine Br rfl ?_;change WS _ [some (.mu 1),some d,some (.im (.int (k:Int))),none,none,none,none] _ _;refine AB (WP.mono (Q:=λfl x=>(∃d',fl=.rt d'/\PB m w dp l g d' x)∨∃a' b',fl=.nx [some (.mu 1),some d,some (.im (.int (k:Int))),none,none,none,none]/\x=a'::b'::g/\T 0 a' b') ?_ ?_)
  .refine Ag (El (Au (Az (A3 rfl ⟨_,hI.isD .tuple,_,rfl,?_⟩))));by_cases ht:∃ts,t=.tup ts
   .obtain⟨ts,rfl⟩:=ht;rw[if_pos (by simp[ty])];obtain⟨ds,hv,hs⟩:=hI.view;obtain⟨g0,w0,p0,l0⟩:=bt.tup;have hlen:=hs.len;have hwl:=J8 ts;refine El (AZ (A9 (A3 rfl (AT (A6 ⟨Cw,?_⟩)))));rw[Pp];have bp:=bt.dp;refine WX (hI.pyN (by omega)) (Dd 30 (.tup [])) ⟨(bt.gd.ok hm2).lay,by simp[I.py,I.pys,PyData.canLay0,PyData.canLayAll0],le_trans (Nat.min_le_right _ _) (by simp[I.py,I.pys,PyData.depth,PyData.depthAll])⟩ ⟨_,rfl,?_⟩;rw[eqv_nil];cases ts with
    |nil=>
     rw[if_neg (by simp)];exact⟨(λh=>by cases h),λ_=>Ae (.inr ⟨a,b,rfl,rfl,hT⟩)⟩
    |cons t0 tr=>
     rw[if_pos (by simp)];refine El (AZ (A9 (A3 rfl (AC (Gz ⟨_,rfl,?_⟩)))));by_cases hk0:0<k
     .rw[if_pos (by simpa using hk0)];refine AZ (A9 (EZ (A4 (A3 rfl (A4 (AC (A6 ⟨a,b,g,5,rfl,rfl,hT,by decide,by decide,λr a b hT p q=>AC (Gz ⟨_,rfl,λ_=>?_,λ_=>Ae (.inr ⟨a,b,rfl,rfl,hT⟩)⟩)⟩)))))));have hs:Iss (a::b::g).length (a::b::g) (t0::tr) ds:=by have:=keeps (g':=[]) (a':=a) (b':=b) (le_refl _) hs;rw[append_nil]at this;exact this
      refine AB (AX (EZ (A4 (A3 rfl (A4 (BN (A4 (A3 rfl (A6 (C8 (ds:=ds) (by rw[if_pos rfl];exact Ce hv) rfl (A6 ⟨a,b,g,(ds.length:Int),rfl,rfl,hT,by rw[hlen];simp,by omega,λr3 a b hT p q=>A8 ?_⟩)))))))))));have hs:Iss (a::b::g).length (a::b::g) (t0::tr) ds:=by have:=keeps (g':=[]) (a':=a) (b':=b) (le_refl _) hs;rw[append_nil]at this;exact this
      obtain⟨j,rfl⟩:∃j:Nat,r3=(j:Int):=⟨r3.toNat,by omega⟩
      have hj:j<(t0::tr).length:=by omega
      obtain⟨dj,ej,ij⟩:=hs.get (List.getElem?_eq_getElem hj);have mj:(t0::tr)[j]∈(t0::tr):=List.getElem_mem hj;have hwj:wt ((t0::tr)[j])<=wts (t0::tr):=by
       have s1:=DK (t0::tr) j;rw[drop_eq_getElem_cons hj]at s1;simp only[wts]at s1 ⊢;omega
      have bj:Bo m (wt ((t0::tr)[j])) (dp-1) (tl ((t0::tr)[j])) ((t0::tr)[j]):=⟨g0 _ mj,le_refl _,by have:=Ff mj;omega,le_refl _⟩
      refine Af (A9 (A9 (KM (j:=3) rfl hv rfl (AT (A4 (B0 (A4 (A3 rfl (A4 (A9 (A3 rfl (A3 rfl (Aw (ds:=ds) (Ce hv) (C0 rfl ej) (A4 (A9 (A3 rfl (AC (CB ?_))))))))))))))))));rw[show((k:Int)-1)=((k-1:Nat):Int) by omega];refine A6 ((J4 f (k-1) (by omega) hm hm2 (show wt ((t0::tr)[j])<=100000 by omega) (by omega) hT ij bj).mono ?_);rintro d' x ⟨a,b,g',t',rfl,hT,hi,bo⟩;have u:Iss (a::b::(g++g')).length (a::b::(g++g')) (t0::tr) ds:=DX (by simp) (keeps (le_refl _) hs);have tlj:(ds.take j).length<=ds.length:=by rw[length_take];omega
      have dlj:(ds.drop (j+1)).length<=ds.length:=by rw[length_drop];omega
      refine A6 ⟨CG,Bk (AF _) (AF _) (by simp;omega) (LA (c:=1) (j:=3) rfl hv rfl (FM (AF _) (AF _) (by simp) (by simp;omega) (.inl ⟨_,rfl,a,b,g',.tup (((t0::tr).take j++[t'])++(t0::tr).drop (j+1)),rfl,hT,(((u.take j).app (.one hi)).app (u.drop (j+1))).tup,?_⟩)))⟩;have s1:=DK (t0::tr) j;rw[drop_eq_getElem_cons hj]at s1;simp only[wts]at s1;have bw:=bo.wt;have bd:=bo.dp;refine Gs (λu hu=>?_) ?_ ?_ ?_
      .simp only[mem_append,mem_singleton]at hu;rcases hu with(hu|rfl)|hu
       .exact(g0 u (mem_of_mem_take hu)).mono (by omega)
       .exact bo.gd
       .exact(g0 u (mem_of_mem_drop hu)).mono (by omega)
      .rw[CA,CA];simp only[wts]at w0 ⊢;omega
      .have dt:BJ ((t0::tr).take j)<=BJ (t0::tr):=Fd λu hu=>Ff (mem_of_mem_take hu);have dd:BJ ((t0::tr).drop (j+1))<=BJ (t0::tr):=Fd λu hu=>Ff (mem_of_mem_drop hu);rw[GG,GG];simp only[BJ]at dt dd p0 ⊢;omega
      .simp at l0 ⊢;omega
     .rw[if_neg (by simpa using hk0)];exact⟨(λh=>by cases h),λ_=>Ae (.inr ⟨a,b,rfl,rfl,hT⟩)⟩
   .rw[if_neg (by cases t<;>simp[ty]at ht ⊢)];exact⟨(λh=>by cases h),λ_=>Ae (.inr ⟨a,b,rfl,rfl,hT⟩)⟩
  .rintro fl x (⟨d',rfl,h⟩|⟨a,b,rfl,rfl,hT⟩)
   .exact h
   refine A8 ?_;have hI:Is (a::b::g).length (a::b::g) t d:=by have:=keep (g':=[]) (a':=a) (b':=b) (le_refl _) hI;rw[append_nil]at this;exact this
   refine AB (AX (EZ (A4 (A3 rfl (A4 (AC (A6 ⟨a,b,g,7,rfl,rfl,hT,by decide,by decide,λr a b hT r0 r1=>A8 ?_⟩)))))));refine AB (AX (B0 (A4 (A3 rfl (A6 ((Jl hT).mono ?_))))));rintro dO x ⟨a,b,g1,tO,rfl,hT,hO,bO⟩;refine A8 ?_;have hI:Is (a::b::(g++g1)).length (a::b::(g++g1)) t d:=F4 (by simp) (keep (le_refl _) hI);change WS _ [some (.mu 1),some d,some (.im (.int (k:Int))),none,some (.im (.int r)),some dO,none] _ _;have fin:∀(fl:Fl) (x:Hd),(∃d',fl=.rt d'/\PB m w dp l g d' x)->(match fl with|.rt d=>PB m w dp l g d x|.nx _=>PB m w dp l g (.im .non) x|_=>False):=by
    rintro fl x ⟨d',rfl,h⟩;exact h
   cases t with
   |tup ts=>
    refine AB (Ag (Au (Az (A3 rfl ⟨true,hI.isD .tuple,_,rfl,λ_=>?_,λh=>by cases h⟩))));exact WP.mono (Tn hm hw rfl hT hI hO bt bO r0 r1) (by rintro fl x ⟨d',rfl,h⟩;exact h)
   |bl v=>
    have hI2:=hI;simp only[Is]at hI;subst hI;refine AB (Ag (Au (Az (A3 rfl ⟨false,hI2.isD .tuple,_,rfl,(λh=>by cases h),λ_=>Ae (A8 ?_)⟩))));refine AB (Ag (Au (Az (A3 rfl ⟨true,hI2.isD .bool,_,rfl,λ_=>?_,λh=>by cases h⟩))));exact WP.mono (Wc hm rfl hT hO bt bO r0 r1) (by rintro fl x ⟨d',rfl,h⟩;exact h)
   |int v=>
    have hI2:=hI;simp only[Is]at hI;subst hI;refine AB (Ag (Au (Az (A3 rfl ⟨false,hI2.isD .tuple,_,rfl,(λh=>by cases h),λ_=>Ae (A8 ?_)⟩))));refine AB (Ag (Au (Az (A3 rfl ⟨false,hI2.isD .bool,_,rfl,(λh=>by cases h),λ_=>Ae (A8 ?_)⟩))));refine AB (Ag (Au (Az (A3 rfl ⟨true,hI2.isD .int,_,rfl,λ_=>?_,λh=>by cases h⟩))));exact WP.mono (Tq hm hm2 rfl hT hO bt bO r0 r1) (by rintro fl x ⟨d',rfl,h⟩;exact h)
   |str v=>
    have hI2:=hI;simp only[Is]at hI;subst hI;refine AB (Ag (Au (Az (A3 rfl ⟨false,hI2.isD .tuple,_,rfl,(λh=>by cases h),λ_=>Ae (A8 ?_)⟩))));refine AB (Ag (Au (Az (A3 rfl ⟨false,hI2.isD .bool,_,rfl,(λh=>by cases h),λ_=>Ae (A8 ?_)⟩))));refine AB (Ag (Au (Az (A3 rfl ⟨false,hI2.isD .int,_,rfl,(λh=>by cases h),λ_=>Ae (A8 ?_)⟩))));refine AB (Ag (Au (Az (A3 rfl ⟨true,hI2.isD .str,_,rfl,λ_=>?_,λh=>by cases h⟩))));exact WP.mono (To hm hw rfl hT hO bt bO r0 r1) (by rintro fl x ⟨d',rfl,h⟩;exact h)
   |non=>
    refine AB (Ag (Au (Az (A3 rfl ⟨false,hI.isD .tuple,_,rfl,(λh=>by cases h),λ_=>Ae (A8 ?_)⟩))));refine AB (Ag (Au (Az (A3 rfl ⟨false,hI.isD .bool,_,rfl,(λh=>by cases h),λ_=>Ae (A8 ?_)⟩))));refine AB (Ag (Au (Az (A3 rfl ⟨false,hI.isD .int,_,rfl,(λh=>by cases h),λ_=>Ae (A8 ?_)⟩))));refine AB (Ag (Au (Az (A3 rfl ⟨false,hI.isD .str,_,rfl,(λh=>by cases h),λ_=>Ae (A8 ?_)⟩))));exact Af (A3 rfl ⟨a,b,g1,tO,rfl,hT,hO,FR hm bO⟩)
   |lst ts=>
    refine AB (Ag (Au (Az (A3 rfl ⟨false,hI.isD .tuple,_,rfl,(λh=>by cases h),λ_=>Ae (A8 ?_)⟩))));refine AB (Ag (Au (Az (A3 rfl ⟨false,hI.isD .bool,_,rfl,(λh=>by cases h),λ_=>Ae (A8 ?_)⟩))));refine AB (Ag (Au (Az (A3 rfl ⟨false,hI.isD .int,_,rfl,(λh=>by cases h),λ_=>Ae (A8 ?_)⟩))));refine AB (Ag (Au (Az (A3 rfl ⟨false,hI.isD .str,_,rfl,(λh=>by cases h),λ_=>Ae (A8 ?_)⟩))));exact Af (A3 rfl ⟨a,b,g1,tO,rfl,hT,hO,FR hm bO⟩)
def lf(left:List Int)(k:Nat):Int:=left[k]?.getD 0
def KU{left:List Int}{k:Nat}(hk:k<left.length):atI (AS left) (k:Int)=some (.im (.int (lf left k))):=C0 rfl (by simp[AS,lf,hk])
def fi(W:List (Int×Int))(k:Nat):List Int:=W.filterMap λp=>if p.2=(k:Int)then some p.1 else none
def Fy(W:List (Int×Int))(left:List Int)(k:Nat):Bool:=decide (0<lf left k)&&decide (((fi W k).filter λa=>decide (0<lf left a.toNat))=[])
def fi_mem{W:List (Int×Int)}{k:Nat}{a:Int}:a∈fi W k↔(a,(k:Int))∈W:=by
 unfold fi;rw[mem_filterMap];constructor
 .rintro⟨p,hp,e⟩;split at e
  .next c=>cases e;rw[<- c];exact hp
  .cases e
 .intro h;exact⟨_,h,if_pos rfl⟩
def may_iff{W:List (Int×Int)}{left:List Int}{k:Nat}:Fy W left k=true↔0<lf left k/\∀a:Int,(a,(k:Int))∈W->lf left a.toNat<=0:=by
 unfold Fy;rw[Bool.and_eq_true,decide_eq_true_eq,decide_eq_true_eq,filter_eq_nil_iff];refine and_congr_right λ_=>⟨λh a ha=>?_,λh a ha=>?_⟩
 .have:=h a (fi_mem.mpr ha);simp at this;omega
 .have:=h a (fi_mem.mp ha);simp;omega
def TR(p:Int->Prop)[DecidablePred p](L:List Int):(L.filterMap λa=>if p a then some (D.im (.int a))else none)=AS (L.filter λa=>decide (p a)):=by
 induction L with
 |nil=>rfl
 |cons x r ih=>
  rw[filterMap_cons,filter_cons];by_cases h:p x
  .simp[h,ih,AS]
  .simp[h,ih,AS]
def aT{ws:List Wk}{W:List (Int×Int)}{left:List Int}{k:Nat}{hd:Hd}(hW:Wsh left.length W)(hk:k<left.length)(e:hd[2]?=some (.lst (AS left))):
 WF Kc [.im (AY ws),.im (wI W),.mu 2,.im (.int (k:Int))] hd λd x=>d=.im (.bl (Fy W left k))/\∃g,x=hd++g:=by
 have hl:=hW.len;unfold Kc;refine Br rfl ?_;refine AB (AX (Ah (BK (CI (A3 rfl ⟨_,rfl,?_⟩)))));rw[Rw.pairs_im];refine⟨AL (by simp;omega),?_⟩;refine C3 (λp:Int×Int=>Ax p) (λp=>if p.2=(k:Int)then some (.im (.int p.1))else none) (λ_ ls=>∃x1 x2,ls=[some x1,some x2,some (.im (.int (k:Int)))]) _ (AU _) ?_ ?_
 .rintro p hp ls hls;refine⟨[some (.im (.int p.1)),some (.im (.int p.2)),some (.im (.int (k:Int)))],by rcases hls with rfl|⟨_,x,y,rfl⟩<;>rfl,⟨_,_,rfl⟩,AZ (A9 (A3 rfl (A3 rfl (EA ⟨_,rfl,rfl,?_⟩))))⟩;by_cases h:p.2=(k:Int)
  .rw[if_pos (by simpa using h)];exact⟨_,if_pos h,A3 rfl ⟨rfl,rfl⟩⟩
  .rw[if_neg (by simpa using h)];exact if_neg h
 have e1:(W.filterMap λp=>if p.2=(k:Int)then some (D.im (.int p.1))else none)=AS (fi W k):=by
  unfold fi AS;rw[List.map_filterMap]
  congr 1
  funext p
  split<;>rfl
 rw[e1];refine A8 ?_;change WS _ [some (.im (AY ws)),some (.im (wI W)),some (.mu 2),some (.im (.int (k:Int))),some (.mu hd.length)] (hd++[.lst (AS (fi W k))]) _;have h2:2<hd.length:=(List.getElem?_eq_some_iff.mp e).1;obtain⟨H,hH⟩:∃H,H=hd++[MO.lst (AS (fi W k))]:=⟨_,rfl⟩
 rw[<- hH];have e2:H[2]?=some (.lst (AS left)):=by rw[hH,List.getElem?_append_left h2];exact e
 have e3:H[hd.length]?=some (.lst (AS (fi W k))):=by rw[hH,List.getElem?_append_right (le_refl _),Nat.sub_self];rfl
 have fl:(fi W k).length<=16:=le_trans (List.length_filterMap_le _ _) hl;refine Af (DM (AZ (A9 (A9 (A3 rfl (A3 rfl (Aw (ds:=AS left) (by simp[B9,e2]) (KU hk) (AC (Gz ⟨_,rfl,?_⟩)))))))));by_cases c:0<lf left k
 .rw[if_pos (by simpa using c)];refine Kl (BK (JA (A3 rfl ⟨hd.length,AS (fi W k),rfl,e3,AL (by simp[AS];omega),?_⟩)));refine C3 (λa:Int=>D.im (.int a)) (λa=>if 0<lf left a.toNat then some (.im (.int a))else none) (λ_ ls=>∃x,ls=[some x,some (.mu 2)]) _ (by intro q hq;rw[mem_singleton]at hq;subst hq;exact e3) ?_ ?_
  .rintro a ha ls hls;obtain⟨a,b,ep,h1,_⟩:=hW.nats _ (fi_mem.mp ha);obtain⟨rfl,_⟩:=Prod.mk.inj ep;refine⟨[some (.im (.int (a:Int))),some (.mu 2)],by rcases hls with rfl|⟨_,x,rfl⟩<;>rfl,⟨_,rfl⟩,AZ (A9 (A9 (A3 rfl (A3 rfl (Aw (ds:=AS left) (by simp[B9,e2]) (KU h1) (AC (Gz ⟨_,rfl,rfl,?_⟩)))))))⟩;by_cases h:0<lf left a
   .rw[if_pos (by simpa using h)];exact⟨_,if_pos (by simpa using h),A3 rfl ⟨rfl,rfl⟩⟩
   .rw[if_neg (by simpa using h)];exact if_neg (by simpa using h)
  .rw[TR λa=>0<lf left a.toNat];refine⟨_,rfl,?_,_,hH⟩;simp[Fy,c]
 .rw[if_neg (by simpa using c)];exact⟨by simp[Fy,c],_,hH⟩
abbrev pcD(P:List Pl.Pc):List D:=P.map λp=>.im (AD p)
def FT(P:List Pl.Pc):AK (pcD P)=.im (.tup (P.map AD)):=by
 have:pcD P=(P.map AD).map D.im:=by simp[pcD]
 rw[this,DG]
def HA{ws:List Wk}{k:Nat}(hk:k<ws.length):atI ((ws.map Aj).map D.im) (k:Int)=some (.im (Aj ws[k])):=C0 rfl (by simp[hk])
def ln(ws:List Wk)(k:Nat):Int:=((ws[k]?).map Wk.len).getD 0
def TQ{ws:List Wk}{k:Nat}(hk:k<ws.length):(ws[k]).len=ln ws k:=by simp[ln,hk]
structure Ew(ws:List Wk):Prop where
 n1:1<=ws.length
 n8:ws.length<=8
 ok:∀w∈ws,w.ok
def cm(ws:List Wk)(k:Nat):Int:=((ws[k]?).map Wk.com).getD 0
def HV{ws:List Wk}{k:Nat}(hk:k<ws.length):(ws[k]).com=cm ws k:=by simp[cm,hk]
section
variable{ws:List Wk}{W:List (Int×Int)}
def Ew.c0(E:Ew ws){k:Nat}(hk:k<ws.length):0<=cm ws k:=by
 rw[<- HV hk];exact(E.ok _ (List.getElem_mem hk)).c1
def Ew.l1(E:Ew ws){k:Nat}(hk:k<ws.length):1<=ln ws k:=by
 rw[<- TQ hk];exact(E.ok _ (List.getElem_mem hk)).l1
def Ew.l2(E:Ew ws){k:Nat}(hk:k<ws.length):ln ws k<=20:=by
 rw[<- TQ hk];exact(E.ok _ (List.getElem_mem hk)).l2
def FY{left:List Int}{k j:Nat}{v:Int}(hk:k<left.length):lf (left.set k v) j=if j=k then v else lf left j:=by
 unfold lf;rw[List.getElem?_set];by_cases h:k=j
 .subst h;simp[hk]
 .have:¬ j=k:=λz=>h z.symm;simp[h,this]
def Ei(q:Pl.Pc)(j:Nat):∀P:List Pl.Pc,Pl.dn (P++[q]) j=Pl.dn P j+(if q.1=j then q.2.2-q.2.1 else 0)
 |[]=>by simp[Pl.dn]
 |p::r=>by rw[cons_append,Pl.dn,Pl.dn,Ei q j r];omega
def cnt(n:Nat)(left:List Int):Int:=((List.range n).map λk=>if 0<lf left k then(1:Int)else 0).sum
def Db{f g:Nat->Int}:∀{S:List Nat},(∀j∈S,f j<=g j)->(S.map f).sum<=(S.map g).sum
 |[],_=>by simp
 |x::r,h=>by
  have:=Db (S:=r) λj hj=>h j (mem_cons_of_mem _ hj);have:=h x mem_cons_self;simp only[map_cons,sum_cons];omega
def JF{n k:Nat}(hk:k<n):((List.range n).map λj=>if k=j then(1:Int)else 0).sum=1:=by
 rw[Pl.sum_ite k 1 List.nodup_range,if_pos (by simpa using hk)]
def NH{n:Nat}{left:List Int}{k:Nat}(hk:k<n)(h:0<lf left k):1<=cnt n left:=by
 rw[<- JF hk];refine Db λj _=>?_;by_cases e:k=j
 .subst e;simp[h]
 .rw[if_neg e];split<;>omega
def Zd{n:Nat}(left:List Int):cnt n left<=n:=by
 have:=Db (f:=λk=>if 0<lf left k then(1:Int)else 0) (g:=λ_=>1) (S:=List.range n) λj _=>by split<;>omega
 have e:((List.range n).map λ_=>(1:Int)).sum=n:=by
  rw[List.map_const',length_range]
  induction n with
  |zero=>rfl
  |succ m ih=>simp[List.replicate_succ];omega
 rw[e]at this;exact this
def Sk{n:Nat}{left:List Int}{k:Nat}{v:Int}(hk:k<left.length)(h:v<=lf left k):cnt n (left.set k v)<=cnt n left:=by
 refine Db λj _=>?_;rw[FY hk];by_cases e:j=k
 .subst e;rw[if_pos rfl];split<;>split<;>omega
 .rw[if_neg e];exact Int.le_refl _
def WK{n:Nat}{left:List Int}{k:Nat}(hn:k<n)(hk:k<left.length)(h:0<lf left k):cnt n (left.set k 0)+1<=cnt n left:=by
 rw[<- JF hn];unfold cnt;rw[<- Pl.sum_add];refine Db λj _=>?_;rw[FY hk];by_cases e:j=k
 .subst e;simp[h]
 .have:¬ k=j:=λz=>e z.symm;rw[if_neg e,if_neg this];omega
structure Pst(ws:List Wk)(W:List (Int×Int))(left:List Int)(P:List Pl.Pc)(now:Int):Prop where
 ll:left.length=ws.length
 lv:∀k,k<ws.length->lf left k=ln ws k-Pl.dn P k
 l0:∀k,k<ws.length->0<=lf left k
 ok:Pl.Ok ws.length 0 P
 n0:0<=now
 le:∀p∈P,p.2.2<=now
 wi:∀a b:Nat,((a:Int),(b:Int))∈W->∀p∈P,p.1=b->lf left a=0/\∀q∈P,q.1=a->q.2.2<=p.2.1
 cc:∀p∈P,cm ws p.1<=p.2.1
def Pst.later{left:List Int}{P:List Pl.Pc}{now now':Int}(S:Pst ws W left P now)(h:now<=now'):Pst ws W left P now':=
 ⟨S.ll,S.lv,S.l0,S.ok,Int.le_trans S.n0 h,λp hp=>Int.le_trans (S.le p hp) h,S.wi,S.cc⟩
def Pst.step{left:List Int}{P:List Pl.Pc}{now:Int}(S:Pst ws W left P now)(hW:Wsh ws.length W){k:Nat}{Ab:Int}(hk:k<ws.length)(h1:1<=Ab)(h2:Ab<=lf left k)(hm:∀a:Int,(a,(k:Int))∈W->lf left a.toNat<=0)(hc:cm ws k<=now):
 Pst ws W (left.set k (lf left k-Ab)) (P++[(k,now,now+Ab)]) (now+Ab):=by
 have hl:k<left.length:=by rw[S.ll];exact hk
 refine⟨by rw[List.length_set];exact S.ll,λj hj=>?_,λj hj=>?_,⟨?_,λp hp=>?_⟩,by have:=S.n0;omega,λp hp=>?_,λa b hab p hp e=>?_,λp hp=>?_⟩
 .rw[FY hl,Ei];have:=S.lv j hj;by_cases q:j=k
  .subst q;simp only[if_true];omega
  .have q2:¬ k=j:=λz=>q z.symm;simp only[q,q2,if_false];omega
 .rw[FY hl];split
  .omega
  .exact S.l0 j hj
 .rw[List.pairwise_append];refine⟨S.ok.ch,by simp,λp hp q hq=>?_⟩;rw[mem_singleton]at hq;subst hq;exact S.le p hp
 .rcases mem_append.mp hp with h|h
  .exact S.ok.ea p h
  .rw[mem_singleton]at h;subst h;exact⟨hk,S.n0,by show now<now+Ab;omega⟩
 .rcases mem_append.mp hp with h|h
  .have:=S.le p h;omega
  .rw[mem_singleton]at h;subst h;exact Int.le_refl _
 .obtain⟨a',b',ep,ha,hb⟩:=hW.nats _ hab;have ak:lf left a=0->a≠k:=λz q=>by rw[q]at z;omega
  rcases mem_append.mp hp with h|h
  .obtain⟨z1,z2⟩:=S.wi a b hab p h e;have hne:=ak z1;refine⟨by rw[FY hl,if_neg hne];exact z1,λq hq eq=>?_⟩;rcases mem_append.mp hq with g|g
   .exact z2 q g eq
   .rw[mem_singleton]at g;subst g;exact absurd eq.symm hne
  .rw[mem_singleton]at h;subst h;have e:k=b:=e;subst e;have z0:=hm (a:Int) hab;rw[toNat_natCast]at z0;have haw:a<ws.length:=by
    have:=(Prod.mk.inj ep).1;omega
   have z1:lf left a=0:=Int.le_antisymm z0 (S.l0 a haw);have hne:=ak z1;refine⟨by rw[FY hl,if_neg hne];exact z1,λq hq eq=>?_⟩;rcases mem_append.mp hq with g|g
   .exact S.le q g
   .rw[mem_singleton]at g;subst g;exact absurd eq.symm hne
 .rcases mem_append.mp hp with h|h
  .exact S.cc p h
  .rw[mem_singleton]at h;subst h;exact hc
def Lc:∀{seq L:List Nat},(∀x∈L,x∈seq)->L≠[]->∃(x j:Nat),x∈L/\seq[j]?=some x/\∀(y i:Nat),y∈L->seq[i]?=some y->j<=i
 |[],L,hs,hne=>by
  obtain⟨x,hx⟩:=List.exists_mem_of_ne_nil L hne;simpa using hs x hx
 |s::r,L,hs,hne=>by
  by_cases h:s∈L
  .exact⟨s,0,h,rfl,λy i _ _=>by omega⟩
  .have hs':∀x∈L,x∈r:=λx hx=>by
    rcases mem_cons.mp (hs x hx)with rfl|q
    .exact absurd hx h
    .exact q
   obtain⟨x,j,hx,e,m⟩:=Lc hs' hne;refine⟨x,j+1,hx,by simpa using e,λy i hy he=>?_⟩;cases i with
   |zero=>simp at he;subst he;exact absurd hy h
   |succ i=>have:=m y i hy (by simpa using he);omega
def RV{n:Nat}(hW:Wsh n W){left:List Int}{k:Nat}(hk:k<n)(h:0<lf left k):∃x,x<n/\Fy W left x=true:=by
 obtain⟨seq,pm,al⟩:=hW.al;have nd:seq.Nodup:=pm.nodup_iff.mpr List.nodup_range;obtain⟨x,j,hx,ex,mx⟩:=Lc (seq:=seq) (L:=(List.range n).filter λk=>decide (0<lf left k)) (λx hx=>pm.mem_iff.mpr (mem_filter.mp hx).1) (List.ne_nil_of_mem (mem_filter.mpr ⟨by simpa using hk,by simpa using h⟩));obtain⟨h1,h2⟩:=mem_filter.mp hx;refine⟨x,by simpa using h1,may_iff.mpr ⟨by simpa using h2,λa ha=>?_⟩⟩;obtain⟨i',j',a',b',hij,ea,eb,e⟩:=al _ ha;obtain⟨e1,e2⟩:=Prod.mk.inj e;have e2:x=b':=by omega
 subst e2 e1;rw[toNat_natCast];refine Classical.byContradiction λq=>?_;have g:=mx a' i' (mem_filter.mpr ⟨by simpa using pm.mem_iff.mp (mem_of_getElem? ea),by simp;omega⟩) ea;have l1:=(List.getElem?_eq_some_iff.mp ex).1;have:j=j':=(List.getElem?_inj l1 nd).mp (by rw[ex,eb]);omega
def Wm{n:Nat}(hW:Wsh n W){left:List Int}(h:((List.range n).filter (Fy W left))=[]):cnt n left<=0:=by
 have e:(List.range n).map (λk=>if 0<lf left k then(1:Int)else 0)=(List.range n).map λ_=>0:=by
  refine List.map_congr_left λk hk=>?_;refine if_neg λq=>?_;obtain⟨x,hx,hm⟩:=RV hW (by simpa using hk) q;exact filter_eq_nil_iff.mp h x (by simpa using hx) hm
 unfold cnt;rw[e];have:∀S:List Nat,(S.map λ_=>(0:Int)).sum=0:=λS=>by induction S<;>simp_all
 rw[this];exact Int.le_refl _
end
def Vy{ns:List Int}(h:ns≠[]):JR (AS ns)=some (.im (.int (Fx ns))):=by unfold JR;rw[show BZ (AS ns)=some ns from Q2 ns];simp[h]
def W4(ks:List Nat)(g:Nat->Int):(ks.filterMap λk=>some (D.im (.int (g k))))=AS (ks.map g):=by simp[AS]
abbrev Ga(n:Nat)(W:List (Int×Int))(left:List Int)(j:Nat):List Nat:=(List.range j).filter (Fy W left)
inductive I_so(ws:List Wk)(W:List (Int×Int))(left:List Int)(H:Hd)(now gaps:Int)(r:List D)(ls:Ls)(hd:Hd):Prop
 |mk (j:Nat) (z7 z9 z10 z11:Option D) (h0:r=Ai (j:Int) (ws.length-j)) (h1:j<=ws.length) (h2:ls=[some (.mu 1),some (.im (AY ws)),some (.im (wI W)),some (.mu 2),some (.mu 3),some (.im (.int now)),some (.im (.int gaps)),z7,some (.mu 4),z9,z10,z11]) (h3:hd=H++[.lst (Av (Ga ws.length W left j))]):I_so ws W left H now gaps r ls hd
def jl(ws:List Wk)(now:Int):Int:=((List.range ws.length).map λk=>if now<cm ws k then(1:Int)else 0).sum
def mu(ws:List Wk)(left:List Int)(P:List Pl.Pc)(now:Int):Int:=(if P.length<30 then 30-(P.length:Int)else 0)+cnt ws.length left+jl ws now
inductive I_pl(ws:List Wk)(W:List (Int×Int))(r:List D)(ls:Ls)(hd:Hd):Prop
 |mk (left:List Int) (P:List Pl.Pc) (now gaps:Int) (a b:MO) (z7 z8 z9 z10 z11:Option D)
  (h1:ls=[some (.mu 1),some (.im (AY ws)),some (.im (wI W)),some (.mu 2),some (.mu 3),some (.im (.int now)),some (.im (.int gaps)),z7,z8,z9,z10,z11]) (h2:hd=[a,b,.lst (AS left),.lst (pcD P)]) (h3:T 0 a b) (h4:Pst ws W left P now)
  (h5:cnt ws.length left<=0∨mu ws left P now<=r.length) (h6:P.length+r.length<=60) (h7:now+30*(r.length:Int)<=1860):I_pl ws W r ls hd
section
variable{ws:List Wk}{W:List (Int×Int)}
def RQ(E:Ew ws):Pst ws W (ws.map Wk.len) [] 0:=by
 refine⟨by simp,λk hk=>?_,λk hk=>?_,⟨.nil,(by intro p hp;cases hp)⟩,Int.le_refl _,(by intro p hp;cases hp),(by intro a b _ p hp;cases hp),(by intro p hp;cases hp)⟩
 .simp[lf,ln,Pl.dn]
 .have:=E.l1 hk;have e:lf (ws.map Wk.len) k=ln ws k:=by simp[lf,ln]
  omega
def IY{n j:Nat}{d:D}{r:List D}(h:d::r=Ai (j:Int) (n-j)):j<n/\d=.im (.int (j:Int))/\r=Ai ((j+1:Nat):Int) (n-(j+1)):=by
 cases q:n-j with
 |zero=>rw[q]at h;cases h
 |succ m=>
  rw[q,Ai]at h;obtain⟨h1,h2⟩:=List.cons.inj h;have em:m=n-(j+1):=by omega
  exact⟨by omega,h1,by rw[h2,em];rfl⟩
def PL{n j:Nat}(h:([]:List D)=Ai (j:Int) (n-j))(hj:j<=n):j=n:=by
 cases q:n-j with
 |zero=>omega
 |succ m=>rw[q,Ai]at h;cases h
def LU(left:List Int)(k:Nat)(v:Int):(AS left).set k (.im (.int v))=AS (left.set k v):=by simp[AS,List.map_set]
def aa(now:Int):jl ws now<=ws.length:=by
 have:=Db (f:=λk=>if now<cm ws k then(1:Int)else 0) (g:=λ_=>1) (S:=List.range ws.length) λj _=>by split<;>omega
 have e:∀n:Nat,((List.range n).map λ_=>(1:Int)).sum=n:=λn=>by
  rw[List.map_const',length_range]
  induction n with
  |zero=>rfl
  |succ m ih=>simp[List.replicate_succ];omega
 rw[e]at this;exact this
def ac(now:Int):0<=jl ws now:=by
 have:=Db (f:=λ_=>0) (g:=λk=>if now<cm ws k then(1:Int)else 0) (S:=List.range ws.length) λj _=>by split<;>omega
 have e:∀S:List Nat,(S.map λ_=>(0:Int)).sum=0:=λS=>by induction S<;>simp_all
 rw[e]at this;exact this
def W0{now now':Int}(h:now<=now'):jl ws now'<=jl ws now:=by
 refine Db λj _=>?_;split<;>split<;>omega
def Z9{now:Int}{k:Nat}(hk:k<ws.length)(h:now<cm ws k):jl ws (cm ws k)+1<=jl ws now:=by
 rw[<- JF hk];unfold jl;rw[<- Pl.sum_add];refine Db λj _=>?_;by_cases e:k=j
 .subst e;simp[h]
 .rw[if_neg e];split<;>split<;>omega
def Vm{left:List Int}{P:List Pl.Pc}{q:Pl.Pc}{now now' Ab:Int}{k:Nat}(hn:k<ws.length)(hl:k<left.length)(hnow:now<=now')(d1:1<=Ab)(d2:Ab<=lf left k)(d3:P.length<30∨Ab=lf left k):mu ws (left.set k (lf left k-Ab)) (P++[q]) now'+1<=mu ws left P now:=by
 unfold mu;rw[length_append,length_singleton];have hj:=W0 (ws:=ws) hnow;rcases d3 with h|h
 .have:=Sk (n:=ws.length) (v:=lf left k-Ab) hl (by omega);rw[if_pos h];split<;>omega
 .rw[h,Int.sub_self];have:=WK hn hl (by omega);split<;>split<;>omega
def ao{n:Nat}{left:List Int}(h:cnt n left<=0){k:Nat}(hk:k<n):lf left k<=0:=by
 refine Classical.byContradiction λq=>?_;have:=NH hk (show 0<lf left k by omega);omega
def W7{left:List Int}{P:List Pl.Pc}{now:Int}(E:Ew ws)(S:Pst ws W left P now)(h:cnt ws.length left<=0):Pl.Full ws.length 0 (ln ws) P/\∀a b:Nat,a<ws.length->((a:Int),(b:Int))∈W->∀p∈P,p.1=b->Pl.E P a<=p.2.1:=by
 have F:Pl.Full ws.length 0 (ln ws) P:=⟨S.ok,λk hk=>E.l1 hk,λk hk=>by
  have h1:=S.lv k hk;have h2:=S.l0 k hk;have h3:=ao h hk;omega⟩
 refine⟨F,λa b ha hab p hp e=>?_⟩;obtain⟨q,q1,q2,q3⟩:=Pl.last_in (v:=0) (F.has ha);have:=(S.wi a b hab p hp e).2 q q1 q2;simp only[Pl.E];omega
set_option maxHeartbeats 2000000 in
def YR(E:Ew ws)(hW:Wsh ws.length W):∀a b,T 0 a b->WF J7 [.mu 1,.im (AY ws),.im (wI W)] [a,b] λd x=>∃i a' b' g,d=.im i/\(∃P:List Pl.Pc,i=.tup (P.map AD)/\P.length<=60/\(∀p∈P,p.2.2<=1860)/\(∀p∈P,cm ws p.1<=p.2.1)/\Pl.Full ws.length 0 (ln ws) P/\∀a b:Nat,((a:Int),(b:Int))∈W->∀p∈P,p.1=b->Pl.E P a<=p.2.1)/\T 0 a' b'/\x=a'::b'::g:=by
 intro a b hT;have n8:=E.n8;unfold J7;refine Br rfl ?_;refine AB (AX (Ah (BK (CI (A3 rfl ⟨_,rfl,AL (by simp;omega),?_⟩)))));rw[show(ws.map Aj).map D.im=ws.map λw=>D.im (Aj w) by simp];refine C3 (λw=>D.im (Aj w)) (λw:Wk=>some (.im (.int w.len))) (λ_ ls=>∃x,ls=[some x]) _ (AU _) ?_ ?_
 .rintro w hw ls hls;refine⟨[some (.im (Aj w))],by rcases hls with rfl|⟨_,x,rfl⟩<;>rfl,⟨_,rfl⟩,CP ⟨rfl,?_⟩⟩;rw[if_pos rfl];exact⟨_,rfl,A9 (A3 rfl (AC (Aw rfl (M8 _ _) ⟨rfl,rfl⟩)))⟩
 have e0:(ws.filterMap λw=>some (D.im (.int w.len)))=AS (ws.map Wk.len):=by simp[AS]
 rw[e0];refine A8 (AB (AX (Ah (B7 (A6 ⟨AL (by simp),A8 ?_⟩)))));refine AB (IH (AT (A4 (AC (A4 (AC (A6 ⟨EI,_,rfl,A8 ?_⟩)))))));change WS _ [some (.mu 1),some (.im (AY ws)),some (.im (wI W)),some (.mu 2),some (.mu 3),some (.im (.int 0)),some (.im (.int 4)),none,none,none,none,none] [a,b,.lst (AS (ws.map Wk.len)),.lst (pcD [])] _;refine AB (Cr (Qk (A4 (AC (A6 ⟨_,rfl,Dt (by decide) (by decide),?_⟩)))));refine CQ (I_pl ws W) ⟨ws.map Wk.len,[],0,4,a,b,none,none,none,none,none,rfl,rfl,hT,RQ E,?_,by simp,by simp⟩ ?_ ?_
 .right
  have:=Zd (n:=ws.length) (ws.map Wk.len);have:=aa (ws:=ws) 0;have lr:((Ai 0 (Int.toNat 60)).length:Int)=60:=by simp
  rw[lr];unfold mu;split<;>simp at *<;>omega
 .rintro t r ls hd ⟨left,P,now,gaps,a,b,z7,z8,z9,z10,z11,rfl,rfl,hT,S,hmu,hlen,hnow⟩;refine⟨_,rfl,?_⟩;dsimp only[set_cons_zero,set_cons_succ];simp only[length_cons]at hmu hlen hnow;refine Kg ?_;refine AB (AX (Ah (B7 (A6 ⟨AL (by simp),A8 ?_⟩))));have ca:=tap.cl hT;have ll:=S.ll;have hWl:Wsh left.length W:=by rw[ll];exact hW
  refine AB (Cr (Qk (A4 (BN (A4 (A3 rfl (A6 (C8 rfl rfl ?_))))))));have eln:(((ws.map Aj).map D.im).length:Int)=(ws.length:Int):=by simp
  rw[eln];refine A6 ⟨_,rfl,Dt (by omega) (by omega),?_⟩;rw[toNat_natCast];change WL _ _ _ _ [some (.mu 1),some (.im (AY ws)),some (.im (wI W)),some (.mu 2),some (.mu 3),some (.im (.int now)),some (.im (.int gaps)),some t,some (.mu 4),z9,z10,z11] [a,b,.lst (AS left),.lst (pcD P),.lst []] _;refine CQ (I_so ws W left [a,b,.lst (AS left),.lst (pcD P)] now gaps) ⟨0,some t,z9,z10,z11,rfl,by omega,rfl,rfl⟩ ?_ ?_
  .rintro d r' ls hd ⟨j,z7,z9,z10,z11,er,hj,rfl,rfl⟩;obtain⟨hjn,rfl,rfl⟩:=IY er;refine⟨_,rfl,?_⟩;dsimp only[set_cons_zero,set_cons_succ,cons_append,nil_append];refine Kg (Ag (Au (B0 (A4 (A3 rfl (A4 (A3 rfl (A4 (A3 rfl (A4 (A3 rfl (A6 ((aT (ws:=ws) hWl (by omega:j<left.length) rfl).mono ?_)))))))))))));rintro d x ⟨rfl,g,rfl⟩;have fl:(Ga ws.length W left j).length<=j:=le_trans (List.length_filter_le _ _) (by simp);have c5a:=DI (w:=5) (by omega) ca.1;have c5b:=DI (w:=5) (by omega) ca.2;refine⟨_,rfl,λhm=>?_,λhm=>Ae ?_⟩
   .refine Gx (KJ (A3 rfl ⟨⟨_,rfl⟩,A4 (A3 rfl (A6 (IJ rfl (Bp (by simp;omega)) ?_)))⟩));refine⟨?_,_,rfl,AU _,j+1,_,_,_,_,rfl,by omega,rfl,?_⟩
    .simp[c5a,c5b,HW,Go,CH,NJ,AS]
    .simp[Ga,List.range_succ,hm]
   .refine⟨?_,_,rfl,AU _,j+1,_,_,_,_,rfl,by omega,rfl,?_⟩
    .simp[c5a,c5b,HW,Go,CH,NJ,AS]
    .simp[Ga,List.range_succ,hm]
  .rintro ls hd ⟨j,z7,z9,z10,z11,er,hj,rfl,rfl⟩;have:=PL er hj;subst this;clear er hj;refine A8 ?_;have hL:∀k∈Ga ws.length W left ws.length,k<ws.length/\Fy W left k=true:=λk hk=>by
    obtain⟨h1,h2⟩:=mem_filter.mp hk;exact⟨by simpa using h1,h2⟩
   have hL0:Ga ws.length W left ws.length=[]->cnt ws.length left<=0:=Wm hW;have fl:(Ga ws.length W left ws.length).length<=ws.length:=le_trans (List.length_filter_le _ _) (by simp);generalize Ga ws.length W left ws.length=L at hL hL0 fl;dsimp only[cons_append,nil_append];have c4a:=DI (w:=4) (by omega) ca.1;have c4b:=DI (w:=4) (by omega) ca.2;have pyL:∀{hd:Hd} {k:Nat} {M:List Nat},hd[k]?=some (.lst (Av M))->pyD hd (.mu k)=some (.list ((M.map λk:Nat=>(k:Int)).map PyData.int)):=λ{hd k M} e=>Mv (by rw[<- N0];exact e)
   refine AB (AX (Ah (BK (JA (A3 rfl ⟨4,Av L,rfl,rfl,AL (by simp;omega),?_⟩)))));refine C3 (λk:Nat=>D.im (.int (k:Int))) (λk=>if cm ws k<=now then some (.im (.int (k:Int)))else none) (λ_ ls=>∃x,ls=[some x,some (.im (AY ws)),some (.im (.int now))]) _ (by intro q hq;rw[mem_singleton]at hq;subst hq;rfl) ?_ ?_
   .rintro k hk ls hls;have hkn:=(hL k hk).1;refine⟨[some (.im (.int (k:Int))),some (.im (AY ws)),some (.im (.int now))],by rcases hls with rfl|⟨_,x,rfl⟩<;>rfl,⟨_,rfl⟩,AZ (A9 (A9 (A9 (A3 rfl (A3 rfl (Aw (by rw[IP]) (HA hkn) (AC (Aw rfl (Je _ _ _) ?_))))))))⟩;rw[HV hkn];refine A3 rfl (II ⟨_,rfl,rfl,?_⟩);by_cases h:cm ws k<=now
    .rw[if_pos (by simpa using h)];exact⟨_,if_pos h,A3 rfl ⟨rfl,rfl⟩⟩
    .rw[if_neg (by simpa using h)];exact if_neg h
   rw[bP λk=>cm ws k<=now];refine A8 ?_;obtain⟨M,hM⟩:∃M,M=L.filter λk=>decide (cm ws k<=now):=⟨_,rfl⟩
   rw[<- hM];have hML:∀k∈M,k∈L:=λk hk=>by rw[hM]at hk;exact(mem_filter.mp hk).1
   have flM:M.length<=L.length:=by rw[hM];exact List.length_filter_le _ _
   by_cases hne:L=[]
   .have hM0:M=[]:=by rw[hM,hne];rfl
    rw[hM0];refine Ag (El (AZ (DD (A3 rfl ⟨_,pyL (M:=[]) rfl,_,rfl,?_⟩))));rw[if_pos (by simp)];refine AZ (DD (A3 rfl ⟨_,pyL (M:=L) rfl,_,rfl,λh=>?_,λ_=>?_⟩))
    .rw[hne]at h;simp at h
    refine Ag (AZ (DD (A3 rfl ⟨_,pyL (M:=[]) rfl,_,rfl,λh=>?_,λ_=>Ae ?_⟩)))
    .simp at h
    refine⟨?_,_,rfl,AU _,left,P,now,gaps,a,b,_,_,_,_,_,rfl,rfl,hT,S,.inl (hL0 hne),by omega,by omega⟩;simp[c4a,c4b,HW,Go,CH,AS]
   have L0:=List.length_pos_iff.mpr hne;have hmu:mu ws left P now<=((r.length+1:Nat):Int):=by
    rcases hmu with h|h
    .obtain⟨k,hk⟩:=List.exists_mem_of_ne_nil L hne;have:=NH (hL k hk).1 (may_iff.mp (hL k hk).2).1;omega
    .exact h
   by_cases hMn:M≠[]
   .have M0:=List.length_pos_iff.mpr hMn;refine Ag (El (AZ (DD (A3 rfl ⟨_,pyL (M:=M) rfl,_,rfl,?_⟩))));rw[if_neg (by simpa using hMn)];refine⟨(λh=>by cases h),λ_=>?_⟩;refine Ag (AZ (DD (A3 rfl ⟨_,pyL (M:=M) rfl,_,rfl,λ_=>?_,λh=>?_⟩)))
    rotate_left
    .exact absurd (by simpa using h) hMn
    refine AB (AX (A9 (A3 rfl (tap.draw (n:=0) (many:=(M.length:Int)) (rest:=[.lst (AS left),.lst (pcD P),.lst (Av L),.lst (Av M)]) hT (by simp[BI]) (by omega) (by omega) λs a b hT ps qs=>?_))));have hs:s.toNat<M.length:=by omega
    obtain⟨hk,hm⟩:=hL M[s.toNat] (hML _ (List.getElem_mem hs));refine Aw (ds:=Av M) rfl (C0 (k:=s.toNat) (x:=.im (.int (M[s.toNat]:Int))) (by omega) (by simp[Av,hs])) (A8 ?_);have hkc:cm ws M[s.toNat]<=now:=by
     have h1:M[s.toNat]∈L.filter λk=>decide (cm ws k<=now):=by rw[<- hM];exact List.getElem_mem hs
     simpa using (mem_filter.mp h1).2
    generalize M[s.toNat]=k at hk hm hkc;obtain⟨m1,m2⟩:=may_iff.mp hm;have hkl:k<left.length:=by omega
    have u20:lf left k<=20:=by
     have h1:=S.lv k hk;have h2:=E.l2 hk;have h3:0<=Pl.dn P k:=by
      have:∀(Q:List Pl.Pc),(∀p∈Q,p.2.1<p.2.2)->0<=Pl.dn Q k:=by
       intro Q
       induction Q with
       |nil=>intro _;exact Int.le_refl _
       |cons p Q ih=>
        intro h;have h1:=ih λq hq=>h q (mem_cons_of_mem _ hq);have h2:=h p mem_cons_self;rw[Pl.dn];split<;>omega
      exact this P λp hp=>(S.ok.ea p hp).2.2
     omega
    refine AB (AX (A9 (A3 rfl (A3 rfl (Aw (ds:=AS left) rfl (KU hkl) (A8 ?_))))));change WS _ [some (.mu 1),some (.im (AY ws)),some (.im (wI W)),some (.mu 2),some (.mu 3),some (.im (.int now)),some (.im (.int gaps)),z7,some (.mu 4),some (.im (.int (k:Int))),some (.mu 5),some (.im (.int (lf left k)))] [a,b,.lst (AS left),.lst (pcD P),.lst (Av L),.lst (Av M)] _;refine AB (WP.mono (Q:=λf x=>∃Ab a b,f=Fl.nx [some (.mu 1),some (.im (AY ws)),some (.im (wI W)),some (.mu 2),some (.mu 3),some (.im (.int now)),some (.im (.int gaps)),z7,some (.mu 4),some (.im (.int (k:Int))),some (.mu 5),some (.im (.int Ab))]/\x=[a,b,.lst (AS left),.lst (pcD P),.lst (Av L),.lst (Av M)]/\T 0 a b/\1<=Ab/\Ab<=lf left k/\(P.length<30∨Ab=lf left k)) ?_ ?_)
    .refine Ag (AZ (A9 (BN (A4 (A3 rfl (A6 (C8 rfl rfl (AC (Gy ⟨_,rfl,λh=>?_,λh=>Ae ?_⟩)))))))))
     .refine AX (A9 (AC (tap.draw (n:=0) (many:=lf left k) (rest:=[.lst (AS left),.lst (pcD P),.lst (Av L),.lst (Av M)]) hT rfl (by omega) (by omega) λs a b hT ps qs=>BA ?_)));refine⟨1+s,a,b,rfl,rfl,hT,by omega,by omega,.inl ?_⟩;have:=of_decide_eq_true h;simp at this;omega
     .exact⟨lf left k,a,b,rfl,rfl,hT,by omega,Int.le_refl _,.inr rfl⟩
    rintro f x ⟨Ab,a,b,rfl,rfl,hT,d1,d2,d3⟩;refine A8 ?_;refine AB (Gx (KJ (A3 rfl ⟨⟨_,rfl⟩,A4 (AT (A4 (A3 rfl (A4 (A3 rfl (A4 (A9 (A3 rfl (A3 rfl (BA (A6 ⟨Aq,A6 (IJ rfl (Bp (by simp;omega)) (A8 ?_))⟩)))))))))))⟩)));refine AB (MX (A9 (A9 (A3 rfl (A3 rfl (Aw (ds:=AS left) rfl (KU hkl) (A3 rfl (CB (A3 rfl (A3 rfl ⟨2,(k:Int),k,AS left,rfl,rfl,rfl,JT (n:=(AS left).length) (by omega) (by simp[AS];omega),A8 ?_⟩))))))))));rw[LU];refine AB (AX (A9 (A3 rfl (A3 rfl (BA (A8 ?_))))));have ep:pcD P++[AK [D.im (.int (k:Int)),.im (.int now),.im (.int (now+Ab))]]=pcD (P++[(k,now,now+Ab)]):=by
     simp[pcD,AD,AK,B8]
    have S':=S.step hW hk d1 d2 m2 hkc;have fin:∀now',now+Ab<=now'->Pst ws W (left.set k (lf left k-Ab)) (P++[(k,now,now+Ab)]) now'/\mu ws (left.set k (lf left k-Ab)) (P++[(k,now,now+Ab)]) now'<=r.length:=λnow' h=>by
     have:=Vm (ws:=ws) (q:=(k,now,now+Ab)) (now:=now) (now':=now') hk hkl (by omega) d1 d2 d3;exact⟨S'.later h,by omega⟩
    have pl:(P++[(k,now,now+Ab)]).length+r.length<=60:=by simp;omega
    have done_:∀(a b:MO),T 0 a b->∀now',now+Ab<=now'->now'<=now+Ab+5->∀gaps',([a,b,MO.lst (AS (left.set k (lf left k-Ab))),.lst (pcD P++[AK [D.im (.int (k:Int)),.im (.int now),.im (.int (now+Ab))]])].all (clO 4)=true)/\I_pl ws W r [some (.mu 1),some (.im (AY ws)),some (.im (wI W)),some (.mu 2),some (.mu 3),some (.im (.int now')),some (.im (.int gaps')),Fm 4 [z7] |>.headD none,none,some (.im (.int (k:Int))),none,some (.im (.int Ab))] [a,b,MO.lst (AS (left.set k (lf left k-Ab))),.lst (pcD P++[AK [D.im (.int (k:Int)),.im (.int now),.im (.int (now+Ab))]])]:=by
     intro a b hT now' h h' gaps';have ca:=tap.cl hT;obtain⟨f1,f2⟩:=fin now' h;rw[ep];refine⟨?_,_,_,now',gaps',a,b,_,_,_,_,_,rfl,rfl,hT,f1,.inr f2,pl,by omega⟩;have c3:B6 4 (AS (left.set k (lf left k-Ab)))=true:=CH 4 _;have c4:B6 4 (pcD (P++[(k,now,now+Ab)]))=true:=Go 4 AD _;show(clO 4 a&&(clO 4 b&&(B6 4 (AS (left.set k (lf left k-Ab)))&&(B6 4 (pcD (P++[(k,now,now+Ab)]))&&true))))=true;rw[DI (w:=4) (by omega) ca.1,DI (w:=4) (by omega) ca.2,c3,c4];rfl
    refine Ag (El (AZ (A9 (A3 rfl (AC (Gz ⟨_,rfl,?_⟩))))));by_cases hg:0<gaps
    .rw[if_pos (by simpa using hg)];refine AZ (A9 (tap.draw (n:=0) (many:=6) (rest:=[.lst (AS (left.set k (lf left k-Ab))),.lst (pcD P++[AK [D.im (.int (k:Int)),.im (.int now),.im (.int (now+Ab))]]),.lst (Av L),.lst (Av M)]) hT rfl (by decide) (by decide) λs a b hT ps qs=>AC (EA ⟨_,rfl,λh=>?_,λh=>Ae ?_⟩)))
     .refine AB (AX (A9 (A3 rfl (AC (CB (A8 ?_))))));refine AX (A9 (A9 (A3 rfl (AC (BA (tap.draw (n:=0) (many:=4) (rest:=[.lst (AS (left.set k (lf left k-Ab))),.lst (pcD P++[AK [D.im (.int (k:Int)),.im (.int now),.im (.int (now+Ab))]]),.lst (Av L),.lst (Av M)]) hT rfl (by decide) (by decide) λs a b hT ps qs=>BA ?_))))));obtain⟨q1,q2⟩:=done_ a b hT (now+Ab+1+s) (by omega) (by omega) (gaps-1);exact⟨q1,_,rfl,AU _,q2⟩
     .obtain⟨q1,q2⟩:=done_ a b hT (now+Ab) (by omega) (by omega) gaps;exact⟨q1,_,rfl,AU _,q2⟩
    .rw[if_neg (by simpa using hg)];refine⟨(λh=>by cases h),λ_=>Ae ?_⟩;obtain⟨q1,q2⟩:=done_ a b hT (now+Ab) (by omega) (by omega) gaps;exact⟨q1,_,rfl,AU _,q2⟩
   .have hM0:M=[]:=Classical.byContradiction hMn;rw[hM0];have far:∀k∈L,now<cm ws k:=λk hk=>by
     rw[hM]at hM0;have:=filter_eq_nil_iff.mp hM0 k hk;simp at this;omega
    refine Ag (El (AZ (DD (A3 rfl ⟨_,pyL (M:=[]) rfl,_,rfl,?_⟩))));rw[if_pos (by simp)];refine AZ (DD (A3 rfl ⟨_,pyL (M:=L) rfl,_,rfl,λ_=>?_,λh=>?_⟩))
    rotate_left
    .exact absurd (by simpa using h) hne
    refine AX (Km (BK (JA (A3 rfl ⟨4,Av L,rfl,rfl,AL (by simp;omega),?_⟩))));refine C3 (λk:Nat=>D.im (.int (k:Int))) (λk=>some (.im (.int (cm ws k)))) (λ_ ls=>∃x,ls=[some x,some (.im (AY ws))]) _ (by intro q hq;rw[mem_singleton]at hq;subst hq;rfl) ?_ ?_
    .rintro k hk ls hls;have hkn:=(hL k hk).1;refine⟨[some (.im (.int (k:Int))),some (.im (AY ws))],by rcases hls with rfl|⟨_,x,rfl⟩<;>rfl,⟨_,rfl⟩,CP ⟨rfl,?_⟩⟩;rw[if_pos rfl];refine⟨_,rfl,A9 (A9 (A3 rfl (A3 rfl (Aw (by rw[IP]) (HA hkn) (AC (Aw rfl (Je _ _ _) ?_))))))⟩;rw[HV hkn];exact⟨rfl,rfl⟩
    rw[W4 L (cm ws)];obtain⟨k,hk,ek⟩:=mem_map.mp (GZ (xs:=L.map (cm ws)) (by simpa using hne)).1;refine⟨_,Vy (by simpa using hne),?_⟩;rw[<- ek];have hf:=far k hk;refine⟨?_,_,rfl,AU _,left,P,cm ws k,gaps,a,b,_,_,_,_,_,rfl,rfl,hT,S.later (by omega),.inr ?_,by omega,?_⟩
    .simp[c4a,c4b,HW,Go,CH,AS]
    .have:=Z9 (hL k hk).1 hf;unfold mu at hmu ⊢;omega
    .have h1:=(E.ok _ (List.getElem_mem (hL k hk).1)).c2;rw[HV (hL k hk).1]at h1;omega
 .rintro ls hd ⟨left,P,now,gaps,a,b,z7,z8,z9,z10,z11,rfl,rfl,hT,S,hmu,hlen,hnow⟩;have h0:cnt ws.length left<=0:=by
   rcases hmu with h|h
   .exact h
   .simp only[length_nil]at h;have:=ac (ws:=ws) now;unfold mu at h;split at h<;>omega
  obtain⟨F,w⟩:=W7 E S h0;refine A8 (Af (BN (A4 (A3 rfl (A6 (C8 rfl rfl ?_))))));rw[FT];refine⟨_,a,b,_,rfl,⟨P,rfl,by omega,λp hp=>?_,S.cc,F,λa b hab p hp e=>?_⟩,hT,rfl⟩
  .have:=S.le p hp;simp only[length_nil]at hnow;omega
  .obtain⟨a',b',ep,ha,_⟩:=hW.nats _ hab;have:=(Prod.mk.inj ep).1;exact w a b (by omega) hab p hp e
end
def Bf:Tv->Bool
 |.int _=>true
 |_=>false
def BP:Tv->Int
 |.int i=>i
 |_=>0
def KS{n:Nat}{h:Hd}{t:Tv}{d:D}(hi:Is n h t d):WF CU [d] h λd' x=>d'=.im (.bl (Bf t))/\x=h:=by
 unfold CU;refine Br rfl ?_;refine Af (DM (AZ (Az (A3 rfl ⟨_,hi.isD .int,_,rfl,?_⟩))));cases t with
 |int i=>
  rw[if_pos (by simp[ty])];exact JD (AZ (Az (A3 rfl ⟨_,hi.isD .bool,_,rfl,by simp[ty,Bf]⟩)))
 |bl i=>
  rw[if_pos (by simp[ty])];exact JD (AZ (Az (A3 rfl ⟨_,hi.isD .bool,_,rfl,by simp[ty,Bf]⟩)))
 |non=>rw[if_neg (by simp[ty])];exact⟨rfl,rfl⟩
 |str x=>rw[if_neg (by simp[ty])];exact⟨rfl,rfl⟩
 |tup x=>rw[if_neg (by simp[ty])];exact⟨rfl,rfl⟩
 |lst x=>rw[if_neg (by simp[ty])];exact⟨rfl,rfl⟩
def Z3{n:Nat}{h:Hd}{t:Tv}{d:D}(hi:Is n h t d):WF F3 [d] h λd' x=>d'=.im (.bl (Bf t))/\x=h:=KS hi
def Dg{t:Tv}(h:Bf t=true):t=.int (BP t):=by
 cases t<;>simp[Bf,BP]at h ⊢
def EX(k:Int)(t:Tv):Bool:=Bf t&&decide (k<=BP t)
def ZH{n:Nat}{h:Hd}{t:Tv}{d:D}{k:Int}(hi:Is n h t d):WF CO [.im (.int k),d] h λd' x=>d'=.im (.bl (EX k t))/\x=h:=by
 unfold CO;refine Br rfl ?_;refine Af (DM (AZ (B0 (A4 (A3 rfl (A6 ((KS hi).mono ?_))))))) ;rintro d' x ⟨rfl,rfl⟩;refine⟨_,rfl,?_⟩;cases t with
 |int i=>
  simp only[Is]at hi;subst hi;rw[if_pos (by simp[Bf])];exact A9 (A3 rfl (A3 rfl (Sr ⟨by simp only[EX,Bf,BP,Bool.true_and];congr,rfl⟩)))
 |bl i=>rw[if_neg (by simp[Bf])];exact⟨rfl,rfl⟩
 |non=>rw[if_neg (by simp[Bf])];exact⟨rfl,rfl⟩
 |str x=>rw[if_neg (by simp[Bf])];exact⟨rfl,rfl⟩
 |tup x=>rw[if_neg (by simp[Bf])];exact⟨rfl,rfl⟩
 |lst x=>rw[if_neg (by simp[Bf])];exact⟨rfl,rfl⟩
def FC(k:Nat):Tv->Bool
 |.tup ts=>decide (ts.length=k)
 |_=>false
def Tt{n:Nat}{h:Hd}{t:Tv}{d:D}{k:Nat}(hi:Is n h t d):WF DC [.im (.int (k:Int)),d] h λd' x=>d'=.im (.bl (FC k t))/\x=h:=by
 unfold DC;refine Br rfl ?_;refine Af (DM (AZ (Az (A3 rfl ⟨_,hi.isD .tuple,_,rfl,?_⟩))));cases t with
 |tup ts=>
  obtain⟨ds,hv,hs⟩:=hi.view;have hl:=hs.len;rw[if_pos (by simp[ty])];refine A9 (BN (A4 (A3 rfl (A6 (C8 (ds:=ds) (by rw[if_pos rfl];exact Ce hv) rfl (A3 rfl (EA ⟨?_,rfl⟩)))))));simp[FC,hl];omega
 |int i=>rw[if_neg (by simp[ty])];exact⟨rfl,rfl⟩
 |bl i=>rw[if_neg (by simp[ty])];exact⟨rfl,rfl⟩
 |non=>rw[if_neg (by simp[ty])];exact⟨rfl,rfl⟩
 |str x=>rw[if_neg (by simp[ty])];exact⟨rfl,rfl⟩
 |lst x=>rw[if_neg (by simp[ty])];exact⟨rfl,rfl⟩
def Qr{t:Tv}(h:FC 3 t=true):∃a b c,t=.tup [a,b,c]:=by
 cases t with
 |tup ts=>
  simp[FC]at h
  match ts,h with
  |[a,b,c],_=>exact⟨a,b,c,rfl⟩
 |_=>simp[FC]at h
def Mg{F:List D->Hd->Option (D×Hd)}{spec:Tv->Bool}{N:Nat}{h:Hd}{ts:List Tv}{ds:List D}{w:D}(hs:Iss N h ts ds)(hF:∀t∈ts,∀d,Is N h t d->WF F [w,d] h λd' x=>d'=.im (.bl (spec t))/\x=h){QA:List D->Hd->Prop}(q:QA (blD (ts.map spec)) h):WP (As (AG 0) Bc (Ak F (A1 (A2 1) (A1 (A2 0) A5))) [] ds [none,some w] h) QA:=by
 refine Ss (λr es ls hd=>∃us tr z,hd=h/\ts=us++tr/\Iss N h tr r/\es=blD (us.map spec)/\ls=[z,some w]) ⟨[],ts,none,rfl,rfl,hs,rfl,rfl⟩ ?_ ?_
 .rintro d r es ls hd ⟨us,tr,z,hx,rfl,hr,rfl,rfl⟩;subst hd;cases tr with
  |nil=>simp only[Iss]at hr;cases hr
  |cons t tr=>
   simp only[Iss]at hr;obtain⟨d',r',e,hi,hr⟩:=hr;obtain⟨rfl,rfl⟩:=List.cons.inj e;refine⟨[some d,some w],rfl,CP ?_⟩;rw[if_pos rfl];refine B0 (A4 (A3 rfl (A4 (A3 rfl (A6 ((hF t (by simp) d hi).mono ?_))))));rintro d' x ⟨rfl,hx⟩;subst x;exact⟨AU _,us++[t],tr,_,rfl,by simp,hr,by simp[blD],rfl⟩
 .rintro es ls hd ⟨us,tr,z,hx,rfl,hr,rfl,rfl⟩;subst hd;cases tr with
  |nil=>simpa using q
  |cons t tr=>simp only[Iss]at hr;obtain⟨d',r',e,_⟩:=hr;cases e
def Wi{F:List D->Hd->Option (D×Hd)}{spec:Tv->Bool}{N:Nat}{h:Hd}{ts:List Tv}{ds:List D}(hs:Iss N h ts ds)(hF:∀t∈ts,∀d,Is N h t d->WF F [d] h λd' x=>d'=.im (.bl (spec t))/\x=h){QA:List D->Hd->Prop}(q:QA (blD (ts.map spec)) h):WP (As (AG 0) Bc (Ak F (A1 (A2 0) A5)) [] ds [none] h) QA:=by
 refine Ss (λr es ls hd=>∃us tr z,hd=h/\ts=us++tr/\Iss N h tr r/\es=blD (us.map spec)/\ls=[z]) ⟨[],ts,none,rfl,rfl,hs,rfl,rfl⟩ ?_ ?_
 .rintro d r es ls hd ⟨us,tr,z,hx,rfl,hr,rfl,rfl⟩;subst hd;cases tr with
  |nil=>simp only[Iss]at hr;cases hr
  |cons t tr=>
   simp only[Iss]at hr;obtain⟨d',r',e,hi,hr⟩:=hr;obtain⟨rfl,rfl⟩:=List.cons.inj e;refine⟨[some d],rfl,CP ?_⟩;rw[if_pos rfl];refine B0 (A4 (A3 rfl (A6 ((hF t (by simp) d hi).mono ?_))));rintro d' x ⟨rfl,hx⟩;subst x;exact⟨AU _,us++[t],tr,_,rfl,by simp,hr,by simp[blD],rfl⟩
 .rintro es ls hd ⟨us,tr,z,hx,rfl,hr,rfl,rfl⟩;subst hd;cases tr with
  |nil=>simpa using q
  |cons t tr=>simp only[Iss]at hr;obtain⟨d',r',e,_⟩:=hr;cases e
def Ct(n:Int)(t:Tv):Bool:=EX 0 t&&decide (BP t<n)
def SM{n:Nat}{h:Hd}{t:Tv}{d:D}{k:Int}(hi:Is n h t d):WF Bw [.im (.int k),d] h λd' x=>d'=.im (.bl (Ct k t))/\x=h:=by
 unfold Bw;refine Br rfl ?_;refine Af (DM (AZ (B0 (A4 (AC (A4 (A3 rfl (A6 ((ZH hi).mono ?_)))))))));rintro d' x ⟨rfl,hx⟩;subst x;refine⟨_,rfl,?_⟩;by_cases hf:EX 0 t=true
 .rw[if_pos hf];have hn:Bf t=true:=by unfold EX at hf;rw[Bool.and_eq_true]at hf;exact hf.1
  have hi2:=hi;rw[Dg hn]at hi2;simp only[Is]at hi2;subst hi2;refine A9 (A3 rfl (A3 rfl (Gy ⟨?_,rfl⟩)));rw[Ct,hf,Bool.true_and]
 .rw[if_neg hf];exact⟨by rw[Ct,Bool.eq_false_iff.mpr hf];rfl,rfl⟩
def BB(ws:List Wk):Tv->Bool
 |.tup [a,b,c]=>Ct (ws.length:Int) a&&(Bf b&&(Bf c&&(decide (cm ws (BP a).toNat<=BP b)&&decide (BP b<BP c))))
 |_=>false
def GY{ws:List Wk}{t:Tv}(h:¬ FC 3 t=true):BB ws t=false:=by
 unfold BB;split
 .simp[FC]at h
 .rfl
def TN{n:Int}{t:Tv}(h:Ct n t=true):∃k:Nat,t=.int (k:Int)/\(k:Int)<n:=by
 unfold Ct EX at h;simp only[Bool.and_eq_true,decide_eq_true_eq]at h;refine⟨(BP t).toNat,?_,by omega⟩;rw[Int.toNat_of_nonneg h.1.2];exact Dg h.1.1
def Q0{ws:List Wk}{n:Nat}{h:Hd}{t:Tv}{d:D}(hi:Is n h t d):WF Ed [.im (AY ws),d] h λd' x=>d'=.im (.bl (BB ws t))/\x=h:=by
 unfold Ed;refine Br rfl ?_;refine AB (Ag (DR (Au (B0 (A4 (AC (A4 (A3 rfl (A6 ((Tt (k:=3) hi).mono ?_))))))))));rintro d' x ⟨rfl,hx⟩;subst x;refine⟨_,rfl,?_⟩;by_cases ht:FC 3 t=true
 .rw[ht];refine⟨(λh=>by cases h),λ_=>Ae (A8 ?_)⟩;obtain⟨a,b,q,rfl⟩:=Qr ht;obtain⟨ds,hv,hs⟩:=hi.view;simp only[Iss]at hs;obtain⟨da,_,rfl,ia,db,_,rfl,ib,dc,_,rfl,ic,rfl⟩:=hs;refine AB (IH (A3 rfl ⟨[some (.im (AY ws)),some d,some da,some db,some dc],by simp[Bx,hv],A8 ?_⟩));refine AB (Ag (Gw (DR (Au (B0 (A4 (BN (A4 (A3 rfl (A6 (C8 (ds:=(ws.map Aj).map D.im) rfl rfl (A4 (A3 rfl (A6 ((SM ia).mono ?_)))))))))))))));rintro d' x ⟨rfl,hx⟩;subst x;refine⟨_,rfl,?_⟩;rw[show(((ws.map Aj).map D.im).length:Int)=(ws.length:Int) by simp];by_cases ha:Ct (ws.length:Int) a=true
  .rw[if_neg (by simp[ha])];refine Gw (DR (Au (B0 (A4 (A3 rfl (A6 ((KS ib).mono ?_)))))));rintro d' x ⟨rfl,hx⟩;subst x;refine⟨_,rfl,?_⟩;by_cases hb:Bf b=true
   .rw[if_neg (by simp[hb])];refine DR (Au (B0 (A4 (A3 rfl (A6 ((KS ic).mono ?_))))));rintro d' x ⟨rfl,hx⟩;subst x;refine⟨_,rfl,?_⟩;by_cases hc:Bf q=true
    .rw[hc];refine⟨(λh=>by cases h),λ_=>Ae (A8 ?_)⟩;have pE:BB ws (.tup [a,b,q])=(decide (cm ws (BP a).toNat<=BP b)&&decide (BP b<BP q)):=by simp only[BB,ha,hb,hc,Bool.true_and]
     obtain⟨k,rfl,hk⟩:=TN ha;have hk:k<ws.length:=by omega
     rw[pE];rw[Dg hb]at ib;rw[Dg hc]at ic;generalize BP b=y at *;generalize BP q=z at *;simp only[Is]at ia ib ic;subst ia;subst ib;subst ic;refine Af (DM (AZ (A9 (A9 (A9 (A3 rfl (A3 rfl (Aw (by rw[IP]) (HA hk) (AC (Aw rfl (C0 (k:=1) rfl rfl) (A3 rfl (II ⟨_,rfl,?_⟩))))))))))));rw[show(BP (.int (k:Int))).toNat=k from rfl,HV hk];by_cases hy:cm ws k<=y
     .rw[if_pos (by simpa using hy)];refine A9 (A3 rfl (A3 rfl (Gy ⟨?_,rfl⟩)));simp[hy]
     .rw[if_neg (by simpa using hy)];exact⟨by simp[hy],rfl⟩
    .refine⟨λ_=>Af (AC ⟨by simp[BB,Bool.eq_false_iff.mpr hc],rfl⟩),λh=>by simp[hc]at h⟩
   .rw[if_pos (by simp[hb])];exact⟨λ_=>Af (AC ⟨by simp[BB,Bool.eq_false_iff.mpr hb],rfl⟩),λh=>by cases h⟩
  .rw[if_pos (by simp[ha])];exact⟨λ_=>Af (AC ⟨by simp[BB,Bool.eq_false_iff.mpr ha],rfl⟩),λh=>by cases h⟩
 .refine⟨λ_=>Af (AC ⟨by rw[GY ht],rfl⟩),(λh=>by simp[ht]at h)⟩
def OF{ws:List Wk}{n:Nat}{h:Hd}{t:Tv}{d:D}(hi:Is n h t d):WF E9 [.im (AY ws),d] h λd' x=>d'=.im (.bl (BB ws t))/\x=h:=by
 unfold E9;refine Br rfl ?_;refine AB (Ag (Gw (DR (Au (Az (A3 rfl ⟨_,hi.isD .tuple,_,rfl,?_⟩))))));by_cases hT:∃ts,t=.tup ts
 .obtain⟨ts,rfl⟩:=hT;obtain⟨ds,hv,hs⟩:=hi.view;have hl:=hs.len;rw[if_neg (by simp[ty])];refine Gw (AZ (A9 (BN (A4 (A3 rfl (A6 (C8 (ds:=ds) (by rw[if_pos rfl];exact Ce hv) rfl (AC (Oj ⟨_,rfl,?_⟩)))))))));by_cases l3:ts.length=3
  .rw[if_neg (by simp;omega)];refine AZ (Om (AC (BK (CI (A3 rfl ⟨ds,hv,AL (by dsimp only;omega),?_⟩)))));refine Wi (spec:=Bf) hs (λt ht d hi=>Z3 hi) ⟨_,_,_,rfl,rfl,Li _,_,rfl,?_⟩;rw[N8]
   match ts,l3 with
   |[a,b,q],_=>
    simp only[Iss]at hs;obtain⟨da,_,rfl,ia,db,_,rfl,ib,dc,_,rfl,ic,rfl⟩:=hs;by_cases hall:Bf a=true/\Bf b=true/\Bf q=true
    .obtain⟨ha,hb,hc⟩:=hall;refine⟨(λh=>by simp[ha,hb,hc]at h),λ_=>Ae (A8 ?_)⟩;have pE:BB ws (.tup [a,b,q])=((decide (0<=BP a)&&decide (BP a<(ws.length:Int)))&&(decide (cm ws (BP a).toNat<=BP b)&&decide (BP b<BP q))):=by simp only[BB,Ct,EX,ha,hb,hc,Bool.true_and]
     rw[pE];rw[Dg ha]at ia;rw[Dg hb]at ib;rw[Dg hc]at ic;generalize BP a=x at *;generalize BP b=y at *;generalize BP q=z at *;simp only[Is]at ia ib ic;subst ia;subst ib;subst ic;refine Af (DM (AZ (Qn (AC (A9 (A3 rfl (AC (Aw (Ce hv) (C0 (k:=0) rfl rfl) (II ⟨_,rfl,λh1=>?_,λh1=>?_⟩)))))))))
     .have h1:0<=x:=of_decide_eq_true h1;refine BN (A4 (A3 rfl (A6 (C8 (ds:=(ws.map Aj).map D.im) rfl rfl (Gy ⟨_,rfl,?_⟩)))));rw[show(((ws.map Aj).map D.im).length:Int)=(ws.length:Int) by simp];by_cases h2:x<(ws.length:Int)
      .rw[if_pos (decide_eq_true h2)];obtain⟨k,rfl⟩:∃k:Nat,x=(k:Int):=⟨x.toNat,by omega⟩
       have hk:k<ws.length:=by omega
       rw[toNat_natCast];refine DM (AZ (A9 (A9 (A3 rfl (AC (Aw (Ce hv) (C0 (k:=1) rfl rfl) (A9 (A3 rfl (AC (Aw (Ce hv) (C0 (k:=2) rfl rfl) (Gy ⟨_,rfl,?_⟩)))))))))));by_cases h3:y<z
       .rw[if_pos (decide_eq_true h3)];refine A9 (A9 (A3 rfl (AC (Aw (Ce hv) (C0 (k:=1) rfl rfl) (A9 (A9 (A3 rfl (A9 (A3 rfl (AC (Aw (Ce hv) (C0 (k:=0) rfl rfl) (Aw (by rw[IP]) (HA hk) (AC (Aw rfl (C0 (k:=1) rfl rfl) (Sr ⟨?_,rfl⟩)))))))))))))));rw[HV hk];simp[h2,h3,decide_eq_true h1]
       .rw[if_neg (by simpa using h3)];exact⟨by simp[h3],rfl⟩
      .rw[if_neg (by simpa using h2)];exact⟨by simp[h2],rfl⟩
     .have h1:¬ 0<=x:=of_decide_eq_false h1;refine⟨_,rfl,?_⟩;rw[if_neg (by simp)];exact⟨by rw[decide_eq_false h1];rfl,rfl⟩
    .refine⟨λ_=>Af (AC ⟨?_,rfl⟩),λh=>?_⟩
     .congr 2
      symm
      rw[Bool.eq_false_iff];intro p;simp only[BB,Ct,EX,Bool.and_eq_true]at p;exact hall ⟨p.1.1.1,p.2.1,p.2.2.1⟩
     .refine absurd ?_ hall;simp at h;exact⟨h.1,h.2.1,h.2.2⟩
  .rw[if_pos (by simp;omega)];exact⟨λ_=>Af (AC ⟨by rw[GY (by simpa [FC]using l3)],rfl⟩),λh=>by cases h⟩
 .rw[if_pos (by cases t<;>simp[ty]at hT ⊢)];refine⟨λ_=>Af (AC ⟨by rw[GY (by cases t<;>simp[FC]at hT ⊢)],rfl⟩),λh=>by cases h⟩
variable{ws:List Wk}
def KR(P:List Pl.Pc):(P.map AD).map D.im=pcD P:=by simp[pcD]
def Iw:∀ns:List Int,PyData.depthAll (ns.map PyData.int)=0
 |[]=>by simp[PyData.depthAll]
 |n::r=>by simp[PyData.depthAll,PyData.depth,Iw r]
def Ld(ns:List Int):(PyData.list (ns.map PyData.int)).canLay0=true:=by
 rw[PyData.canLay0]
 induction ns with
 |nil=>rfl
 |cons x r ih=>simp[PyData.canLayAll0,PyData.canLay0]at ih ⊢;try exact ih
def ZM:F_ends_of=Bd.F_ends_of:=rfl
def ZW{P:List Pl.Pc}(n8:ws.length<=8)(hP:∀p∈P,p.1<ws.length):WF F_ends_of [.im (AY ws),.im (.tup (P.map AD))] [] λd x=>d=.im (FA ((List.range ws.length).map (Pl.E P))):=by
 obtain⟨g,e⟩:=OT ws P hP (by omega);rw[Pl.ends_map]at e;exact WP.eq (ZM ▸ e) rfl
abbrev O5(ws:List Wk)(p:Pl.Pc):Prop:=cm ws p.1<=p.2.1/\p.2.1<p.2.2
def WY{ma mb:MI}{ls:Ls}{hd:Hd}{QI:List D×Gd->Hd->Prop}(h:WI ma ls hd λp x=>WI mb ls x λq y=>GOk y p.2/\QI (List.zipWith (λx y=>AK [x,y]) p.1 q.1,p.2++q.2) y):WI (JQ ma mb) ls hd QI:=by
 obtain⟨p,x,e1,q,y,e2,g,k⟩:=h;exact⟨_,_,by simp only[JQ,e1,bind_some,e2,g,if_true],k⟩
abbrev BM(P:List Pl.Pc):Prop:=∀x∈P.zip P.tail,x.1.2.2<=x.2.2.1
def blsD_map(bs:List Bool):CM (blD bs)=some bs:=by
 induction bs with
 |nil=>rfl
 |cons b r ih=>simp[blD]at ih ⊢
def N5(bs:List Bool):G0 (blD bs)=some (.im (.bl (bs.all id))):=by rw[G0,blsD_map];rfl
def aR{P:List Pl.Pc}(hl:P.length<=2000):WF Cc [.im (.tup (P.map AD))] [] λd x=>d=.im (.bl (decide (BM P))):=by
 unfold Cc;refine Br rfl ?_;have ct:Bj ((P.map AD).map D.im) (some 1) none=(P.tail.map AD).map D.im:=by
  cases P with
  |nil=>rfl
  |cons p r=>
   simp[Bj,HT.sIx];exact take_of_length_le (by simp)
 refine Af (Km (BK (WY (CI (A3 rfl ⟨_,rfl,CI (DT (A3 rfl (BU (AC ⟨_,rfl,DS ⟨_,rfl,?_⟩⟩))))⟩)))));rw[ct,DG];refine⟨_,rfl,AU _,?_⟩;have ez:List.zipWith (λx y=>AK [x,y]) ((P.map AD).map D.im) ((P.tail.map AD).map D.im)=(P.zip P.tail).map λq:Pl.Pc×Pl.Pc=>D.im (.tup [AD q.1,AD q.2]):=by
  rw[List.zipWith_map,List.zipWith_map,List.zip,List.map_zipWith];rfl
 dsimp only;rw[ez];refine⟨AL (by simp;omega),?_⟩;refine C3 (λq:Pl.Pc×Pl.Pc=>D.im (.tup [AD q.1,AD q.2])) (λq=>some (.im (.bl (decide (q.1.2.2<=q.2.2.1))))) (λ_ ls=>∃x y,ls=[some x,some y]) _ (AU _) ?_ ?_
 .rintro q hq ls hls;refine⟨[some (.im (AD q.1)),some (.im (AD q.2))],by rcases hls with rfl|⟨_,x,y,rfl⟩<;>rfl,⟨_,_,rfl⟩,CP ⟨rfl,?_⟩⟩;rw[if_pos rfl];exact⟨_,rfl,A9 (A9 (A3 rfl (AC (Aw rfl (Zk _ _ _ _) (A9 (A3 rfl (AC (Aw rfl (Je _ _ _) (II ⟨rfl,rfl⟩)))))))))⟩
 have e:((P.zip P.tail).filterMap λq:Pl.Pc×Pl.Pc=>some (D.im (.bl (decide (q.1.2.2<=q.2.2.1)))))=blD ((P.zip P.tail).map λq=>decide (q.1.2.2<=q.2.2.1)):=by simp[blD]
 rw[e];refine⟨_,N5 _,?_⟩
 congr 3
 rw[Bool.eq_iff_iff,decide_eq_true_iff,all_map,all_eq_true];simp[BM]
abbrev dnL(n:Nat)(P:List Pl.Pc):List Int:=(List.range n).map (Pl.dn P)
def WJ{n:Nat}{P:List Pl.Pc}{q:Pl.Pc}:(dnL n P).set q.1 (Pl.dn P q.1+(q.2.2-q.2.1))=dnL n (P++[q]):=by
 refine ext_getElem? λi=>?_;rw[List.getElem?_set];by_cases h:q.1=i
 .subst h;by_cases hk:q.1<n
  .simp[dnL,hk,Ei]
  .simp[dnL,hk]
 .by_cases hk:i<n
  .simp[dnL,hk,Ei,h]
  .simp[dnL,hk,h]
def Te{mo mi me:ME}{f:Int->Int->Int}{ls:Ls}{hd:Hd}{QS:Fl->Hd->Prop}(h:WE mo ls hd λd x=>WE mi ls x λi y=>∃n k ds j v,d=.mu n/\i=.im (.int k)/\y[n]?=some (.lst ds)/\ixN ds.length k=some j/\ds[j]?=some (.im (.int v))/\WE me ls y λr z=>∃u ds',r=.im (.int u)/\z[n]?=some (.lst ds')/\ds'.length=ds.length/\QS (.nx ls) (z.set n (.lst (ds'.set j (.im (.int (f v u))))))):WS (HI mo mi me f) ls hd QS:=by
 obtain⟨d,x,e1,i,y,e2,n,k,ds,j,v,rfl,rfl,e3,e4,e5,r,z,e6,u,ds',rfl,e7,e8,q⟩:=h;refine⟨_,_,?_,q⟩;unfold HI;simp only[e1,bind_some,e2,e3,e4,e5,e6,e7,e8,if_true]
inductive I_dn(ws:List Wk)(P:List Pl.Pc)(r:List D)(ls:Ls)(hd:Hd):Prop
 |mk (d0 rest:List Pl.Pc) (z3 z4 z5:Option D) (h0:P=d0++rest) (h1:r=pcD rest) (h2:ls=[some (.im (AY ws)),some (.im (.tup (P.map AD))),some (.mu 0),z3,z4,z5]) (h3:hd=[.lst (AS (dnL ws.length d0))]):I_dn ws P r ls hd
def ZX(n8:ws.length<=8){P:List Pl.Pc}(hP:∀p∈P,p.1<ws.length):WF Cn [.im (AY ws),.im (.tup (P.map AD))] [] λd x=>d=.mu 0/\x=[.lst (AS (dnL ws.length P))]:=by
 unfold Cn;refine Br rfl ?_;refine AB (AX (Ah (BK (CI (A3 rfl ⟨_,rfl,AL (by simp;omega),?_⟩)))));rw[show(ws.map Aj).map D.im=ws.map λw=>D.im (Aj w) by simp];refine C3 (λw=>D.im (Aj w)) (λw:Wk=>some (.im (.int 0))) (λ_ ls=>∃x,ls=[some x]) _ (AU _) ?_ ?_
 .rintro w hw ls hls;refine⟨[some (.im (Aj w))],by rcases hls with rfl|⟨_,x,rfl⟩<;>rfl,⟨_,rfl⟩,CP ⟨rfl,?_⟩⟩;rw[if_pos rfl];exact⟨_,rfl,AC ⟨rfl,rfl⟩⟩
 have e0:(ws.filterMap λ_=>some (D.im (.int 0)))=AS (dnL ws.length []):=by
  refine ext_getElem? λi=>?_;by_cases hi:i<ws.length
  .simp[AS,dnL,hi,Pl.dn]
  .simp[AS,dnL,hi]
 rw[e0];refine A8 (AB (Cr (CI (A3 rfl ⟨_,rfl,?_⟩))));rw[KR];refine CQ (I_dn ws P) ⟨[],P,none,none,none,rfl,rfl,rfl,rfl⟩ ?_ ?_
 .rintro d r ls hd ⟨d0,rest,z3,z4,z5,e1,er,rfl,rfl⟩;cases rest with
  |nil=>cases er
  |cons p rest=>
   obtain⟨rfl,rfl⟩:=List.cons.inj er;have hp:=hP p (by rw[e1];simp);obtain⟨k,b,e⟩:=p;dsimp only at hp;refine⟨[some (.im (AY ws)),some (.im (.tup (P.map AD))),some (.mu 0),some (.im (.int (k:Int))),some (.im (.int b)),some (.im (.int e))],rfl,?_⟩;refine Te (A3 rfl (A3 rfl ⟨0,(k:Int),AS (dnL ws.length d0),k,Pl.dn d0 k,rfl,rfl,rfl,?_,?_,?_⟩))
   .have:=JT (n:=(AS (dnL ws.length d0)).length) (i:=(k:Int)) (by omega) (by simp[AS,dnL];omega);simpa using this
   .simp[AS,dnL,hp]
   refine A9 (A3 rfl (A3 rfl (CB ⟨_,_,rfl,rfl,rfl,AU _,d0++[(k,b,e)],rest,_,_,_,by rw[e1];simp,rfl,rfl,?_⟩)));rw[set_cons_zero,LU];have:=WJ (n:=ws.length) (P:=d0) (q:=(k,b,e));dsimp only at this;rw[this]
 .rintro ls hd ⟨d0,rest,z3,z4,z5,e1,er,rfl,rfl⟩;have:rest=[]:=by cases rest with
   |nil=>rfl
   |cons t r=>cases er
  subst this;rw[append_nil]at e1;subst e1;exact A8 (Af (A3 rfl ⟨rfl,rfl⟩))
def Zo(W:List (Int×Int))(P:List Pl.Pc):Prop:=∀q∈W,∀p∈P,(p.1:Int)=q.2->Pl.E P q.1.toNat<=p.2.1
inductive I_k1(W:List (Int×Int))(P:List Pl.Pc)(es:List Int)(r:List D)(ls:Ls)(hd:Hd):Prop
 |mk (d0 rest:List (Int×Int)) (z0 z1 z2 z3 z4:Option D) (bs:List Bool) (h0:W=d0++rest) (h1:r=rest.map Ax) (h2:ls=[z0,z1,z2,z3,z4,some (.im (.tup (P.map AD))),some (.im (FA es))]) (h3:hd=[.lst (blD bs)]) (h4:bs.length<=2000*d0.length) (h5:bs.all id=true↔∀q∈d0,∀p∈P,(p.1:Int)=q.2->Pl.E P q.1.toNat<=p.2.1):I_k1 W P es r ls hd
inductive I_k2(P:List Pl.Pc)(es:List Int)(a b:Nat)(bs:List Bool)(r:List D)(ls:Ls)(hd:Hd):Prop
 |mk (d0 rest:List Pl.Pc) (z2 z3 z4:Option D) (cs:List Bool) (h0:P=d0++rest) (h1:r=pcD rest) (h2:ls=[some (.im (.int (a:Int))),some (.im (.int (b:Int))),z2,z3,z4,some (.im (.tup (P.map AD))),some (.im (FA es))]) (h3:hd=[.lst (blD cs)]) (h4:cs.length<=bs.length+d0.length) (h5:cs.all id=true↔bs.all id=true/\∀p∈d0,(p.1:Int)=(b:Int)->Pl.E P a<=p.2.1):I_k2 P es a b bs r ls hd
def Vz{W:List (Int×Int)}{P:List Pl.Pc}{n:Nat}(hW:Wsh n W)(hl:P.length<=2000):
 WF Co [.im (wI W),.im (.tup (P.map AD)),.im (FA ((List.range n).map (Pl.E P)))] [] λd x=>∃b:Bool,d=.im (.bl b)/\(b=true↔Zo W P):=by
 have h16:=hW.len;obtain⟨es,hes⟩:∃es,es=(List.range n).map (Pl.E P):=⟨_,rfl⟩
 rw[<- hes];unfold Co;refine Br rfl ?_;refine Af (BN (A4 (Qm (CI (A3 rfl ⟨_,rfl,?_⟩)))));rw[Rw.pairs_im];refine J9 (I_k1 W P es) ⟨[],W,none,none,none,none,none,[],rfl,rfl,rfl,rfl,by simp,by simp⟩ ?_ ?_
 .rintro d r ls hd ⟨d0,rest,z0,z1,z2,z3,z4,bs,e1,er,rfl,rfl,lb,hb⟩;cases rest with
  |nil=>cases er
  |cons u rest=>
   obtain⟨rfl,rfl⟩:=List.cons.inj er;obtain⟨a,b,rfl,ha,hbn⟩:=hW.nats u (by rw[e1];simp);have l1:=congrArg List.length e1;simp only[length_append,length_cons]at l1;refine⟨[some (.im (.int (a:Int))),some (.im (.int (b:Int))),z2,z3,z4,some (.im (.tup (P.map AD))),some (.im (FA es))],rfl,CP ?_⟩;rw[if_pos rfl];refine CI (A3 rfl ⟨_,rfl,?_⟩);rw[KR];refine JB (I_k2 P es a b bs) ⟨[],P,_,_,_,bs,rfl,rfl,rfl,rfl,by simp,by simp⟩ ?_ ?_
   .rintro d r ls hd ⟨d1,r2,y2,y3,y4,cs,e2,er,rfl,rfl,lc,hc⟩;cases r2 with
    |nil=>cases er
    |cons p r2=>
     obtain⟨rfl,rfl⟩:=List.cons.inj er;have l2:=congrArg List.length e2;simp only[length_append,length_cons]at l2;obtain⟨k,x,y⟩:=p;refine⟨[some (.im (.int (a:Int))),some (.im (.int (b:Int))),some (.im (.int (k:Int))),some (.im (.int x)),some (.im (.int y)),some (.im (.tup (P.map AD))),some (.im (FA es))],rfl,AZ (A9 (A3 rfl (A3 rfl (EA ⟨_,rfl,?_⟩))))⟩;by_cases hk:(k:Int)=(b:Int)
     .rw[if_pos (by simpa using hk)];refine A9 (A9 (A3 rfl (A3 rfl (Aw (e:=.im (.int (Pl.E P a))) rfl (C0 rfl (by simp[hes,ha])) (A3 rfl (II (IJ rfl (Bp (by rw[length_map];omega)) ?_)))))));refine⟨AU _,d1++[(k,x,y)],r2,_,_,_,cs++[decide (Pl.E P a<=x)],by rw[e2];simp,rfl,rfl,by simp[blD],by simp;omega,?_⟩;rw[List.all_append,Bool.and_eq_true,hc];constructor
      .rintro⟨⟨h1,h2⟩,h3⟩;refine⟨h1,λp hp ep=>?_⟩;rcases mem_append.mp hp with q|q
       .exact h2 p q ep
       .rw[mem_singleton]at q;subst q;simpa using h3
      .rintro⟨h1,h2⟩;refine⟨⟨h1,λp hp ep=>h2 p (mem_append_left _ hp) ep⟩,?_⟩;have:=h2 (k,x,y) (by simp) hk;simpa using this
     .rw[if_neg (by simpa using hk)];refine⟨AU _,d1++[(k,x,y)],r2,_,_,_,cs,by rw[e2];simp,rfl,rfl,rfl,by simp;omega,hc.trans ?_⟩;refine and_congr_right λ_=>⟨λh p hp ep=>?_,λh p hp ep=>h p (mem_append_left _ hp) ep⟩
      rcases mem_append.mp hp with q|q
      .exact h p q ep
      .rw[mem_singleton]at q;subst q;exact absurd ep hk
   .rintro ls hd ⟨d1,r2,y2,y3,y4,cs,e2,er,rfl,rfl,lc,hc⟩;have:r2=[]:=by cases r2 with
     |nil=>rfl
     |cons _ _=>cases er
    subst this;rw[append_nil]at e2;subst e2;refine⟨AU _,d0++[((a:Int),(b:Int))],rest,_,_,_,_,_,cs,by rw[e1];simp,rfl,rfl,rfl,by simp;omega,hc.trans ?_⟩;rw[hb];constructor
    .rintro⟨h1,h2⟩ q hq p hp ep;rcases mem_append.mp hq with z|z
     .exact h1 q z p hp ep
     .rw[mem_singleton]at z;subst z;simpa using h2 p hp ep
    .intro h;refine⟨λq hq=>h q (mem_append_left _ hq),λp hp ep=>?_⟩;have:=h ((a:Int),(b:Int)) (by simp) p hp ep;simpa using this
 .rintro ls hd ⟨d0,rest,z0,z1,z2,z3,z4,bs,e1,er,rfl,rfl,lb,hb⟩;have:rest=[]:=by cases rest with
   |nil=>rfl
   |cons _ _=>cases er
  subst this;rw[append_nil]at e1;subst e1;refine A6 (C8 rfl (by rw[G0,show CM (blD _)=some _ from blsD_map _];rfl) ⟨_,rfl,hb⟩)
def Lp:∀as bs:List Int,PyData.eqvAll (as.map PyData.int) (bs.map PyData.int)=decide (as=bs)
 |[],[]=>by simp[PyData.eqvAll]
 |[],b::r=>by simp[PyData.eqvAll]
 |a::r,[]=>by simp[PyData.eqvAll]
 |a::r,b::s=>by
  have ih:=Lp r s;simp only[map_cons,PyData.eqvAll,PyData.eqv,ih];by_cases h:a=b
  .subst h;simp
  .simp[h]
def Tm{ma:ME}{ml:MA}{ls:Ls}{hd:Hd}{QE:D->Hd->Prop}(h:WE ma ls hd λd x=>WA ml ls x λds y=>∃as bs:List Int,pyD y d=some (.list (as.map PyData.int))/\ds=AS bs/\QE (.im (.bl (!decide (as=bs)))) y):WE (C4 true ma ml) ls hd QE:=by
 obtain⟨d,x,e1,ds,y,e2,as,bs,e3,rfl,q⟩:=h;refine⟨_,y,?_,q⟩;unfold C4;rw[e1];simp only[bind_some,e2,e3];simp only[AS,CN,bind_some,Cf];unfold GC;rw[if_pos ⟨Ld as,Ld bs,by simp[PyData.depth,Iw]⟩];simp[PyData.eqv,Lp]
def On{F:List D->Hd->Option (D×Hd)}{m:MA}{ls:Ls}{hd:Hd}{QE:D->Hd->Prop}(h:WA m ls hd λds rest=>B6 0 ds=true/\WF F ds [] λd x=>∃k es,d=.mu k/\x[k]?=some (.lst es)/\B6 0 es=true/\QE (.mu rest.length) (rest++[.lst es])):WE (AA 0 F m) ls hd QE:=by
 obtain⟨ds,rest,e,hc,d,x,e2,k,es,rfl,e3,c3,q⟩:=h;refine⟨_,_,?_,q⟩;have t3:¬ k<0:=by omega
 simp only[AA,e,bind_some,List.take_zero,hc,e2,fin,if_neg t3,e3,c3,if_true];simp
structure IsPl(ws:List Wk)(W:List (Int×Int))(P:List Pl.Pc):Prop where
 pc:∀p∈P,O5 ws p
 zp:BM P
 dn:∀k,k<ws.length->Pl.dn P k=ln ws k
 kp:Zo W P
abbrev pcV(p:Pl.Pc):Tv:=.tup [.int (p.1:Int),.int p.2.1,.int p.2.2]
def GX{ws:List Wk}:∀{ts:List Tv},ts.all (BB ws)=true->∃P:List Pl.Pc,ts=P.map pcV/\(∀p∈P,p.1<ws.length)/\∀p∈P,O5 ws p
 |[],_=>⟨[],rfl,by simp,by simp⟩
 |t::ts,h=>by
  simp only[all_cons,Bool.and_eq_true]at h;obtain⟨P,rfl,h1,h2⟩:=GX h.2;have ht:=h.1;unfold BB at ht;split at ht
  .next a b c=>
   simp only[Bool.and_eq_true]at ht;obtain⟨ha,hb,hc,h3,h4⟩:=ht;obtain⟨k,rfl,hk⟩:=TN ha;refine⟨(k,BP b,BP c)::P,?_,λp hp=>?_,λp hp=>?_⟩
   .rw[map_cons,pcV,<- Dg hb,<- Dg hc]
   .rcases mem_cons.mp hp with rfl|hp
    .show k<ws.length;omega
    .exact h1 p hp
   .rcases mem_cons.mp hp with rfl|hp
    .exact⟨of_decide_eq_true h3,of_decide_eq_true h4⟩
    .exact h2 p hp
  .cases ht
def F8{n:Nat}{h:Hd}:∀{P:List Pl.Pc} {ds:List D},Iss n h (P.map pcV) ds->ds=pcD P
 |[],ds,q=>by simp only[map_nil,Iss]at q;subst q;rfl
 |p::P,ds,q=>by
  simp only[map_cons,Iss]at q;obtain⟨d,r,rfl,q1,q2⟩:=q;rw[F8 q2];simp only[Is,Iss]at q1;obtain⟨es,rfl,d1,_,rfl,rfl,d2,_,rfl,rfl,d3,_,rfl,rfl,rfl⟩:=q1;rfl
def Vb{ws:List Wk}{p:Pl.Pc}(h1:p.1<ws.length)(h2:O5 ws p):BB ws (pcV p)=true:=by
 simp only[pcV,BB,Ct,EX,Bf,BP,Bool.true_and,toNat_natCast,Bool.and_eq_true];exact⟨⟨decide_eq_true (by omega),decide_eq_true (by omega)⟩,decide_eq_true h2.1,decide_eq_true h2.2⟩
def PlT(ws:List Wk)(W:List (Int×Int))(t:Tv):Prop:=∃P:List Pl.Pc,t=.tup (P.map pcV)/\(∀p∈P,p.1<ws.length)/\IsPl ws W P
def Mz:∀{P Q:List Pl.Pc},P.map pcV=Q.map pcV->P=Q
 |[],[],_=>rfl
 |[],q::Q,h=>by cases h
 |p::P,[],h=>by cases h
 |p::P,q::Q,h=>by
  simp only[map_cons,List.cons.injEq,pcV,Tv.tup.injEq,Tv.int.injEq,and_true]at h;obtain⟨⟨h1,h2,h3⟩,h4⟩:=h;rw[Mz h4];obtain⟨a,b,c⟩:=p;obtain⟨a',b',c'⟩:=q;simp only at h1 h2 h3;have:a=a':=by omega
  subst this;subst h2;subst h3;rfl
def Mw{ws:List Wk}{W:List (Int×Int)}{P:List Pl.Pc}(hP:∀p∈P,p.1<ws.length):PlT ws W (.tup (P.map pcV))↔IsPl ws W P:=by
 constructor
 .rintro⟨Q,e,_,I⟩;rw[Mz (Tv.tup.inj e)];exact I
 .intro I;exact⟨P,rfl,hP,I⟩
def Mx{ws:List Wk}{W:List (Int×Int)}{ts:List Tv}(h:PlT ws W (.tup ts)):ts.all (BB ws)=true:=by
 obtain⟨P,e,hP,I⟩:=h;cases e;rw[all_map,all_eq_true];exact λp hp=>Vb (hP p hp) (I.pc p hp)
def SV{ws:List Wk}{W:List (Int×Int)}{n:Nat}{h:Hd}{t:Tv}{d:D}(n8:ws.length<=8)(hW:Wsh ws.length W)(hi:Is n h t d)(ht:tl t<=2000):WF DQ [.im (AY ws),.im (wI W),d] h λd' x=>∃b:Bool,d'=.im (.bl b)/\(b=true↔PlT ws W t)/\∃g,x=h++g:=by
 unfold DQ;refine Br rfl ?_;refine AB (Ag (Gw (DR (Au (Az (A3 rfl ⟨_,hi.isD .tuple,_,rfl,?_⟩))))));by_cases hT:∃ts,t=.tup ts
 .obtain⟨ts,rfl⟩:=hT;obtain⟨ds,hv,hs⟩:=hi.view;have hl:=hs.len;have htl:ts.length<=2000:=ht;rw[if_neg (by simp[ty])];refine DR (Au (Km (BK (CI (A3 rfl ⟨ds,hv,AL (by dsimp only;omega),?_⟩)))));refine Mg (spec:=BB ws) hs (λt ht d hi=>Q0 hi) ⟨_,N5 _,_,rfl,?_⟩;rw[all_map,show(id ∘ BB ws)=BB ws from rfl];by_cases hall:ts.all (BB ws)=true
  .rw[hall];refine⟨(λh=>by cases h),λ_=>Ae (A8 ?_)⟩;obtain⟨P,rfl,hP,hpc⟩:=GX hall;have e:=F8 hs;subst e;have hl:P.length<=2000:=by simpa using htl
   have ed:d=.im (.tup (P.map AD)):=by
    simp only[Is]at hi;obtain⟨es,rfl,q⟩:=hi;rw[F8 q,FT]
   subst ed;rw[Mw hP];refine AB (Ag (DR (Au (Fk (A4 (A3 rfl (A6 ⟨by simp,(aR hl).mono ?_⟩)))))));rintro d x rfl;refine⟨_,rfl,_,rfl,λh=>?_,λh=>Ae (A8 ?_)⟩
   .refine Af (AC ⟨_,rfl,⟨(λz=>by cases z),λI=>?_⟩,[],by simp⟩);rw[decide_eq_true I.zp]at h;cases h
   have hz:BM P:=by
    by_cases q:BM P
    .exact q
    .rw[decide_eq_false q]at h;cases h
   refine AB (Ag (AZ (Tm (On (A4 (A3 rfl (A4 (A3 rfl (A6 ⟨by simp,(ZX n8 hP).mono ?_⟩)))))))));rintro d x ⟨rfl,rfl⟩;refine⟨0,_,rfl,rfl,CH _ _,?_⟩;refine BK (CI (A3 rfl ⟨_,rfl,AL (by simp;omega),?_⟩));rw[show(ws.map Aj).map D.im=ws.map λw=>D.im (Aj w) by simp];refine C3 (λw=>D.im (Aj w)) (λw:Wk=>some (.im (.int w.len))) (λ_ ls=>∃x,ls=[some x]) _ (AU _) ?_ ?_
   .rintro w hw ls hls;refine⟨[some (.im (Aj w))],by rcases hls with rfl|⟨_,x,rfl⟩<;>rfl,⟨_,rfl⟩,CP ⟨rfl,?_⟩⟩;rw[if_pos rfl];exact⟨_,rfl,A9 (A3 rfl (AC (Aw rfl (M8 _ _) ⟨rfl,rfl⟩)))⟩
   have el:ws.map Wk.len=(List.range ws.length).map (ln ws):=by
    refine ext_getElem? λi=>?_;by_cases hi:i<ws.length
    .simp[hi,ln]
    .simp[hi]
   have e0:(ws.filterMap λw=>some (D.im (.int w.len)))=AS ((List.range ws.length).map (ln ws)):=by rw[<- el];simp[AS]
   rw[e0];have eqd:dnL ws.length P=(List.range ws.length).map (ln ws)↔∀k,k<ws.length->Pl.dn P k=ln ws k:=by
    unfold dnL;rw[List.map_inj_left];simp
   refine⟨dnL ws.length P,_,Mv (List.getElem?_concat_length ..),rfl,_,rfl,λh=>?_,λh=>Ae (A8 ?_)⟩
   .refine Af (AC ⟨_,rfl,⟨(λz=>by cases z),λI=>?_⟩,_,rfl⟩);rw[decide_eq_true (eqd.mpr I.dn)]at h;cases h
   have hd:∀k,k<ws.length->Pl.dn P k=ln ws k:=by
    refine eqd.mp ?_;by_cases q:dnL ws.length P=(List.range ws.length).map (ln ws)
    .exact q
    .rw[decide_eq_false q]at h;cases h
   refine Af (Fk (A4 (A3 rfl (A4 (A3 rfl (A4 (Fk (A4 (A3 rfl (A4 (A3 rfl (A6 ⟨by simp,(ZW n8 hP).mono ?_⟩))))))))))));rintro d x rfl;refine⟨_,rfl,A6 ⟨by simp,(Vz hW hl).mono ?_⟩⟩;rintro d x ⟨b,rfl,hb⟩;exact⟨_,rfl,_,rfl,hb.trans ⟨λk=>⟨hpc,hz,hd,k⟩,λI=>I.kp⟩,_,rfl⟩
  .rw[Bool.eq_false_iff.mpr hall];exact⟨λ_=>Af (AC ⟨_,rfl,⟨(λz=>by cases z),λI=>absurd (Mx I) hall⟩,[],by simp⟩),λh=>by cases h⟩
 .rw[if_pos (by cases t<;>simp[ty]at hT ⊢)];refine⟨λ_=>Af (AC ⟨_,rfl,⟨(λz=>by cases z),λ⟨P,e,_⟩=>absurd ⟨_,e⟩ hT⟩,[],by simp⟩),λh=>by cases h⟩
def fst(P:List Pl.Pc)(k:Nat):Option Int:=(P.find? λp=>decide (p.1=k)).map λp=>p.2.1
def lst(P:List Pl.Pc)(k:Nat):Option Int:=if(P.any λp=>decide (p.1=k))=true then some (Pl.last P k 0)else none
def Sa(P:List Pl.Pc)(q:Pl.Pc)(k:Nat):fst (P++[q]) k=match fst P k with|some x=>some x|none=>if q.1=k then some q.2.1 else none:=by
 unfold fst;rw[List.find?_append];cases h:P.find? λp=>decide (p.1=k)with
 |some p=>rfl
 |none=>
  by_cases hk:q.1=k
  .simp[hk]
  .simp[hk]
def Ju(q:Pl.Pc)(k:Nat):∀(P:List Pl.Pc) (v:Int),Pl.last (P++[q]) k v=if q.1=k then q.2.2 else Pl.last P k v
 |[],v=>by simp only[nil_append,Pl.last]
 |p::P,v=>by simp only[cons_append,Pl.last,Ju q k P]
def SR(P:List Pl.Pc)(q:Pl.Pc)(k:Nat):lst (P++[q]) k=if q.1=k then some q.2.2 else lst P k:=by
 unfold lst;rw[List.any_append,Ju];by_cases hk:q.1=k
 .have e:([q].any λp=>decide (p.1=k))=true:=by rw[any_cons,decide_eq_true hk];rfl
  rw[e,Bool.or_true,if_pos rfl,if_pos hk,if_pos hk]
 .have e:([q].any λp=>decide (p.1=k))=false:=by rw[any_cons,decide_eq_false hk];rfl
  rw[e,Bool.or_false,if_neg hk,if_neg hk]
def now:List Pl.Pc->Int
 |[]=>0
 |[p]=>p.2.2
 |_::p::r=>now (p::r)
def LZ(q:Pl.Pc):∀P:List Pl.Pc,now (P++[q])=q.2.2
 |[]=>rfl
 |[p]=>rfl
 |p::r::s=>by
  have:=LZ q (r::s);simp only[cons_append,now]at this ⊢;exact this
def Kd(q:Pl.Pc):∀P:List Pl.Pc,BM (P++[q])↔BM P/\(P≠[]->now P<=q.2.1)
 |[]=>by simp[BM]
 |[p]=>by simp[BM,now]
 |p::r::s=>by
  have ih:=Kd q (r::s);have e:∀(r:Pl.Pc) (L:List Pl.Pc),BM (p::r::L)↔p.2.2<=r.2.1/\BM (r::L):=λr L=>by
   simp only[BM,tail_cons,List.zip_cons_cons,mem_cons,forall_eq_or_imp]
  rw[cons_append,cons_append,e,e,<- cons_append,ih,now];simp only[ne_eq,reduceCtorEq,not_false_eq_true,true_imp_iff];exact and_assoc.symm
variable{ws:List Wk}
abbrev lfL(ws:List Wk)(P:List Pl.Pc):List Int:=(List.range ws.length).map λk=>ln ws k-Pl.dn P k
def Z4{P:List Pl.Pc}{q:Pl.Pc}:(lfL ws P).set q.1 (ln ws q.1-Pl.dn P q.1-(q.2.2-q.2.1))=lfL ws (P++[q]):=by
 refine ext_getElem? λi=>?_;rw[List.getElem?_set];by_cases hi:i<ws.length
 .by_cases hq:q.1=i
  .subst hq;simp only[lfL,length_map,length_range,hi,if_true,Ei];simp[hi];omega
  .rw[if_neg hq];simp[lfL,hi,Ei,hq]
 .by_cases hq:q.1=i
  .subst hq;simp[lfL,hi]
  .rw[if_neg hq];simp[lfL,hi]
def DF(P:List Pl.Pc)(f:List (Key×D)):Prop:=f.length<=P.length/\∀k:Nat,B1 f (.inl (k:Int))=(fst P k).map λx=>.im (.int x)
def DL(P:List Pl.Pc)(f:List (Key×D)):Prop:=f.length<=P.length/\∀k:Nat,B1 f (.inl (k:Int))=(lst P k).map λx=>.im (.int x)
def DF.put{P:List Pl.Pc}{f:List (Key×D)}(h:DF P f)(q:Pl.Pc):DF (P++[q]) (Bm f (.inl (q.1:Int)) ((B1 f (.inl (q.1:Int))).getD (.im (.int q.2.1)))):=by
 refine⟨by have:=LV f (.inl (q.1:Int)) ((B1 f (.inl (q.1:Int))).getD (.im (.int q.2.1)));have:=h.1;simp;omega,λk=>?_⟩;rw[Kt,Sa,h.2 k];by_cases hk:k=q.1
 .subst hk;rw[if_pos rfl,h.2 q.1];cases fst P q.1 with
  |some x=>rfl
  |none=>rw[if_pos rfl];rfl
 .rw[if_neg (λz=>hk (by have:=Sum.inl.inj z;omega))];cases fst P k with
  |some x=>rfl
  |none=>rw[if_neg (λz=>hk z.symm)]
def DL.put{P:List Pl.Pc}{f:List (Key×D)}(h:DL P f)(q:Pl.Pc):DL (P++[q]) (Bm f (.inl (q.1:Int)) (.im (.int q.2.2))):=by
 refine⟨by have:=LV f (.inl (q.1:Int)) (.im (.int q.2.2));have:=h.1;simp;omega,λk=>?_⟩;rw[Kt,SR];by_cases hk:k=q.1
 .subst hk;rw[if_pos rfl,if_pos rfl];rfl
 .rw[if_neg (λz=>hk (by have:=Sum.inl.inj z;omega)),h.2 k,if_neg (λz=>hk z.symm)]
def Ke{Q:List Pl.Pc}:∀{P:List Pl.Pc},BM (P++Q)->BM P
 |[],_=>by simp[BM]
 |[p],_=>by simp[BM]
 |p::r::s,h=>by
  have ih:=Ke (P:=r::s) (Q:=Q);simp only[BM,cons_append,tail_cons,List.zip_cons_cons,mem_cons,forall_eq_or_imp]at h ih ⊢;exact⟨h.1,ih h.2⟩
inductive I_lp(ws:List Wk)(W:List (Int×Int))(h:Hd)(d:D)(P:List Pl.Pc)(r:List D)(ls:Ls)(hd:Hd):Prop
 |mk (dn rest:List Pl.Pc) (f l:List (Key×D)) (z7 z8 z9:Option D) (h0:P=dn++rest) (h1:r=pcD rest) (h2:ls=[some (.im (AY ws)),some (.im (wI W)),some d,some (.mu h.length),some (.mu (h.length+1)),some (.mu (h.length+2)),some (.im (.int (now dn))),z7,z8,z9]) (h3:hd=h++[.lst (AS (lfL ws dn)),.dic f,.dic l]) (h4:DF dn f) (h5:DL dn l) (h6:BM dn):I_lp ws W h d P r ls hd
def Z1(E:Ew ws){W:List (Int×Int)}{h:Hd}{d:D}{P:List Pl.Pc}(hP:∀p∈P,p.1<ws.length)(hpc:∀p∈P,O5 ws p)(hl:P.length<=2000){Q:Fl->Hd->Prop}(hbad:∀x,¬ BM P->(∃g,x=h++g)->Q (.rt (.im (.bl false))) x)(hgo:∀f l z7 z8 z9,DF P f->DL P l->BM P->Q (.nx [some (.im (AY ws)),some (.im (wI W)),some d,some (.mu h.length),some (.mu (h.length+1)),some (.mu (h.length+2)),some (.im (.int (now P))),z7,z8,z9]) (h++[.lst (AS (lfL ws P)),.dic f,.dic l])){z7 z8 z9:Option D}:
 WL (Bx 3 (Ac (AG 7) (Ac (AG 8) (Ac (AG 9) CF))))
  (A7 (B2 (AR (mOp gLt (A2 8) (A2 6)))
  (Aa (mC (.bl false)))
  Ap)
 (A7 (AH 6 (A2 9))
 (A7 (Dj (A2 3) (A2 7) (mOp B3 (mOp gIx (A2 3) (A2 7)) (mOp B3 (A2 9) (A2 8))))
 (A7 (C5 (A2 4) (A2 7) (Ey (A2 4) (A2 7) (A2 8)))
 (C5 (A2 5) (A2 7) (A2 9)))))) [] (pcD P) [some (.im (AY ws)),some (.im (wI W)),some d,some (.mu h.length),some (.mu (h.length+1)),some (.mu (h.length+2)),some (.im (.int 0)),z7,z8,z9] (h++[.lst (AS (lfL ws [])),.dic [],.dic []]) Q:=by
 refine CQ (I_lp ws W h d P) ⟨[],P,[],[],z7,z8,z9,rfl,rfl,rfl,rfl,⟨by simp,λk=>rfl⟩,⟨by simp,λk=>rfl⟩,by simp[BM]⟩ ?_ ?_
 .rintro e r ls hd ⟨dn,rest,f,l,z7,z8,z9,e0,er,rfl,rfl,hf,hL,hz⟩;cases rest with
  |nil=>cases er
  |cons q rest=>
   obtain⟨rfl,rfl⟩:=List.cons.inj er;have hq:q∈P:=by rw[e0];simp
   have hk:=hP q hq;have hc:=hpc q hq;have c0:=E.c0 hk;have dl:dn.length<=2000:=by rw[e0,length_append]at hl;omega
   refine⟨_,rfl,?_⟩;change WS _ [some (.im (AY ws)),some (.im (wI W)),some d,some (.mu h.length),some (.mu (h.length+1)),some (.mu (h.length+2)),some (.im (.int (now dn))),some (.im (.int (q.1:Int))),some (.im (.int q.2.1)),some (.im (.int q.2.2))] _ _;have zs:=Kd q dn;refine AB (Ag (AZ (A9 (A3 rfl (A3 rfl (Gy ⟨_,rfl,λhlt=>?_,λhlt=>Ae (A8 ?_)⟩))))))
   .have hlt:q.2.1<now dn:=of_decide_eq_true hlt;refine Af (AC (hbad _ (λzp=>?_) ⟨_,rfl⟩));rw[e0,show dn++q::rest=(dn++[q])++rest by simp]at zp;have:=zs.mp (Ke zp);cases dn with
    |nil=>simp only[now]at hlt;have:=hc.1;omega
    |cons _ _=>have:=this.2 (by simp);omega
   .have hge:¬ q.2.1<now dn:=of_decide_eq_false hlt;refine AB (AX (A3 rfl (A8 ?_)));refine AB (MX (A9 (A9 (A3 rfl (A3 rfl (Aw (ds:=AS (lfL ws dn)) (e:=.im (.int (ln ws q.1-Pl.dn dn q.1))) (by rw[Nf,Il];simp) (C0 rfl (by simp[AS,lfL,hk])) (A9 (A3 rfl (A3 rfl (CB (CB (A3 rfl (A3 rfl ⟨h.length,(q.1:Int),q.1,AS (lfL ws dn),rfl,rfl,by simp,?_,A8 ?_⟩)))))))))))))
    .unfold ixN;simp[AS,lfL,hk]
    have eS:(h++[MO.lst (AS (lfL ws dn)),.dic f,.dic l]).set h.length (.lst ((AS (lfL ws dn)).set q.1 (.im (.int (ln ws q.1-Pl.dn dn q.1-(q.2.2-q.2.1))))))=h++[.lst (AS (lfL ws (dn++[q]))),.dic f,.dic l]:=by
     rw[<- Z4];simp[AS,List.map_set]
    rw[eS];have fl:=hf.1;have ll:=hL.1;refine AB (MY (k:=.inl 0) (w:=0) (Ql (A3 rfl ⟨⟨f,by simp[BV]⟩,A3 rfl (A3 rfl ⟨f,.inl (q.1:Int),by simp[BV],rfl,A3 rfl (A3 rfl ⟨h.length+1,.inl (q.1:Int),f,rfl,rfl,by simp,Bp (by omega),A8 ?_⟩)⟩)⟩)));rw[show(h++[MO.lst (AS (lfL ws (dn++[q]))),.dic f,.dic l]).set (h.length+1) (.dic (Bm f (.inl (q.1:Int)) ((B1 f (.inl (q.1:Int))).getD (.im (.int q.2.1)))))=h++[.lst (AS (lfL ws (dn++[q]))),.dic (Bm f (.inl (q.1:Int)) ((B1 f (.inl (q.1:Int))).getD (.im (.int q.2.1)))),.dic l] by simp];refine MY (k:=.inl 0) (w:=0) (A3 rfl (A3 rfl (A3 rfl ⟨h.length+2,.inl (q.1:Int),l,rfl,rfl,by simp,Bp (by omega),AU _,?_⟩)));refine⟨dn++[q],rest,_,_,some (.im (.int (q.1:Int))),some (.im (.int q.2.1)),some (.im (.int q.2.2)),by rw[e0];simp,rfl,?_,by simp,hf.put q,hL.put q,zs.mpr ⟨hz,λ_=>by omega⟩⟩;rw[LZ];rfl
 .rintro ls hd ⟨dn,rest,f,l,z7,z8,z9,e0,er,rfl,rfl,hf,hL,hz⟩;cases rest with
  |cons _ _=>cases er
  |nil=>
   rw[append_nil]at e0;subst e0;exact hgo f l z7 z8 z9 hf hL hz
variable{ws:List Wk}
def Tl{neg:Bool}{ml:MA}{ls:Ls}{hd:Hd}{QE:D->Hd->Prop}(h:WA ml ls hd λds x=>∃is:List I,ds=is.map D.im/\(PyData.list (I.pys is)).canLay0=true/\QE (.im (.bl (if neg then !decide (is=[])else decide (is=[])))) x):WE (D8 neg ml (AV A5)) ls hd QE:=by
 obtain⟨ds,x,e,is,rfl,hl,q⟩:=h;refine⟨_,x,?_,q⟩;unfold D8;rw[e];have e2:B8 (is.map D.im)=some is:=KB is;have ev:PyData.eqv (.list (I.pys is)) (.list (I.pys []))=decide (is=[]):=by
  cases is with
  |nil=>rfl
  |cons i r=>rw[I.pys,I.pys];simp[PyData.eqv,PyData.eqvAll]
 simp only[bind_some,Lm,Fa,length_nil,Cw,if_true,e2,Zm];unfold GC;rw[if_pos ⟨hl,by simp[I.pys,PyData.canLay0,PyData.canLayAll0],le_trans (Nat.min_le_right _ _) (by simp[I.pys,PyData.depth,PyData.depthAll])⟩,ev]
def Lg{k:Nat}:∀{P:List Pl.Pc},(∃p∈P,p.1=k)->∃x,fst P k=some x/\∃p∈P,p.1=k/\p.2.1=x:=λ{P} ⟨p,hp,hk⟩=>by
 unfold fst;cases h:P.find? λp=>decide (p.1=k)with
 |none=>exact absurd (decide_eq_true hk) (by simpa using List.find?_eq_none.mp h p hp)
 |some r=>exact⟨r.2.1,rfl,r,List.mem_of_find?_eq_some h,of_decide_eq_true (by simpa using List.find?_some h),rfl⟩
def ZY{P:List Pl.Pc}{k:Nat}(h:Pl.dn P k≠0):∃p∈P,p.1=k:=by
 by_cases q:∃p∈P,p.1=k
 .exact q
 .exact absurd (Pl.dn_no λp hp e=>q ⟨p,hp,e⟩) h
def Z0{P:List Pl.Pc}{k:Nat}(h:∃p∈P,p.1=k):lst P k=some (Pl.E P k):=by
 unfold lst;obtain⟨p,hp,hk⟩:=h;rw[if_pos (List.any_eq_true.mpr ⟨p,hp,decide_eq_true hk⟩)]
def P6:∀{P:List Pl.Pc},BM P->(∀p∈P,p.2.1<p.2.2)->P.Pairwise λp q=>p.2.1<=q.2.1
 |[],_,_=>.nil
 |[p],_,_=>by simp
 |p::r::s,h,hp=>by
  simp only[BM,tail_cons,List.zip_cons_cons,mem_cons,forall_eq_or_imp]at h;have ih:=P6 (P:=r::s) (by simpa only[BM,tail_cons]using h.2) λx hx=>hp x (by simp[hx]);refine List.pairwise_cons.mpr ⟨λx hx=>?_,ih⟩;have h1:=hp p (by simp);rcases mem_cons.mp hx with rfl|hx
  .have:=h.1;omega
  .have:=(List.pairwise_cons.mp ih).1 x hx;have:=h.1;omega
def ZG{P:List Pl.Pc}{k:Nat}{x:Int}(hr:P.Pairwise λp q=>p.2.1<=q.2.1)(h:fst P k=some x):∀p∈P,p.1=k->x<=p.2.1:=by
 induction P with
 |nil=>intro p hp;simp at hp
 |cons q P ih=>
  have hq:=List.pairwise_cons.mp hr;intro p hp hk;unfold fst at h;rw[find?_cons]at h;by_cases hqk:q.1=k
  .rw[decide_eq_true hqk]at h;have:q.2.1=x:=by simpa using h
   rcases mem_cons.mp hp with rfl|hp
   .omega
   .have:=hq.1 p hp;omega
  .rw[decide_eq_false hqk]at h;rcases mem_cons.mp hp with rfl|hp
   .exact absurd hk hqk
   .exact ih hq.2 h p hp hk
def Pw:∀{W:List (Int×Int)},(PyData.list (I.pys (W.map Cs))).canLay0=true:=λ{W}=>by
 rw[PyData.canLay0]
 induction W with
 |nil=>rfl
 |cons p W ih=>rw[map_cons,I.pys];simp[PyData.canLayAll0,PyData.canLay0,Cs,I.py,I.pys,ih]
def Pv(E:Ew ws){W:List (Int×Int)}{n:Nat}{h:Hd}{t:Tv}{d:D}(hW:Wsh ws.length W)(hi:Is n h t d)(ht:tl t<=2000):WF Cm [.im (AY ws),.im (wI W),d] h λd' x=>∃b:Bool,d'=.im (.bl b)/\(b=true↔PlT ws W t)/\∃g,x=h++g:=by
 have n8:=E.n8;unfold Cm;refine Br rfl ?_;refine AB (Ag (Gw (DR (Au (Az (A3 rfl ⟨_,hi.isD .tuple,_,rfl,?_⟩))))));by_cases hT:∃ts,t=.tup ts
 .obtain⟨ts,rfl⟩:=hT;obtain⟨ds,hv,hs⟩:=hi.view;have hl:=hs.len;have htl:ts.length<=2000:=ht;rw[if_neg (by simp[ty])];refine AZ (Om (AC (BK (CI (A3 rfl ⟨ds,hv,AL (by dsimp only;omega),?_⟩)))));refine Mg (spec:=BB ws) hs (λt ht d hi=>OF hi) ⟨_,_,_,rfl,rfl,Li _,_,rfl,?_⟩;rw[N8];by_cases hall:ts.all (BB ws)=true
  .refine⟨(λh=>by simp at h hall;obtain⟨x,hx,hx2⟩:=h;rw[hall x hx]at hx2;cases hx2),λ_=>Ae (A8 ?_)⟩;obtain⟨P,rfl,hP,hpc⟩:=GX hall;have e:=F8 hs;subst e;have hl:P.length<=2000:=by simpa using htl
   rw[Mw hP];refine AB (AX (Ah (BK (CI (A3 rfl ⟨_,rfl,AL (by simp;omega),?_⟩)))));rw[show(ws.map Aj).map D.im=ws.map λw=>D.im (Aj w) by simp];refine C3 (λw=>D.im (Aj w)) (λw:Wk=>some (.im (.int w.len))) (λ_ ls=>∃x,ls=[some x]) _ (AU _) ?_ ?_
   .rintro w hw ls hls;refine⟨[some (.im (Aj w))],by rcases hls with rfl|⟨_,x,rfl⟩<;>rfl,⟨_,rfl⟩,CP ⟨rfl,?_⟩⟩;rw[if_pos rfl];exact⟨_,rfl,A9 (A3 rfl (AC (Aw rfl (C0 (k:=0) rfl rfl) ⟨rfl,rfl⟩)))⟩
   have e0:(ws.filterMap λw=>some (D.im (.int w.len)))=AS (lfL ws []):=by
    have el:ws.map Wk.len=lfL ws []:=by
     refine ext_getElem? λi=>?_;by_cases hi:i<ws.length
     .simp[hi,lfL,ln,Pl.dn]
     .simp[hi,lfL]
    rw[<- el];simp[AS]
   rw[e0];refine A8 (AB (IH (AT (A4 (Mc (A4 (Mc (A6 ⟨EI,_,by simp[Bx];rfl,A8 ?_⟩))))))));refine AB (AX (AC (A8 ?_)));rw[show h++[MO.lst (AS (lfL ws []))]++[MO.dic []]++[MO.dic []]=h++[.lst (AS (lfL ws [])),.dic [],.dic []] by simp];refine AB (Cr (CI (A3 rfl ⟨pcD P,hv,?_⟩)));refine Z1 E hP hpc hl (λx hz hx=>⟨false,rfl,⟨(λz=>by cases z),λI=>absurd I.zp hz⟩,hx⟩) (λf l z7 z8 z9 hf hL hz=>?_);refine A8 ?_;have G:GOk (h++[.lst (AS (lfL ws P)),.dic f,.dic l]) [(h.length,AS (lfL ws P))]:=λp hp=>by rw[mem_singleton]at hp;subst hp;simp
   refine AB (Ag (AZ (Kl (BK (JA (A3 rfl ⟨h.length,AS (lfL ws P),rfl,by simp,AL (by simp;omega),?_⟩))))));refine C3 (λi:Int=>D.im (.int i)) (λi:Int=>if i≠0 then some (.im (.int i))else none) (λ_ ls=>∃x,ls=[some x]) _ G ?_ ?_
   .rintro i hi ls hls;refine⟨[some (.im (.int i))],by rcases hls with rfl|⟨_,x,rfl⟩<;>rfl,⟨_,rfl⟩,AZ (A9 (A3 rfl (AC (Oj ⟨_,rfl,rfl,?_⟩))))⟩;by_cases h0:i=0
    .rw[if_neg (by simp[h0]),if_neg (by simp[h0])]
    .rw[if_pos (by simpa using h0)];exact⟨_,if_pos h0,A3 rfl ⟨rfl,rfl⟩⟩
   rw[TR];refine⟨_,rfl,_,rfl,?_⟩;have ez:((lfL ws P).filter λi=>decide (i≠0))=[]↔∀k,k<ws.length->Pl.dn P k=ln ws k:=by
    rw[filter_eq_nil_iff];constructor
    .intro q k hk;have:=q (ln ws k-Pl.dn P k) (mem_map.mpr ⟨k,by simpa using hk,rfl⟩);simp at this;omega
    .intro q i hi;obtain⟨k,hk,rfl⟩:=mem_map.mp hi;have:=q k (by simpa using hk);simp[this]
   by_cases hd:∀k,k<ws.length->Pl.dn P k=ln ws k
   .have e1:=ez.mpr hd;refine⟨(λq=>by rw[e1]at q;simp at q),λ_=>Ae (A8 ?_)⟩;have hex:∀k,k<ws.length->∃p∈P,p.1=k:=λk hk=>ZY (by rw[hd k hk];have:=E.l1 hk;omega);have hr:=P6 hz λp hp=>(hpc p hp).2;refine Af (Tl (BK (CI (A3 rfl ⟨_,rfl,AL (by have:=hW.len;simp;omega),?_⟩))));rw[map_map];refine C3 (λp=>D.im (Cs p)) (λp:Int×Int=>if(fst P p.2.toNat).getD 0<Pl.E P p.1.toNat then some (.im (Cs p))else none) (λ_ ls=>∃x,ls=[some x,some (.mu (h.length+2)),some (.mu (h.length+1))]) _ (AU _) ?_ ?_
    .rintro p hp ls hls;obtain⟨a,b,rfl,ha,hb⟩:=hW.nats p hp;obtain⟨x,ex,_⟩:=Lg (hex b hb);refine⟨[some (.im (Cs ((a:Int),(b:Int)))),some (.mu (h.length+2)),some (.mu (h.length+1))],by rcases hls with rfl|⟨_,x,rfl⟩<;>rfl,⟨_,rfl⟩,?_⟩;refine AZ (A9 (A9 (A3 rfl (A9 (A3 rfl (AC (Aw rfl (C0 (k:=0) rfl rfl) (Mb (k:=.inl (a:Int)) (kvs:=l) (z:=.im (.int (Pl.E P a))) (by simp[BV]) rfl (by rw[hL.2 a,Z0 (hex a ha)];rfl) (A9 (A3 rfl (A9 (A3 rfl (AC (Aw rfl (C0 (k:=1) rfl rfl) (Mb (k:=.inl (b:Int)) (kvs:=f) (z:=.im (.int x)) (by simp[BV]) rfl (by rw[hf.2 b,ex];rfl) (Gz ⟨_,rfl,rfl,?_⟩))))))))))))))));simp only[toNat_natCast,ex,getD_some];by_cases hc:x<Pl.E P a
     .rw[if_pos (by simpa using hc)];exact⟨_,if_pos hc,A3 rfl ⟨rfl,rfl⟩⟩
     .rw[if_neg (by simpa using hc),if_neg hc]
    have ef:∀V:List (Int×Int),(V.filterMap λp:Int×Int=>if(fst P p.2.toNat).getD 0<Pl.E P p.1.toNat then some (D.im (Cs p))else none)=((V.filter λp=>decide ((fst P p.2.toNat).getD 0<Pl.E P p.1.toNat)).map Cs).map D.im:=λV=>by
     induction V with
     |nil=>rfl
     |cons p V ih=>
      rw[filterMap_cons,filter_cons];by_cases hc:(fst P p.2.toNat).getD 0<Pl.E P p.1.toNat
      .rw[if_pos hc,decide_eq_true hc,if_pos rfl,map_cons,map_cons,<- ih]
      .rw[if_neg hc,decide_eq_false hc,if_neg (by simp),<- ih]
    refine⟨_,ef W,Pw,_,rfl,?_,_,rfl⟩;rw[if_neg (by simp),decide_eq_true_eq,List.map_eq_nil_iff,filter_eq_nil_iff];constructor
    .intro q;refine⟨hpc,hz,hd,λw hw p hp hk=>?_⟩;have hq:=q w hw;obtain⟨a,b,rfl,ha,hb⟩:=hW.nats w hw;obtain⟨x,ex,_⟩:=Lg (hex b hb);have hle:=ZG hr ex p hp (by simp at hk;exact_mod_cast hk);simp only[toNat_natCast,ex,getD_some]at hq ⊢;have:¬ x<Pl.E P a:=λz=>hq (decide_eq_true z);omega
    .intro I w hw q;have q:=of_decide_eq_true q;obtain⟨a,b,rfl,ha,hb⟩:=hW.nats w hw;obtain⟨x,ex,p,hp,hk,rfl⟩:=Lg (hex b hb);have:=I.kp _ hw p hp (by simp[hk]);simp only[toNat_natCast,ex,getD_some]at q this;omega
   .refine⟨λ_=>Af (AC ⟨_,rfl,⟨(λz=>by cases z),λI=>absurd I.dn hd⟩,_,rfl⟩),λq=>?_⟩;refine absurd (ez.mp ?_) hd;simpa using q
  .refine⟨λ_=>Af (AC ⟨_,rfl,⟨(λz=>by cases z),λI=>absurd (Mx I) hall⟩,[],by simp⟩),λh=>absurd ?_ hall⟩;simpa using h
 .rw[if_pos (by cases t<;>simp[ty]at hT ⊢)];refine⟨λ_=>Af (AC ⟨_,rfl,⟨(λz=>by cases z),λ⟨P,e,_⟩=>absurd ⟨_,e⟩ hT⟩,[],by simp⟩),λh=>by cases h⟩
def TV{k:Nat}:∀{P:List Pl.Pc},(∀q∈P,q.2.1<q.2.2)->0<=Pl.dn P k
 |[],_=>by simp[Pl.dn]
 |p::P,h=>by
  have ih:=TV (k:=k) (P:=P) λq hq=>h q (by simp[hq]);have:=h p (by simp);rw[Pl.dn];split<;>omega
def TW:∀{P:List Pl.Pc},(∀q∈P,q.2.1<q.2.2)->∀p∈P,p.2.2-p.2.1<=Pl.dn P p.1
 |[],_,p,hp=>by simp at hp
 |q::P,h,p,hp=>by
  have hq:=h q (by simp);have h':∀q∈P,q.2.1<q.2.2:=λx hx=>h x (by simp[hx]);rw[Pl.dn];rcases mem_cons.mp hp with rfl|hp
  .have:=TV (k:=p.1) h';rw[if_pos rfl];omega
  .have:=TW h' p hp;split<;>omega
def Ab(p:Pl.Pc):List Pl.Pc:=(List.range (p.2.2-p.2.1).toNat).map λi:Nat=>(p.1,p.2.1+(i:Int),p.2.1+(i:Int)+1)
def Nv(lo:Int):∀n:Nat,Ai lo n=(List.range n).map λi:Nat=>D.im (.int (lo+(i:Int))):=λn=>by
 refine ext_getElem? λi=>?_;by_cases hi:i<n
 .rw[Ft hi];simp[hi]
 .rw[List.getElem?_eq_none (by simp;omega),List.getElem?_eq_none (by simp;omega)]
def ZZ{P:List Pl.Pc}(hl:P.length<=60)(hb:∀p∈P,p.2.2-p.2.1<=20)(hs:∀p∈P,0<=p.2.1/\p.2.1<p.2.2/\p.2.2<=1860):WF EN [.im (.tup (P.map AD))] [] λd x=>d=.im (.tup ((P.flatMap Ab).map AD))/\(P.flatMap Ab).length<=1200:=by
 have len:∀Q:List Pl.Pc,(∀p∈Q,p.2.2-p.2.1<=20)->(Q.flatMap Ab).length<=20*Q.length:=λQ=>by
  induction Q with
  |nil=>intro _;simp
  |cons p Q ih=>
   intro h;have h1:=h p (by simp);have h2:=ih λx hx=>h x (by simp[hx]);rw[List.flatMap_cons,length_append,length_cons];have:(Ab p).length<=20:=by rw[Ab,length_map,length_range];omega
   omega
 unfold EN;refine Br rfl ?_;refine AB (AX (Ah (B7 (A6 ⟨Cw,A8 ?_⟩))));refine AB (Cr (CI (A3 rfl ⟨pcD P,by show some _=_;rw[KR],?_⟩)));refine CQ (λl ls hd=>∃dn rest z2 z3 z4 g,P=dn++rest/\l=pcD rest/\ls=[some (.im (.tup (P.map AD))),some (.mu 0),z2,z3,z4]/\hd=.lst (pcD (dn.flatMap Ab))::g) ⟨[],P,none,none,none,[],rfl,rfl,rfl,rfl⟩ ?_ ?_
 .rintro e r ls hd ⟨dn,rest,z2,z3,z4,g,e0,er,rfl,rfl⟩;cases rest with
  |nil=>cases er
  |cons q rest=>
   obtain⟨rfl,rfl⟩:=List.cons.inj er;have hq:q∈P:=by rw[e0];simp
   have q1:=hb q hq;have q2:=hs q hq;have ld:=len dn λp hp=>hb p (by rw[e0];simp[hp]);have dl:dn.length<=60:=by rw[e0,length_append]at hl;omega
   refine⟨_,rfl,?_⟩;change WS _ [some (.im (.tup (P.map AD))),some (.mu 0),some (.im (.int (q.1:Int))),some (.im (.int q.2.1)),some (.im (.int q.2.2))] _ _;refine Gx (KJ (A3 rfl ⟨⟨_,rfl⟩,A4 (Ah (BK (Zt (A4 (A3 rfl (A4 (A3 rfl (A6 ⟨_,_,rfl,?_,AL (by rw[Dc];omega),?_⟩))))))))⟩))
   .exact⟨by omega,by omega⟩
   dsimp only;rw[Nv];refine C3 (λi:Nat=>D.im (.int (q.2.1+(i:Int)))) (λi:Nat=>some (.im (AD (q.1,q.2.1+(i:Int),q.2.1+(i:Int)+1)))) (λ_ ls=>∃x,ls=[some x,some (.im (.int (q.1:Int)))]) _ (AU _) ?_ ?_
   .rintro i hi ls hls;refine⟨[some (.im (.int (q.2.1+(i:Int)))),some (.im (.int (q.1:Int)))],by rcases hls with rfl|⟨_,x,rfl⟩<;>rfl,⟨_,rfl⟩,CP ⟨rfl,?_⟩⟩;rw[if_pos rfl];exact⟨_,rfl,AT (A4 (A3 rfl (A4 (A3 rfl (A4 (A9 (A3 rfl (AC (BA (A6 ⟨Aq,rfl,rfl⟩))))))))))⟩
   have ed:((List.range (q.2.2-q.2.1).toNat).filterMap λi:Nat=>some (D.im (AD (q.1,q.2.1+(i:Int),q.2.1+(i:Int)+1))))=pcD (Ab q):=by
    rw[List.filterMap_eq_map',Ab,pcD,map_map];rfl
   rw[ed];have l1:(Ab q).length<=20:=by rw[Ab,length_map,length_range];omega
   refine A6 (Ol (ds:=pcD (dn.flatMap Ab)) (es:=pcD (Ab q)) rfl (by simp) (AL (by simp only[pcD,length_map];omega)) ⟨AU _,dn++[q],rest,_,_,_,g++[.lst (pcD (Ab q))],by rw[e0];simp,rfl,rfl,?_⟩);simp[pcD]
 .rintro ls hd ⟨dn,rest,z2,z3,z4,g,e0,er,rfl,rfl⟩;cases rest with
  |cons _ _=>cases er
  |nil=>
   rw[append_nil]at e0;subst e0;have:=len P hb;exact A8 (Af (BN (A4 (A3 rfl (A6 (C8 (ds:=pcD (P.flatMap Ab)) rfl rfl ⟨FT _,by omega⟩))))))
def Bv(t:Tv):Prop:=Bo (10^60+2) 80000 12 2000 t
def UR{w dp:Nat}{p:PyData}(h:OkV w dp p)(hd:PyProof.Rows.isDisplay p=true)(h1:dp<=30)(h2:w<=150000):Ie p:=by
 refine⟨h.sh,PyData.hasDict_of_canLay p h.lay,hd,le_trans h.dp h1,?_⟩;have:=PyData.shown_le 90 (by decide) p (PyData.leavesShort_of_canLay0 90 p h.lay h.it);have hw:=h.wt;rw[sizeLine_eq];omega
def Sv{n:Nat}{hd:Hd}{i j:I}{t:Tv}{d:D}(h:Is n hd t d)(hp:dep t<=29):pyN 30 hd (AK [.im i,.im j,d])=some (.tuple [i.py,j.py,pyT t]):=by
 unfold AK;cases z:B8 [D.im i,.im j,d]with
 |some is=>
  have e:=DJ z;cases d with
  |im k=>
   simp[B8]at z;subst z;show pyN 30 hd (.im _)=_;rw[Dd,I.py,I.pys,I.pys,I.pys,I.pys,Is.py h]
  |_=>simp[B8]at z
 |none=>
  show(E3 ([D.im i,.im j,d].map (L2.pyN 29 hd))).map PyData.tuple=_;rw[map_cons,map_cons,map_cons,map_nil,Dd,Dd,h.pyN hp];rfl
def Vi{n:Nat}{ps:List (Int×Int)}(hn:n<=8)(hp:∀p∈ps,∃a b:Nat,p=((a:Int),(b:Int))/\a<n/\b<n)(hl:ps.length<=16):OkP 1328 2 (I.py (wI ps)):=by
 have:=CC (is:=ps.map Cs) (w:=82) (dp:=1) (λi hi=>by
  obtain⟨p,hpp,rfl⟩:=mem_map.mp hi;obtain⟨a,b,rfl,ha,hb⟩:=hp p hpp;refine CC (is:=[.int (a:Int),.int (b:Int)]) (w:=40) (dp:=0) λi hi=>?_;simp only[mem_cons,not_mem_nil,or_false]at hi;rcases hi with rfl|rfl
  .exact Dv (by unfold sm;omega)
  .exact Dv (by unfold sm;omega))
 exact this.mono (by simp;omega) (by omega)
def okr{n:Nat}{ws:List Wk}{ps:List (Int×Int)}{t:Tv}(hn:n<=8)(hw:∀w∈ws,w.ok)(hl:ws.length<=8)(hW:Wsh n ps)(bt:Bv t):Ie (.tuple [(AY ws).py,(wI ps).py,pyT t]):=by
 have h1:=OkV.of (SL hw (by omega));have h2:=OkV.of (Vi hn hW.nats hW.len);have h3:=(bt.gd.ok (by decide)).mono bt.wt bt.dp;have:=OkV.tup (OkVs.cons (h1.mono (le_refl _) (show 5<=12 by omega)) (.cons (h2.mono (le_refl _) (show 2<=12 by omega)) (.cons h3 (OkVs.nil (w:=0)))));exact UR this rfl (by omega) (by omega)
def Tw{ws:List Wk}{W:List (Int×Int)}(E:Ew ws)(hW:Wsh ws.length W){t:Tv}{d:D}{h:Hd}{q0 q1 q2 q3 q5 q6 q7 q8 q11 q12:Option D}(hi:Is h.length h t d)(bt:Bv t):
 WS (A7 (AH 11 (mCB Cy (A1 (AI (A1 (A2 4) (A1 (A2 9) (A1 (A2 10) A5)))) A5)))
 (A7 (AH 12 (mCB Cz (A1 (Ak Cm (A1 (A2 4) (A1 (A2 9) (A1 (A2 10) A5)))) A5)))
 (A7 (B2 (AR (mOp gNe (mCB Cz (A1 (Ak DQ (A1 (A2 4) (A1 (A2 9) (A1 (A2 10) A5)))) A5)) (A2 12)))
  (Aa (mC (.bl false)))
  Ap)
 (B2 (AR (mOp gNe (mCB Cy (A1 (AI (A1 (A2 4) (A1 (A2 9) (A1 (A2 10) A5)))) A5)) (A2 11)))
  (Aa (mC (.bl false)))
  Ap)))) [q0,q1,q2,q3,some (.im (AY ws)),q5,q6,q7,q8,some (.im (wI W)),some d,q11,q12] h λf x=>∃z11 z12 g,f=.nx [q0,q1,q2,q3,some (.im (AY ws)),q5,q6,q7,q8,some (.im (wI W)),some d,z11,z12]/\x=h++g:=by
 have hdp:=bt.dp;have htl:=bt.tl;have n8:=E.n8;have ro:=okr n8 E.ok n8 hW bt;refine AB (AX (BN (A4 (AT (A4 (A3 rfl (A4 (A3 rfl (A4 (A3 rfl (A6 ⟨Aq,A6 (Kh (Sv hi (by omega)) ro (A8 ?_))⟩)))))))))));refine AB (AX (BN (A4 (B0 (A4 (A3 rfl (A4 (A3 rfl (A4 (A3 rfl (A6 ((Pv E hW hi (by omega)).mono ?_))))))))))));rintro d' x ⟨b1,rfl,hb1,g1,rfl⟩;refine A6 (Ki (A8 ?_));have hi:Is (h++g1).length (h++g1) t d:=F4 (by simp) (HF (le_refl _) hi);refine AB (Ag (AZ (A9 (BN (A4 (B0 (A4 (A3 rfl (A4 (A3 rfl (A4 (A3 rfl (A6 ((SV n8 hW hi (by omega)).mono ?_))))))))))))));rintro d' x ⟨b2,rfl,hb2,g2,rfl⟩;have eb:b1=b2:=Bool.eq_iff_iff.mpr (hb1.trans hb2.symm);subst eb;have hi:Is (h++g1++g2).length (h++g1++g2) t d:=F4 (by simp) (HF (le_refl _) hi);refine A6 (Ki (A3 rfl (Oi ⟨_,rfl,(λh=>by simp at h),λ_=>Ae (A8 ?_)⟩)));refine Ag (AZ (A9 (BN (A4 (AT (A4 (A3 rfl (A4 (A3 rfl (A4 (A3 rfl (A6 ⟨Aq,A6 (Kh (Sv hi (by omega)) ro (A3 rfl (Oi ⟨_,rfl,(λh=>by simp at h),λ_=>Ae ?_⟩)))⟩))))))))))));exact⟨_,_,g1++g2,rfl,by simp⟩
def Kf{w:Nat}:∀{us:List Tv},(∀u∈us,wt u<=w)->wts us<=us.length*w
 |[],_=>by simp[wts]
 |u::us,h=>by
  have h1:=h u (by simp);have h2:=Kf (us:=us) λv hv=>h v (by simp[hv]);rw[wts,length_cons,Nat.succ_mul];omega
section
variable{ls:Ls}{hd:Hd}{QE:D->Hd->Prop}{i j k:Nat}{d:D}{ds:List D}
def KL(h1:ls[i]?=some (some d))(hv:AN d=some ds)(h2:ls[j]?=some (some (.im (.int (k:Int)))))(hk:k<ds.length)(q:QE (AK (ds.take k)) hd):WE (Bh (A2 i) AJ (AQ (A2 j))) ls hd QE:=
 Kk (A3 h1 (DS (BU (A3 h2 ⟨_,rfl,ds,hv,by rw[sIx_nat];omega,by rw[Ix];exact q⟩))))
def L3(h1:ls[i]?=some (some d))(hv:AN d=some ds)(h2:ls[j]?=some (some (.im (.int (k:Int)))))(hk:k<ds.length)(q:QE (AK (ds.drop (k+1))) hd):WE (Bh (A2 i) (AQ (mOp AE (A2 j) (mC (.int 1)))) AJ) ls hd QE:=
 Kk (A3 h1 (BU (A9 (A3 h2 (AC (BA ⟨_,rfl,DS ⟨ds,hv,by rw[show((k:Int)+1)=((k+1:Nat):Int) by omega,sIx_nat];omega,by rw[show((k:Int)+1)=((k+1:Nat):Int) by omega,Gm];exact q⟩⟩))))))
end
def b8{n:MG}{ta:MT}{ma:ME}{g:Gd}{QA:List D->Hd->Prop}(f:D->Option D)(L:D->Ls->Prop)(l0:Ls){ds:List D}{hd:Hd}(hg:GOk hd g)
 (k:∀x∈ds,∀ls,ls=l0∨(∃d,L d ls)->∃ls1,n x ls hd=some ls1/\L x ls1/\WT ta ls1 hd λc y=>y=hd/\if c=true then ∃z,f x=some z/\WE ma ls1 hd λe y=>y=hd/\e=z else f x=none)
 (q:QA (ds.filterMap f) hd):WP (As n ta ma g ds l0 hd) QA:=by
 have:=C3 (n:=n) (ta:=ta) (ma:=ma) (λd:D=>d) f L l0 (xs:=ds) hg k q
 rwa [List.map_id']at this
def N7{N:Nat}{X:Hd}{f:D->D}{F:Tv->Tv}(hf:∀t d,Is N X t d->Is N X (F t) (f d)):∀{ts:List Tv} {ds:List D},Iss N X ts ds->Iss N X (ts.map F) (ds.map f)
 |[],ds,h=>by simp only[Iss]at h;subst h;exact .nil
 |t::ts,ds,h=>by
  simp only[Iss]at h;obtain⟨d,r,rfl,h1,h2⟩:=h;exact .cons (hf t d h1) (N7 hf h2)
def Bz(w dp:Nat)(t:Tv):Prop:=Bo (10^60) w dp 1300 t
def Bz.mono{w dp w' dp':Nat}{t:Tv}(h:Bz w dp t)(a:w<=w')(b:dp<=dp'):Bz w' dp' t:=Bo.mono h (le_refl _) a b (le_refl _)
def EK{w dp k:Nat}{us:List Tv}(h:∀u∈us,Bz w dp u)(hl:us.length<=k)(hk:k<=1300):Bz (k*w+1) (dp+1) (.tup us)/\Bz (k*w+1) (dp+1) (.lst us):=by
 have h1:=Kf (w:=w) λu hu=>(h u hu).wt;have h2:us.length*w<=k*w:=Nat.mul_le_mul_right _ hl;have h3:=Fd (k:=dp) λu hu=>(h u hu).dp;exact⟨Gs (λu hu=>(h u hu).gd) (by omega) (by omega) (by omega),M7 (λu hu=>(h u hu).gd) (by omega) (by omega) (by omega)⟩
def J0{i:Int}(h:-100000<=i/\i<=100000):Bz 19 0 (.int i):=by
 have hs:i.natAbs<=100000:=by omega
 have:=Ez hs;have l2:Nat.log2 100000=16:=by decide +kernel
 exact Fi (by omega) (by omega)
def Zf:Bz 200 0 (.int (10^50)):=Fi (by decide +kernel) (by decide +kernel)
def KZ{p:Pl.Pc}(h1:p.1<8)(h2:-10000<=p.2.1/\p.2.1<=10000)(h3:-10000<=p.2.2/\p.2.2<=10000):Bz 58 1 (pcV p):=by
 refine(EK (w:=19) (dp:=0) (k:=3) (λu hu=>?_) (by simp) (by decide)).1;simp only[mem_cons,not_mem_nil,or_false]at hu;rcases hu with rfl|rfl|rfl
 .exact J0 (by omega)
 .exact J0 (by omega)
 .exact J0 (by omega)
def BS{n:Nat}{hd:Hd}:∀P:List Pl.Pc,Iss n hd (P.map pcV) (pcD P)
 |[]=>.nil
 |p::P=>.cons (Al (AD p)) (BS P)
def WN{P:List Pl.Pc}(hl:P.length<=1200)(h:∀p∈P,p.1<8/\(-10000<=p.2.1/\p.2.1<=10000)/\-10000<=p.2.2/\p.2.2<=10000):Bz 69601 2 (.tup (P.map pcV)):=
 (EK (w:=58) (dp:=1) (k:=1200) (λu hu=>by obtain⟨p,hp,rfl⟩:=mem_map.mp hu;exact KZ (h p hp).1 (h p hp).2.1 (h p hp).2.2) (by simpa using hl) (by decide)).1
structure Kp(p n:Nat)(a b:MO)(g:Hd)(ts:List Tv)(ds:List D):Prop where
 p2:2<=p
 at':(a::b::g)[p]?=some (.lst ds)
 is:Iss (a::b::g).length (a::b::g) ts ds
 ln:ts.length<=n
 th:∀t∈ts,Bv t
def Kp.keep{p n:Nat}{a b a' b':MO}{g g':Hd}{ts:List Tv}{ds:List D}(h:Kp p n a b g ts ds):Kp p n a' b' (g++g') ts ds:=by
 refine⟨h.p2,?_,DX (by simp) (keeps (le_refl _) h.is),h.ln,h.th⟩;have e:=h.at';have p2:=h.p2;obtain⟨q,rfl⟩:∃q,p=q+2:=⟨p-2,by omega⟩
 simp only[List.getElem?_cons_succ]at e ⊢;rw[List.getElem?_append_left (List.getElem?_eq_some_iff.mp e).1,e]
def Kp.lt{p n:Nat}{a b:MO}{g:Hd}{ts:List Tv}{ds:List D}(h:Kp p n a b g ts ds):ds.length<=n:=by rw[h.is.len];exact h.ln
def Kp.new{m:Nat}{a b:MO}{g:Hd}{us:List Tv}{es:List D}(h:Iss (a::b::g).length (a::b::g) us es)(hm:us.length<=m)(ht:∀t∈us,Bv t):Kp (g.length+2) m a b (g++[.lst es]) us es:=
 ⟨by omega,by simp,DX (by simp) (keeps (le_refl _) h),hm,ht⟩
def Kp.cat{p q n m:Nat}{a b:MO}{g:Hd}{ts us:List Tv}{ds es:List D}(h:Kp p n a b g ts ds)(k:Kp q m a b g us es):Kp (g.length+2) (n+m) a b (g++[.lst (ds++es)]) (ts++us) (ds++es):=by
 refine Kp.new (h.is.app k.is) (by rw[length_append];have:=h.ln;have:=k.ln;omega) λt ht=>?_;rcases mem_append.mp ht with ht|ht
 .exact h.th t ht
 .exact k.th t ht
def Kp.mono{p n m:Nat}{a b:MO}{g:Hd}{ts:List Tv}{ds:List D}(h:Kp p n a b g ts ds)(hm:n<=m):Kp p m a b g ts ds:=⟨h.p2,h.at',h.is,le_trans h.ln hm,h.th⟩
def Kp.same{p n:Nat}{a b a' b':MO}{g:Hd}{ts:List Tv}{ds:List D}(h:Kp p n a b g ts ds):Kp p n a' b' g ts ds:=by have:=h.keep (a':=a') (b':=b') (g':=[]);rwa [append_nil]at this
def GJ{t:Tv}{w dp:Nat}(h:Bz w dp t)(hw:w<=80000)(hd:dp<=12):Bv t:=Bo.mono h (by decide) hw hd (by decide)
def ar{ws:List Wk}{W:List (Int×Int)}(E:Ew ws)(hW:Wsh ws.length W){p n:Nat}{a b:MO}{g:Hd}{ts:List Tv}{ds:List D}(K:Kp p n a b g ts ds){q0 q1 q2 q3 q5 q6 q7 q10 q11 q12:Option D}:
 WS (BO (CY (A2 8)) (AG 10)
  (A7 (AH 11 (mCB Cy (A1 (AI (A1 (A2 4) (A1 (A2 9) (A1 (A2 10) A5)))) A5)))
 (A7 (AH 12 (mCB Cz (A1 (Ak Cm (A1 (A2 4) (A1 (A2 9) (A1 (A2 10) A5)))) A5)))
 (A7 (B2 (AR (mOp gNe (mCB Cz (A1 (Ak DQ (A1 (A2 4) (A1 (A2 9) (A1 (A2 10) A5)))) A5)) (A2 12)))
  (Aa (mC (.bl false)))
  Ap)
 (B2 (AR (mOp gNe (mCB Cy (A1 (AI (A1 (A2 4) (A1 (A2 9) (A1 (A2 10) A5)))) A5)) (A2 11)))
  (Aa (mC (.bl false)))
  Ap))))) [q0,q1,q2,q3,some (.im (AY ws)),q5,q6,q7,some (.mu p),some (.im (wI W)),q10,q11,q12] (a::b::g) λf x=>∃z10 z11 z12 g',f=.nx [q0,q1,q2,q3,some (.im (AY ws)),q5,q6,q7,some (.mu p),some (.im (wI W)),z10,z11,z12]/\x=a::b::(g++g'):=by
 refine Cr (JA (A3 rfl ⟨p,ds,rfl,K.at',?_⟩));refine CQ (λl ls hd=>∃tr gg z10 z11 z12,ls=[q0,q1,q2,q3,some (.im (AY ws)),q5,q6,q7,some (.mu p),some (.im (wI W)),z10,z11,z12]/\hd=a::b::(g++gg)/\Iss hd.length hd tr l/\∀t∈tr,Bv t) ⟨ts,[],_,_,_,rfl,by simp,K.is,K.th⟩ ?_ ?_
 .rintro d r ls hd ⟨tr,gg,z10,z11,z12,rfl,rfl,hs,hb⟩;cases tr with
  |nil=>simp only[Iss]at hs;cases hs
  |cons t tr=>
   simp only[Iss]at hs;obtain⟨d',r',e,hi,hs⟩:=hs;obtain⟨rfl,rfl⟩:=List.cons.inj e;refine⟨_,rfl,?_⟩;dsimp only[set_cons_zero,set_cons_succ];refine WP.mono (Tw E hW hi (hb t (by simp))) ?_;rintro f x ⟨z11,z12,g6,rfl,rfl⟩;refine⟨λq hq=>?_,tr,gg++g6,_,_,_,rfl,by simp,DX (by simp) (Hq (le_refl _) hs),λu hu=>hb u (by simp[hu])⟩;rw[mem_singleton]at hq;subst hq;have:=(K.keep (a':=a) (b':=b) (g':=gg++g6)).at';simpa using this
 .rintro ls hd ⟨tr,gg,z10,z11,z12,rfl,rfl,hs,hb⟩;exact⟨_,_,_,gg,rfl,rfl⟩
structure Kb(B:Tv->Prop)(p n:Nat)(a b:MO)(g:Hd)(ts:List Tv)(ds:List D):Prop where
 p2:2<=p
 at':(a::b::g)[p]?=some (.lst ds)
 is:Iss (a::b::g).length (a::b::g) ts ds
 ln:ts.length<=n
 th:∀t∈ts,B t
def Kb.keep{B:Tv->Prop}{p n:Nat}{a b a' b':MO}{g g':Hd}{ts:List Tv}{ds:List D}(h:Kb B p n a b g ts ds):Kb B p n a' b' (g++g') ts ds:=by
 refine⟨h.p2,?_,DX (by simp) (keeps (le_refl _) h.is),h.ln,h.th⟩;have e:=h.at';have p2:=h.p2;obtain⟨q,rfl⟩:∃q,p=q+2:=⟨p-2,by omega⟩
 simp only[List.getElem?_cons_succ]at e ⊢;rw[List.getElem?_append_left (List.getElem?_eq_some_iff.mp e).1,e]
def Kb.lt{B:Tv->Prop}{p n:Nat}{a b:MO}{g:Hd}{ts:List Tv}{ds:List D}(h:Kb B p n a b g ts ds):ds.length<=n:=by rw[h.is.len];exact h.ln
def Kb.new{B:Tv->Prop}{m:Nat}{a b:MO}{g:Hd}{us:List Tv}{es:List D}(h:Iss (a::b::g).length (a::b::g) us es)(hm:us.length<=m)(ht:∀t∈us,B t):Kb B (g.length+2) m a b (g++[.lst es]) us es:=
 ⟨by omega,by simp,DX (by simp) (keeps (le_refl _) h),hm,ht⟩
def Kb.cat{B:Tv->Prop}{p q n m:Nat}{a b:MO}{g:Hd}{ts us:List Tv}{ds es:List D}(h:Kb B p n a b g ts ds)(k:Kb B q m a b g us es):Kb B (g.length+2) (n+m) a b (g++[.lst (ds++es)]) (ts++us) (ds++es):=by
 refine Kb.new (h.is.app k.is) (by rw[length_append];have:=h.ln;have:=k.ln;omega) λt ht=>?_;rcases mem_append.mp ht with ht|ht
 .exact h.th t ht
 .exact k.th t ht
def Kb.mono{B:Tv->Prop}{p n m:Nat}{a b:MO}{g:Hd}{ts:List Tv}{ds:List D}(h:Kb B p n a b g ts ds)(hm:n<=m):Kb B p m a b g ts ds:=⟨h.p2,h.at',h.is,le_trans h.ln hm,h.th⟩
def Kb.same{B:Tv->Prop}{p n:Nat}{a b a' b':MO}{g:Hd}{ts:List Tv}{ds:List D}(h:Kb B p n a b g ts ds):Kb B p n a' b' g ts ds:=by have:=h.keep (a':=a') (b':=b') (g':=[]);rwa [append_nil]at this
def Cj{x y z:I}(hx:Bz 200 0 (ofI x))(hy:Bz 200 0 (ofI y))(hz:Bz 200 0 (ofI z)):Bz 801 1 (ofI (.tup [x,y,z])):=by
 refine(EK (w:=200) (dp:=0) (k:=4) (us:=[ofI x,ofI y,ofI z]) (λu hu=>?_) (by simp) (by decide)).1;simp only[mem_cons,not_mem_nil,or_false]at hu;rcases hu with rfl|rfl|rfl<;>assumption
def CL{i:Int}(h:-100000<=i/\i<=100000):Bz 200 0 (ofI (.int i)):=(J0 h).mono (by decide) (by decide)
def Zh{b:Bool}:Bz 200 0 (ofI (.bl b)):=Oc (by decide)
def bz_n:Bz 200 0 (ofI .non):=Qa (by decide)
abbrev Lq(ws:List Wk)(P:List Pl.Pc)(j:Nat)(w:Nat)(s e:Int)(o:Pl.Pc)(z8 z9 z10 z11 z12 z13:Option D):Ls:=[some (.mu 1),some (.im (AY ws)),some (.im (.tup (P.map AD))),some (.im (.int (j:Int))),some (.im (.int (w:Int))),some (.im (.int s)),some (.im (.int e)),some (.im (AD o)),z8,z9,z10,z11,z12,z13]
def W3{ws:List Wk}(h1:1<=ws.length)(n8:ws.length<=8){P:List Pl.Pc}{j w:Nat}{s e:Int}{o:Pl.Pc}(hw:w<8)(hs:0<=s/\s<=5000)(he:0<=e/\e<=5000)(ho:o.1<8/\(0<=o.2.1/\o.2.1<=5000)/\0<=o.2.2/\o.2.2<=5000){a b:MO}{g:Hd}(hT:T 0 a b){R:MS}{Q:Fl->Hd->Prop}{z8 z9 z10 z11 z12 z13:Option D}
 (k:∀p a b g' ts ds,T 0 a b->Kb (Bz 801 1) p 30 a b (g++g') ts ds->WS R (Lq ws P j w s e o (some (.mu p)) z9 z10 z11 z12 z13) (a::b::(g++g')) Q):
 WS (A7 (AH 8 (AO (AV (A1 (AI (A1 (A2 4) (A1 (A2 5) (A1 (mOp AE (A2 6) (mC (.int 1))) A5)))) (A1 (AI (A1 (A2 4) (A1 (A2 5) (A1 (mOp B3 (A2 6) (mC (.int 1))) A5)))) (A1 (AI (A1 (A2 4) (A1 (mOp B3 (A2 5) (mC (.int 1))) (A1 (A2 6) A5)))) (A1 (AI (A1 (A2 4) (A1 (mOp AE (A2 5) (mC (.int 1))) (A1 (A2 6) A5)))) (A1 (A2 7) A5))))))))
 (A7 (AH 8 (AO (Bn (A2 8) (AO (AV (A1 (AI (A1 (A2 4) (A1 (mOp B3 (A2 5) (mC (.int 1))) (A1 (mOp B3 (A2 6) (mC (.int 1))) A5)))) (A1 (AI (A1 (A2 4) (A1 (mOp AE (A2 5) (mC (.int 1))) (A1 (mOp AE (A2 6) (mC (.int 1))) A5)))) (A1 (AI (A1 (AA 2 F_pick (A1 (A2 0) (A1 (mCB (f1 true BI) (A1 (A2 1) A5)) A5))) (A1 (A2 5) (A1 (A2 6) A5)))) A5))))))))
 R)) (Lq ws P j w s e o z8 z9 z10 z11 z12 z13) (a::b::g) Q:=by
 have bw:Bz 200 0 (ofI (.int (w:Int))):=CL (by omega);have bs:∀i:Int,-1<=i->i<=1->Bz 200 0 (ofI (.int (s+i))):=λi _ _=>CL (by omega);have be:∀i:Int,-1<=i->i<=1->Bz 200 0 (ofI (.int (e+i))):=λi _ _=>CL (by omega);have bo:Bz 801 1 (ofI (AD o)):=(KZ (p:=o) ho.1 (by omega) (by omega)).mono (by decide) (by decide);have bs0:Bz 200 0 (ofI (.int s)):=CL (by omega);have be0:Bz 200 0 (ofI (.int e)):=CL (by omega);have bs1:Bz 200 0 (ofI (.int (s-1))):=CL (by omega);have be1:Bz 200 0 (ofI (.int (e-1))):=CL (by omega);have hlw:((ws.map Aj).map D.im).length=ws.length:=by simp
 refine AB (AX (Ah (B7 (A4 (AT (A4 (A3 rfl (A4 (A3 rfl (A4 (A9 (A3 rfl (AC (BA (A6 ⟨Aq,?_⟩)))))))))))))));refine A4 (AT (A4 (A3 rfl (A4 (A3 rfl (A4 (A9 (A3 rfl (AC (CB (A6 ⟨Aq,?_⟩)))))))))));refine A4 (AT (A4 (A3 rfl (A4 (A9 (A3 rfl (AC (CB (A4 (A3 rfl (A6 ⟨Aq,?_⟩)))))))))));refine A4 (AT (A4 (A3 rfl (A4 (A9 (A3 rfl (AC (BA (A4 (A3 rfl (A6 ⟨Aq,?_⟩)))))))))));refine A4 (A3 rfl (A6 ⟨AL (by simp),A8 ?_⟩));have N:=Kb.new (B:=Bz 801 1) (a:=a) (b:=b) (g:=g) (m:=5) (EH [.tup [.int (w:Int),.int s,.int (e+1)],.tup [.int (w:Int),.int s,.int (e-1)],.tup [.int (w:Int),.int (s-1),.int e],.tup [.int (w:Int),.int (s+1),.int e],AD o]) (by simp[CD]) (λt ht=>by
  simp only[CD,mem_cons,not_mem_nil,or_false]at ht;rcases ht with rfl|rfl|rfl|rfl|rfl
  .exact Cj bw bs0 (be 1 (by omega) (by omega))
  .exact Cj bw bs0 be1
  .exact Cj bw bs1 be0
  .exact Cj bw (bs 1 (by omega) (by omega)) be0
  .exact bo)
 generalize eT:CD [.tup [.int (w:Int),.int s,.int (e+1)],.tup [.int (w:Int),.int s,.int (e-1)],.tup [.int (w:Int),.int (s-1),.int e],.tup [.int (w:Int),.int (s+1),.int e],AD o]=T0 at N;change WS _ (Lq ws P j w s e o (some (.mu (g.length+2))) z9 z10 z11 z12 z13) (a::b::(g++[.lst (List.map D.im [.tup [.int (w:Int),.int s,.int (e+1)],.tup [.int (w:Int),.int s,.int (e-1)],.tup [.int (w:Int),.int (s-1),.int e],.tup [.int (w:Int),.int (s+1),.int e],AD o])])) _;generalize List.map D.im _=A0 at N;refine AB (AX (Ah (DV (A3 rfl (Ah (B7 (A4 (AT (A4 (A3 rfl (A4 (A9 (A3 rfl (AC (CB (A4 (A9 (A3 rfl (AC (CB (A6 ⟨Aq,?_⟩)))))))))))))))))))));refine A4 (AT (A4 (A3 rfl (A4 (A9 (A3 rfl (AC (BA (A4 (A9 (A3 rfl (AC (BA (A6 ⟨Aq,?_⟩))))))))))))));refine A4 (AT (A4 (EZ (A4 (A3 rfl (A4 (BN (A4 (A3 rfl (A6 (C8 (ds:=(ws.map Aj).map D.im) rfl rfl (A6 ⟨a,b,g++[.lst A0],(((ws.map Aj).map D.im).length:Int),rfl,rfl,hT,by omega,by omega,λr a b hT p q=>?_⟩))))))))))));refine A4 (A3 rfl (A4 (A3 rfl (A6 ⟨Aq,A6 ⟨AL (by simp),?_⟩⟩))));have N:=N.same (a':=a) (b':=b);have N2:=Kb.new (B:=Bz 801 1) (a:=a) (b:=b) (g:=g++[.lst A0]) (m:=3) (EH [.tup [.int (w:Int),.int (s-1),.int (e-1)],.tup [.int (w:Int),.int (s+1),.int (e+1)],.tup [.int r,.int s,.int e]]) (by simp[CD]) (λt ht=>by
  simp only[CD,mem_cons,not_mem_nil,or_false]at ht;rcases ht with rfl|rfl|rfl
  .exact Cj bw bs1 be1
  .exact Cj bw (bs 1 (by omega) (by omega)) (be 1 (by omega) (by omega))
  .exact Cj (CL (by omega)) bs0 be0)
 have N:=N.keep (a':=a) (b':=b) (g':=[.lst (List.map D.im [.tup [.int (w:Int),.int (s-1),.int (e-1)],.tup [.int (w:Int),.int (s+1),.int (e+1)],.tup [.int r,.int s,.int e]])]);refine⟨g.length+2,(g++[MO.lst A0]).length+2,A0,_,rfl,rfl,N.at',N2.at',AL (by have:=N.lt;simp;omega),A8 ?_⟩;have N:=(N.cat N2).mono (show 5+3<=30 by decide);have:=k _ a b _ _ _ hT (by
  have N:=N;rw[append_assoc g,append_assoc g]at N;exact N)
 simpa using this
def Sm{is:List I}(h:∀i∈is,Bz 200 0 (ofI i))(hl:is.length<=4):Bz 801 1 (ofI (.tup is))/\Bz 801 1 (.lst (CD is)):=by
 have:=EK (w:=200) (dp:=0) (k:=4) (us:=CD is) (λu hu=>by rw[Ex]at hu;obtain⟨i,hi,rfl⟩:=mem_map.mp hu;exact h i hi) (by rw[Ex];simpa using hl) (by decide);exact this
section
variable{ws:List Wk}{P:List Pl.Pc}{j w:Nat}{s e:Int}{o:Pl.Pc}{a b:MO}{g:Hd}{R:MS}{Q:Fl->Hd->Prop}{z9 z10 z11 z12 z13:Option D}{p:Nat}{ts:List Tv}{ds:List D}
def X8(hw:w<8)(hs:0<=s/\s<=5000)(he:0<=e/\e<=5000)(K:Kb (Bz 801 1) p 30 a b g ts ds)
 (k:∀p g' ts ds,Kb (Bz 801 1) p 40 a b (g++g') ts ds->WS R (Lq ws P j w s e o (some (.mu p)) z9 z10 z11 z12 z13) (a::b::(g++g')) Q):
 WS (A7 (AH 8 (AO (Bn (A2 8) (AO (AV (A1 (AI (A1 (A2 4) (A1 (A2 5) (A1 (A2 5) A5)))) (A1 (AI (A1 (A2 4) (A1 (A2 6) (A1 (A2 5) A5)))) (A1 (AO (AV (A1 (A2 4) (A1 (A2 5) (A1 (A2 6) A5))))) (A1 (AI (A1 (A2 4) (A1 (A2 5) A5))) (A1 (AI (A1 (A2 4) (A1 (A2 5) (A1 (A2 6) (A1 (A2 6) A5))))) A5))))))))))
 R) (Lq ws P j w s e o (some (.mu p)) z9 z10 z11 z12 z13) (a::b::g) Q:=by
 have bw:Bz 200 0 (ofI (.int (w:Int))):=CL (by omega);have bs:Bz 200 0 (ofI (.int s)):=CL (by omega);have be:Bz 200 0 (ofI (.int e)):=CL (by omega);refine AB (AX (Ah (DV (A3 rfl (Ah (B7 (A4 (AT (A4 (A3 rfl (A4 (A3 rfl (A4 (A3 rfl (A6 ⟨Aq,?_⟩)))))))))))))));refine A4 (AT (A4 (A3 rfl (A4 (A3 rfl (A4 (A3 rfl (A6 ⟨Aq,?_⟩))))))));refine A4 (Ah (B7 (A4 (A3 rfl (A4 (A3 rfl (A4 (A3 rfl (A6 ⟨AL (by simp),?_⟩)))))))));refine A4 (AT (A4 (A3 rfl (A4 (A3 rfl (A6 ⟨EI,?_⟩))))));refine A4 (AT (A4 (A3 rfl (A4 (A3 rfl (A4 (A3 rfl (A4 (A3 rfl (A6 ⟨ZJ,A6 ⟨AL (by simp),?_⟩⟩))))))))));have K:=K.keep (a':=a) (b':=b) (g':=[.lst [.im (.int (w:Int)),.im (.int s),.im (.int e)]]);have N:=Kb.new (B:=Bz 801 1) (a:=a) (b:=b) (g:=g++[.lst [.im (.int (w:Int)),.im (.int s),.im (.int e)]]) (m:=5) (us:=[ofI (.tup [.int (w:Int),.int s,.int s]),ofI (.tup [.int (w:Int),.int e,.int s]),.lst (CD [.int (w:Int),.int s,.int e]),ofI (.tup [.int (w:Int),.int s]),ofI (.tup [.int (w:Int),.int s,.int e,.int e])]) (es:=[.im (.tup [.int (w:Int),.int s,.int s]),.im (.tup [.int (w:Int),.int e,.int s]),.mu (g.length+2),.im (.tup [.int (w:Int),.int s]),.im (.tup [.int (w:Int),.int s,.int e,.int e])]) (by
  refine .cons (Al _) (.cons (Al _) (.cons ?_ (.cons (Al _) (.one (Al _)))));simp only[Is];exact⟨g.length+2,_,rfl,by omega,by simp,by simp,EH [.int (w:Int),.int s,.int e]⟩) (by simp) (λt ht=>by
  simp only[mem_cons,not_mem_nil,or_false]at ht;rcases ht with rfl|rfl|rfl|rfl|rfl
  .exact Cj bw bs bs
  .exact Cj bw be bs
  .refine(Sm (λi hi=>?_) (by simp)).2;simp only[mem_cons,not_mem_nil,or_false]at hi;rcases hi with rfl|rfl|rfl<;>assumption
  .refine(Sm (λi hi=>?_) (by simp)).1;simp only[mem_cons,not_mem_nil,or_false]at hi;rcases hi with rfl|rfl<;>assumption
  .refine(Sm (λi hi=>?_) (by simp)).1;simp only[mem_cons,not_mem_nil,or_false]at hi;rcases hi with rfl|rfl|rfl|rfl<;>assumption)
 have K:=K.keep (a':=a) (b':=b) (g':=[.lst [.im (.tup [.int (w:Int),.int s,.int s]),.im (.tup [.int (w:Int),.int e,.int s]),.mu (g.length+2),.im (.tup [.int (w:Int),.int s]),.im (.tup [.int (w:Int),.int s,.int e,.int e])]]);refine⟨p,(g++[MO.lst [.im (.int (w:Int)),.im (.int s),.im (.int e)]]).length+2,ds,_,rfl,rfl,K.at',N.at',AL (by have:=K.lt;simp;omega),A8 ?_⟩;have N:=(K.cat N).mono (show 30+5<=40 by decide);have:=k _ _ _ _ (by
  have N:=N;rw[append_assoc g,append_assoc g]at N;exact N)
 simpa using this
def X7(hw:w<8)(hn:ws.length<=8)(hs:0<=s/\s<=5000)(he:0<=e/\e<=5000)(K:Kb (Bz 801 1) p 40 a b g ts ds)
 (k:∀p g' ts ds,Kb (Bz 801 1) p 50 a b (g++g') ts ds->WS R (Lq ws P j w s e o (some (.mu p)) z9 z10 z11 z12 z13) (a::b::(g++g')) Q):
 WS (A7 (AH 8 (AO (Bn (A2 8) (AO (AV (A1 (AI (A1 (mOp gEq (A2 4) (mC (.int 1))) (A1 (A2 5) (A1 (A2 6) A5)))) (A1 (AI (A1 (A2 4) (A1 (mOp gEq (A2 5) (mC (.int 0))) (A1 (A2 6) A5)))) (A1 (AI (A1 (mCB (f1 true BI) (A1 (A2 1) A5)) (A1 (A2 5) (A1 (A2 6) A5)))) (A1 (AI (A1 (C7 (mC (.int 1))) (A1 (A2 5) (A1 (A2 6) A5)))) (A1 (mC .non) A5))))))))))
 R) (Lq ws P j w s e o (some (.mu p)) z9 z10 z11 z12 z13) (a::b::g) Q:=by
 have bw:Bz 200 0 (ofI (.int (w:Int))):=CL (by omega);have bs:Bz 200 0 (ofI (.int s)):=CL (by omega);have be:Bz 200 0 (ofI (.int e)):=CL (by omega);refine AB (AX (Ah (DV (A3 rfl (Ah (B7 (A4 (AT (A4 (A9 (A3 rfl (AC (EA (A4 (A3 rfl (A4 (A3 rfl (A6 ⟨Aq,?_⟩))))))))))))))))));refine A4 (AT (A4 (A3 rfl (A4 (A9 (A3 rfl (AC (EA (A4 (A3 rfl (A6 ⟨Aq,?_⟩)))))))))));refine A4 (AT (A4 (BN (A4 (A3 rfl (A6 (C8 (ds:=(ws.map Aj).map D.im) rfl rfl (A4 (A3 rfl (A4 (A3 rfl (A6 ⟨Aq,?_⟩))))))))))));refine A4 (AT (A4 (DU (AC ⟨_,rfl,A4 (A3 rfl (A4 (A3 rfl (A6 ⟨Aq,A4 (AC (A6 ⟨AL (by simp),?_⟩))⟩))))⟩))));rw[show(((ws.map Aj).map D.im).length:Int)=(ws.length:Int) by simp];have N:=Kb.new (B:=Bz 801 1) (a:=a) (b:=b) (g:=g) (m:=5) (EH [.tup [.bl (decide ((w:Int)=1)),.int s,.int e],.tup [.int (w:Int),.bl (decide (s=0)),.int e],.tup [.int (ws.length:Int),.int s,.int e],.tup [.int (-1),.int s,.int e],.non]) (by simp[CD]) (λt ht=>by
  simp only[CD,mem_cons,not_mem_nil,or_false]at ht;rcases ht with rfl|rfl|rfl|rfl|rfl
  .exact Cj Zh bs be
  .exact Cj bw Zh be
  .exact Cj (CL (by omega)) bs be
  .exact Cj (CL (by omega)) bs be
  .exact bz_n.mono (by decide) (by decide))
 have K:=K.keep (a':=a) (b':=b) (g':=[.lst (List.map D.im [.tup [.bl (decide ((w:Int)=1)),.int s,.int e],.tup [.int (w:Int),.bl (decide (s=0)),.int e],.tup [.int (ws.length:Int),.int s,.int e],.tup [.int (-1),.int s,.int e],.non])]);refine⟨p,g.length+2,ds,_,rfl,rfl,K.at',N.at',AL (by have:=K.lt;simp;omega),A8 ?_⟩;have N:=(K.cat N).mono (show 40+5<=50 by decide);have:=k _ _ _ _ (by
  have N:=N;rw[append_assoc g]at N;exact N)
 simpa using this
def X6(hw:w<8)(hs:0<=s/\s<=5000)(he:0<=e/\e<=5000)(K:Kb (Bz 801 1) p 50 a b g ts ds)
 (k:∀p g' ts ds,Kb (Bz 801 1) p 60 a b (g++g') ts ds->WS R (Lq ws P j w s e o (some (.mu p)) z9 z10 z11 z12 z13) (a::b::(g++g')) Q):
 WS (A7 (AH 8 (AO (Bn (A2 8) (AO (AV (A1 (AI (A1 (A2 4) (A1 (A2 5) (A1 (mOp Gg (mC (.int 10)) (mC (.int 50))) A5)))) (A1 (AI (A1 (A2 4) (A1 (mC .non) (A1 (A2 6) A5)))) (A1 (AI (A1 (mCB ER (A1 (A2 4) A5)) (A1 (A2 5) (A1 (A2 6) A5)))) (A1 (AI (A1 (A2 5) (A1 (A2 4) (A1 (A2 6) A5)))) A5)))))))))
 R) (Lq ws P j w s e o (some (.mu p)) z9 z10 z11 z12 z13) (a::b::g) Q:=by
 have bw:Bz 200 0 (ofI (.int (w:Int))):=CL (by omega);have bs:Bz 200 0 (ofI (.int s)):=CL (by omega);have be:Bz 200 0 (ofI (.int e)):=CL (by omega);have lg:(w:Int).natAbs.log2<1920:=by
  have:=Ez (show(w:Int).natAbs<=100000 by omega);have l2:Nat.log2 100000=16:=by decide +kernel
  omega
 have bt:Bz 200 0 (ofI (.str (Str.ofString (toString (w:Int))))):=by
  refine EM (NN _) ?_;have:=N1 (i:=(w:Int)) (by omega);omega
 refine AB (AX (Ah (DV (A3 rfl (Ah (B7 (A4 (AT (A4 (A3 rfl (A4 (A3 rfl (A4 (A9 (AC (AC (Ma (k:=50) (by decide) (A6 ⟨Aq,?_⟩))))))))))))))))));refine A4 (AT (A4 (A3 rfl (A4 (AC (A4 (A3 rfl (A6 ⟨Aq,?_⟩))))))));refine A4 (AT (A4 (BN (A4 (A3 rfl (A6 (MZ lg (A4 (A3 rfl (A4 (A3 rfl (A6 ⟨Aq,?_⟩))))))))))));refine A4 (AT (A4 (A3 rfl (A4 (A3 rfl (A4 (A3 rfl (A6 ⟨Aq,A6 ⟨AL (by simp),?_⟩⟩))))))));have N:=Kb.new (B:=Bz 801 1) (a:=a) (b:=b) (g:=g) (m:=4) (EH [.tup [.int (w:Int),.int s,.int (10^50)],.tup [.int (w:Int),.non,.int e],.tup [.str (Str.ofString (toString (w:Int))),.int s,.int e],.tup [.int s,.int (w:Int),.int e]]) (by simp[CD]) (λt ht=>by
  simp only[CD,mem_cons,not_mem_nil,or_false]at ht;rcases ht with rfl|rfl|rfl|rfl
  .exact Cj bw bs Zf
  .exact Cj bw bz_n be
  .exact Cj bt bs be
  .exact Cj bs bw be)
 have K:=K.keep (a':=a) (b':=b) (g':=[.lst (List.map D.im [.tup [.int (w:Int),.int s,.int (10^50)],.tup [.int (w:Int),.non,.int e],.tup [.str (Str.ofString (toString (w:Int))),.int s,.int e],.tup [.int s,.int (w:Int),.int e]])]);refine⟨p,g.length+2,ds,_,rfl,rfl,K.at',N.at',AL (by have:=K.lt;simp;omega),A8 ?_⟩;have N:=(K.cat N).mono (show 50+4<=60 by decide);have:=k _ _ _ _ (by
  have N:=N;rw[append_assoc g]at N;exact N)
 simpa using this
end
open PySem L2 Bd An
def pv(P:List Pl.Pc):AN (.im (.tup (P.map AD)))=some (pcD P):=by show some _=_;rw[KR]
section
variable{ls:Ls}{hd:Hd}{QE:D->Hd->Prop}{i j k:Nat}{d:D}{ds:List D}
def Wt(h1:ls[i]?=some (some d))(hv:AN d=some ds)(h2:ls[j]?=some (some (.im (.int (k:Int)))))(q:QE (AK (ds.take (k+1))) hd):WE (Ay (A2 i) AJ (AQ (mOp AE (A2 j) (mC (.int 1))))) ls hd QE:=
 DT (A3 h1 (DS (BU (A9 (A3 h2 (AC (BA ⟨_,rfl,ds,hv,by rw[show((k:Int)+1)=((k+1:Nat):Int) by omega,Ix];exact q⟩)))))))
def Zy(h1:ls[i]?=some (some d))(hv:AN d=some ds)(h2:ls[j]?=some (some (.im (.int (k:Int)))))(q:QE (AK (ds.drop k)) hd):WE (Ay (A2 i) (AQ (A2 j)) AJ) ls hd QE:=
 DT (A3 h1 (BU (A3 h2 ⟨_,rfl,DS ⟨ds,hv,by rw[Gm];exact q⟩⟩)))
def Wu(h1:ls[i]?=some (some d))(hv:AN d=some ds)(h2:ls[j]?=some (some (.im (.int (k:Int)))))(q:QE (AK ((ds.drop k).take 2)) hd):WE (Ay (A2 i) (AQ (A2 j)) (AQ (mOp AE (A2 j) (mC (.int 2))))) ls hd QE:=
 DT (A3 h1 (BU (A3 h2 ⟨_,rfl,BU (A9 (A3 h2 (AC (BA ⟨_,rfl,ds,hv,by rw[show((k:Int)+2)=((k+2:Nat):Int) by omega,NG _ k (k+2) rfl];exact q⟩))))⟩)))
def Wl(h1:ls[i]?=some (some d))(hv:AN d=some ds)(h2:ls[j]?=some (some (.im (.int (k:Int)))))(hk:k<ds.length)(q:QE (AK (ds.drop (k+2))) hd):WE (Bh (A2 i) (AQ (mOp AE (A2 j) (mC (.int 2)))) AJ) ls hd QE:=
 Kk (A3 h1 (BU (A9 (A3 h2 (AC (BA ⟨_,rfl,DS ⟨ds,hv,by rw[show((k:Int)+2)=((k+2:Nat):Int) by omega,sIx_nat];omega,by rw[show((k:Int)+2)=((k+2:Nat):Int) by omega,Gm];exact q⟩⟩))))))
end
structure Pb(P:List Pl.Pc):Prop where
 n60:P.length<=60
 b:∀p∈P,p.1<8/\0<=p.2.1/\p.2.1<p.2.2/\p.2.2<=1860
 d:∀p∈P,p.2.2-p.2.1<=20
def Pb.el{P:List Pl.Pc}(h:Pb P):∀t∈P.map pcV,Bz 58 1 t:=λt ht=>by
 obtain⟨p,hp,rfl⟩:=mem_map.mp ht;have:=h.b p hp;exact KZ (by omega) (by omega) (by omega)
def EL{ts:List Tv}(h:∀t∈ts,Bz 801 1 t)(hl:ts.length<=70):Bv (.tup ts)/\Bv (.lst ts):=by
 have:=EK (w:=801) (dp:=1) (k:=70) h hl (by decide);exact⟨GJ this.1 (by decide) (by decide),GJ this.2 (by decide) (by decide)⟩
def Pb.cut{P:List Pl.Pc}(h:Pb P)(L:List Tv)(hL:∀t∈L,t∈P.map pcV):∀t∈L,Bz 801 1 t:=λt ht=>(h.el t (hL t ht)).mono (by decide) (by decide)
structure Kq(n:Nat)(H0:Hd)(ts:List Tv)(L:List D):Prop where
 is:Iss H0.length H0 ts L
 ln:ts.length<=n
 th:∀t∈ts,Bv t
def Kq.put{n:Nat}{H0:Hd}{ts:List Tv}{L:List D}{t:Tv}{d:D}(K:Kq n H0 ts L)(h:Is H0.length H0 t d)(b:Bv t):Kq (n+1) H0 (ts++[t]) (L++[d]):=
 ⟨K.is.app (.one h),by rw[length_append,length_singleton];have:=K.ln;omega,λu hu=>by
  rcases mem_append.mp hu with hu|hu
  .exact K.th u hu
  .rw[mem_singleton]at hu;subst hu;exact b⟩
def Kq.lt{n:Nat}{H0:Hd}{ts:List Tv}{L:List D}(K:Kq n H0 ts L):L.length<=n:=by rw[K.is.len];exact K.ln
section
variable{ws:List Wk}{P:List Pl.Pc}{j w:Nat}{s e:Int}{o:Pl.Pc}{a b:MO}{g:Hd}{R:MS}{Q:Fl->Hd->Prop}{z8 z9 z10 z11 z12 z13:Option D}{p:Nat}{ts:List Tv}{ds F:List D}
def Zc(hP:Pb P)(hj:j<P.length)(K:Kb (Bz 801 1) p 60 a b g ts ds)
 (k:∀F ts,Kq 60 (a::b::g) ts F->WS R (Lq ws P j w s e o (some (.mu p)) (some (.mu (g.length+2))) z10 z11 z12 z13) (a::b::(g++[.lst F])) Q):
 WS (A7 (AH 9 (AO (B5 1 [2,3] (CY (A2 8)) (AG 0) Bc (mOp AE (mOp BC (Bh (A2 1) AJ (AQ (A2 2))) (AI (A1 (A2 0) A5))) (Bh (A2 1) (AQ (mOp AE (A2 2) (mC (.int 1)))) AJ)))))
 R) (Lq ws P j w s e o (some (.mu p)) z9 z10 z11 z12 z13) (a::b::g) Q:=by
 have G:GOk (a::b::g) [(p,ds)]:=λq hq=>by
  rw[mem_singleton]at hq;subst hq;exact K.at'
 have hlD:(pcD P).length=P.length:=by simp
 have n60:=hP.n60;have hjD:j<(pcD P).length:=by omega
 have t1:((pcD P).take j).length<=60:=by rw[length_take];omega
 have t2:((pcD P).drop (j+1)).length<=60:=by rw[length_drop];omega
 refine AB (AX (Ah (BK (JA (A3 rfl ⟨p,ds,rfl,K.at',AL (by have:=K.lt;dsimp only;omega),?_⟩)))));refine b8 (λd=>some (AK ((pcD P).take j++[d]++(pcD P).drop (j+1)))) (λ_ ls=>∃x,ls=[some x,some (.im (.tup (P.map AD))),some (.im (.int (j:Int)))]) _ G ?_ ?_
 .rintro d hd ls hls;refine⟨[some d,some (.im (.tup (P.map AD))),some (.im (.int (j:Int)))],by rcases hls with rfl|⟨_,x,rfl⟩<;>rfl,⟨_,rfl⟩,CP ⟨rfl,?_⟩⟩;rw[if_pos rfl];exact⟨_,rfl,A9 (A9 (KL (j:=2) rfl (pv P) rfl hjD (AT (A4 (A3 rfl (A6 ⟨CG,Bk (AF _) (AF _) (by simp only[length_singleton];omega) (L3 (j:=2) rfl (pv P) rfl hjD (FM (AF _) (AF _) (by simp) (by simp only[length_append,length_singleton];omega) ⟨rfl,rfl⟩))⟩))))))⟩
 rw[List.filterMap_eq_map'];have:=k (ds.map λd=>AK ((pcD P).take j++[d]++(pcD P).drop (j+1))) (ts.map λt=>.tup ((P.map pcV).take j++[t]++(P.map pcV).drop (j+1))) ⟨N7 (λt d hi=>((((BS P).take j).app (.one hi)).app ((BS P).drop (j+1))).tup) K.is,by simpa using K.ln,λt ht=>by
  obtain⟨u,hu,rfl⟩:=mem_map.mp ht;refine(EL (λv hv=>?_) ?_).1
  .rcases mem_append.mp hv with hv|hv
   .rcases mem_append.mp hv with hv|hv
    .exact hP.cut _ (λt ht=>mem_of_mem_take ht) v hv
    .rw[mem_singleton]at hv;subst hv;exact K.th _ hu
   .exact hP.cut _ (λt ht=>mem_of_mem_drop ht) v hv
  .simp only[length_append,length_take,length_drop,length_map,length_singleton];omega⟩
 refine A8 ?_;simpa using this
def ZI(hP:Pb P)(hj:j<P.length)(K:Kq 60 (a::b::g) ts F)
 (k:∀g' ts L,Kq 65 (a::b::(g++g')) ts L->WS R (Lq ws P j w s e o z8 (some (.mu (a::b::(g++g')).length)) z10 z11 z12 z13) (a::b::(g++g')++[.lst L]) Q):
 WS (A7 (AH 9 (AO (Bn (A2 9) (AO (AV (A1 (mOp BC (Bh (A2 2) AJ (AQ (A2 3))) (Bh (A2 2) (AQ (mOp AE (A2 3) (mC (.int 1)))) AJ)) (A1 (mOp BC (Ay (A2 2) AJ (AQ (mOp AE (A2 3) (mC (.int 1))))) (Ay (A2 2) (AQ (A2 3)) AJ)) (A1 (Dh (A2 2) (C7 (mC (.int 1)))) (A1 (AO (EV (A2 2))) (A1 (mOp AE (A2 2) (AI (A1 (A2 2) A5))) A5))))))))))
 R) (Lq ws P j w s e o z8 (some (.mu (g.length+2))) z10 z11 z12 z13) (a::b::(g++[.lst F])) Q:=by
 have hlD:(pcD P).length=P.length:=by simp
 have n60:=hP.n60;have hjD:j<(pcD P).length:=by omega
 have hne:pcD P≠[]:=by intro q;have:=congrArg List.length q;rw[length_nil]at this;omega
 refine AB (AX (Ah (DV (A3 rfl (Ah (B7 (A4 (A9 (KL (i:=2) (j:=3) rfl (pv P) rfl hjD (L3 (i:=2) (j:=3) rfl (pv P) rfl hjD (Bk (AF _) (AF _) (by rw[length_take,length_drop];omega) ?_)))))))))));refine A4 (A9 (Wt (i:=2) (j:=3) rfl (pv P) rfl (Zy (i:=2) (j:=3) rfl (pv P) rfl (Bk (AF _) (AF _) (by rw[length_take,length_drop];omega) ?_))));refine A4 (JC (A3 rfl (DU (AC ⟨_,rfl,rfl,pcD P,pv P,?_⟩))));refine A4 (Ah (Md (A3 rfl ⟨pcD P,Ce (pv P),?_⟩)));refine A4 (A9 (A3 rfl (AT (A4 (A3 rfl (A6 ⟨CG,FM (pv P) (AF _) hne (by simp only[length_singleton];omega) (A6 ⟨AL (by simp),?_⟩)⟩))))));rw[show(a::b::(g++[MO.lst F])).length=g.length+3 by simp];generalize eB:[_,_,_,D.mu (g.length+3),_]=B4;have lB:B4.length=5:=by rw[<- eB];rfl
 have lF:=K.lt;refine⟨g.length+2,g.length+4,F,B4,rfl,by simp,by simp,by simp,AL (by omega),A8 ?_⟩;have KI:=K.is;have K2:Kq 65 (a::b::(g++[.lst F,.lst (pcD P),.lst B4])) (ts++[.tup ((P.map pcV).take j++(P.map pcV).drop (j+1)),.tup ((P.map pcV).take (j+1)++(P.map pcV).drop j),.tup (P.map pcV).reverse,.lst (P.map pcV),.tup (P.map pcV++[.tup (P.map pcV)])]) (F++B4):=by
  refine⟨Iss.app (DX (by simp) (keeps (le_refl _) KI)) ?_,by have:=K.ln;simp;omega,λt ht=>?_⟩
  .rw[<- eB];refine .cons (((BS P).take j).app ((BS P).drop (j+1))).tup (.cons (((BS P).take (j+1)).app ((BS P).drop j)).tup (.cons (BS P).rev.tup (.cons ?_ (.one ((BS P).app (.one ?_)).tup))))
   .simp only[Is];exact⟨g.length+3,pcD P,rfl,by omega,by simp,by simp,BS P⟩
   .rw[<- FT];exact(BS P).tup
  .rcases mem_append.mp ht with ht|ht
   .exact K.th t ht
   .simp only[mem_cons,not_mem_nil,or_false]at ht;rcases ht with rfl|rfl|rfl|rfl|rfl
    .refine(EL (hP.cut _ λv hv=>?_) ?_).1
     .rcases mem_append.mp hv with hv|hv
      .exact mem_of_mem_take hv
      .exact mem_of_mem_drop hv
     .simp only[length_append,length_take,length_drop,length_map];omega
    .refine(EL (hP.cut _ λv hv=>?_) ?_).1
     .rcases mem_append.mp hv with hv|hv
      .exact mem_of_mem_take hv
      .exact mem_of_mem_drop hv
     .simp only[length_append,length_take,length_drop,length_map];omega
    .refine(EL (hP.cut _ λv hv=>List.mem_reverse.mp hv) ?_).1;simp only[length_reverse,length_map];omega
    .refine(EL (hP.cut _ λv hv=>hv) ?_).2;simp only[length_map];omega
    .have bw:Bz 3481 2 (.tup (P.map pcV)):=(EK (w:=58) (dp:=1) (k:=60) hP.el (by simpa using n60) (by decide)).1;have w1:=Kf (w:=58) λu hu=>(hP.el u hu).wt;have w2:=bw.wt;have d2:=bw.dp;have d1:=Fd (k:=1) λu hu=>(hP.el u hu).dp;have lm:(P.map pcV).length=P.length:=by simp
     refine GJ (w:=8000) (dp:=4) (Gs (λt ht=>?_) ?_ ?_ (by rw[length_append,length_singleton];omega)) (by decide) (by decide)
     .rcases mem_append.mp ht with ht|ht
      .exact(hP.el t ht).gd
      .rw[mem_singleton]at ht;subst ht;exact bw.gd
     .rw[CA];simp only[wts];rw[lm]at w1;omega
     .rw[GG];simp only[BJ];omega
 have:=k _ _ _ K2;simpa using this
end
open PySem L2 Bd An
def Ka{me:ME}{H0 r:Hd}{L:List D}{ls:Ls}{Q:Fl->Hd->Prop}(hq:ls[9]?=some (some (.mu H0.length)))(lL:L.length<=100)(h:WE me ls (H0++.lst L::r) λd x=>∃r',x=H0++.lst L::r'/\Q (.nx ls) (H0++.lst (L++[d])::r')):WS (BE (mMt Ao (A2 9) (A1 me A5))) ls (H0++.lst L::r) Q:=
 Gx (KJ (A3 hq ⟨⟨L,by simp[BL]⟩,A4 (h.mono λd x ⟨r',e,q⟩=>by subst e;exact A6 (IJ (ds:=L) (by simp) (Bp (by omega)) (by simpa using q)))⟩))
abbrev Lt(ws:List Wk)(P:List Pl.Pc)(j:Nat)(w:Nat)(s e:Int)(z7 z8:Option D)(q:Nat)(z10 z11 z12 z13:Option D):Ls:=[some (.mu 1),some (.im (AY ws)),some (.im (.tup (P.map AD))),some (.im (.int (j:Int))),some (.im (.int (w:Int))),some (.im (.int s)),some (.im (.int e)),z7,z8,some (.mu q),z10,z11,z12,z13]
def bY:GF 2:=by unfold GF;decide
def Sp(p:Pl.Pc):Prop:=p.1<8/\(-10000<=p.2.1/\p.2.1<=10000)/\-10000<=p.2.2/\p.2.2<=10000
def Sp.bz{p:Pl.Pc}(h:Sp p):Bz 801 1 (pcV p):=(KZ h.1 h.2.1 h.2.2).mono (by decide) (by decide)
set_option maxHeartbeats 1000000 in
def Wj{ws:List Wk}{P:List Pl.Pc}(hP:Pb P){j w:Nat}{s e:Int}(hj:j<P.length)(hw:w<8)(hs:0<=s/\s<=5000)(he:0<=e/\e<=5000){H0:Hd}{ts:List Tv}{L:List D}(K:Kq 65 H0 ts L){z7 z8 z10 z11 z12 z13:Option D}:
 WS (A7 (AH 7 (Dh (Ay (A2 2) (AQ (A2 3)) (AQ (mOp AE (A2 3) (mC (.int 2))))) (C7 (mC (.int 1)))))
 (A7 (BE (mMt Ao (A2 9) (A1 (mOp BC (mOp BC (Bh (A2 2) AJ (AQ (A2 3))) (A2 7)) (Bh (A2 2) (AQ (mOp AE (A2 3) (mC (.int 2)))) AJ)) A5)))
 (A7 (AH 10 (mOp AE (A2 5) (mOp Dm (mOp B3 (A2 6) (A2 5)) (mC (.int 2)))))
 (A7 (BO (IA (AV (A1 (AI (A1 (AI (A1 (A2 4) (A1 (A2 5) (A1 (A2 10) A5)))) (A1 (AI (A1 (A2 4) (A1 (A2 10) (A1 (A2 6) A5)))) A5))) (A1 (AI (A1 (AI (A1 (A2 4) (A1 (A2 5) (A1 (A2 6) A5)))) (A1 (AI (A1 (A2 4) (A1 (A2 6) (A1 (A2 6) A5)))) A5))) A5)))) (AG 11)
  (BE (mMt Ao (A2 9) (A1 (mOp BC (mOp BC (Bh (A2 2) AJ (AQ (A2 3))) (A2 11)) (Bh (A2 2) (AQ (mOp AE (A2 3) (mC (.int 1)))) AJ)) A5))))
 (A7 (BE (mMt Ao (A2 9) (A1 (AA 0 EN (A1 (A2 2) A5)) A5)))
 (A7 (BO (BD (AI (A1 (mC (.int 1)) (A1 (C7 (mC (.int 1))) (A1 (mC (.int 5000)) A5))))) (AG 12)
  (A7 (AH 13 (AO (B5 3 [12] (BD (A2 2)) (Bx 3 (Ac (AG 0) (Ac (AG 1) (Ac (AG 2) CF)))) Bc (AI (A1 (A2 0) (A1 (mOp AE (A2 1) (A2 3)) (A1 (mOp AE (A2 2) (A2 3)) A5)))))))
 (BE (mMt Ao (A2 9) (A1 (mCB (f1 true BQ) (A1 (A2 13) A5)) A5)))))
 (Aa (A2 9))))))))
 (Lt ws P j w s e z7 z8 H0.length z10 z11 z12 z13) (H0++[.lst L]) λf x=>∃ts L r,f=.rt (.mu H0.length)/\x=H0++.lst L::r/\Kq 72 H0 ts L:=by
 have hlD:(pcD P).length=P.length:=by simp
 have n60:=hP.n60;have hjD:j<(pcD P).length:=by omega
 have t1:((pcD P).take j).length<=60:=by rw[length_take];omega
 have t2:((pcD P).drop (j+1)).length<=60:=by rw[length_drop];omega
 have t3:((pcD P).drop (j+2)).length<=60:=by rw[length_drop];omega
 have sP:∀p∈P,Sp p:=λp hp=>by have:=hP.b p hp;exact⟨by omega,by omega,by omega⟩
 refine AB (AX (JC (Wu rfl (pv P) rfl (DU (AC ⟨_,rfl,rfl,_,AF _,A8 ?_⟩)))));have t4:(((pcD P).drop j).take 2).reverse.length<=2:=by rw[length_reverse,length_take];omega
 change WS _ (Lt ws P j w s e (some (AK (((pcD P).drop j).take 2).reverse)) z8 H0.length z10 z11 z12 z13) (H0++.lst L::[]) _;have lL:=K.lt;refine AB (Ka rfl (by omega) (A9 (A9 (KL (i:=2) (j:=3) rfl (pv P) rfl hjD (A3 rfl (Bk (AF _) (AF _) (by omega) (Wl (i:=2) (j:=3) rfl (pv P) rfl hjD (Bk (AF _) (AF _) (by rw[length_append];omega) ⟨_,rfl,A8 ?_⟩))))))));have K:=K.put (t:=.tup ((P.map pcV).take j++(((P.map pcV).drop j).take 2).reverse++(P.map pcV).drop (j+2))) (((((BS P).take j).app (((BS P).drop j).take 2).rev).app ((BS P).drop (j+2))).tup) (by
  refine(EL (hP.cut _ λv hv=>?_) ?_).1
  .rcases mem_append.mp hv with hv|hv
   .rcases mem_append.mp hv with hv|hv
    .exact mem_of_mem_take hv
    .exact mem_of_mem_drop (mem_of_mem_take (List.mem_reverse.mp hv))
   .exact mem_of_mem_drop hv
  .simp only[length_append,length_take,length_drop,length_map,length_reverse];omega)
 generalize L++[_]=L at K;generalize ts++[_]=ts at K;refine AB (AX (A9 (A3 rfl (A9 (A9 (A3 rfl (A3 rfl (CB (AC (Tg bY (BA (A8 ?_))))))))))));have hm:-5000<=s+(e-s)/2/\s+(e-s)/2<=10000:=by omega
 generalize s+(e-s)/2=m at hm;change WS _ (Lt ws P j w s e (some (AK (((pcD P).drop j).take 2).reverse)) z8 H0.length (some (.im (.int m))) z11 z12 z13) (H0++.lst L::[]) _;refine AB (Cr (b7 (B7 (A4 (AT (A4 (AT (A4 (A3 rfl (A4 (A3 rfl (A4 (A3 rfl (A6 ⟨Aq,A4 (AT (A4 (A3 rfl (A4 (A3 rfl (A4 (A3 rfl (A6 ⟨Aq,A6 ⟨EI,?_⟩⟩))))))))⟩))))))))))))));refine A4 (AT (A4 (AT (A4 (A3 rfl (A4 (A3 rfl (A4 (A3 rfl (A6 ⟨Aq,A4 (AT (A4 (A3 rfl (A4 (A3 rfl (A4 (A3 rfl (A6 ⟨Aq,A6 ⟨EI,A6 ⟨AL (by simp),?_⟩⟩⟩))))))))⟩))))))))));refine CQ (λl ls hd=>∃(prs:List (Pl.Pc×Pl.Pc)) (L:List D) (ts:List Tv) (z11:Option D),l=prs.map (λx=>.im (.tup [AD x.1,AD x.2]))/\ls=Lt ws P j w s e (some (AK (((pcD P).drop j).take 2).reverse)) z8 H0.length (some (.im (.int m))) z11 z12 z13/\hd=H0++.lst L::[]/\Kq (68-prs.length) H0 ts L/\prs.length<=2/\∀x∈prs,Sp x.1/\Sp x.2) ⟨[((w,s,m),(w,m,e)),((w,s,e),(w,e,e))],L,ts,z11,rfl,rfl,rfl,by simpa using K,by simp,λx hx=>by
  simp only[mem_cons,not_mem_nil,or_false]at hx;rcases hx with rfl|rfl
  .exact⟨⟨hw,⟨by dsimp only;omega,by dsimp only;omega⟩,by dsimp only;omega,by dsimp only;omega⟩,hw,⟨by dsimp only;omega,by dsimp only;omega⟩,by dsimp only;omega,by dsimp only;omega⟩
  .exact⟨⟨hw,⟨by dsimp only;omega,by dsimp only;omega⟩,by dsimp only;omega,by dsimp only;omega⟩,hw,⟨by dsimp only;omega,by dsimp only;omega⟩,by dsimp only;omega,by dsimp only;omega⟩⟩ ?_ ?_
 .rintro d r ls hd ⟨prs,L,ts,z11,el,rfl,rfl,K,p2,hp⟩;cases prs with
  |nil=>cases el
  |cons x prs=>
   obtain⟨rfl,rfl⟩:=List.cons.inj el;refine⟨_,rfl,?_⟩;rw[length_cons]at p2 K;have lL:=K.lt;obtain⟨s1,s2⟩:=hp x (by simp);change WS _ (Lt ws P j w s e (some (AK (((pcD P).drop j).take 2).reverse)) z8 H0.length (some (.im (.int m))) (some (.im (.tup [AD x.1,AD x.2]))) z12 z13) _ _;refine Ka rfl (by omega) (A9 (A9 (KL (i:=2) (j:=3) rfl (pv P) rfl hjD (A3 rfl (Bk (ys:=pcD [x.1,x.2]) (AF _) rfl (by have:(pcD [x.1,x.2]).length=2:=rfl;omega) (L3 (i:=2) (j:=3) rfl (pv P) rfl hjD (Bk (AF _) (AF _) (by rw[length_append];have:(pcD [x.1,x.2]).length=2:=rfl;omega) ⟨_,rfl,AU _,prs,_,ts++[.tup ((P.map pcV).take j++[x.1,x.2].map pcV++(P.map pcV).drop (j+1))],_,rfl,rfl,rfl,?_,by omega,λy hy=>hp y (by simp[hy])⟩)))))));have K:=K.put (t:=.tup ((P.map pcV).take j++[x.1,x.2].map pcV++(P.map pcV).drop (j+1))) (((((BS P).take j).app (BS [x.1,x.2])).app ((BS P).drop (j+1))).tup) (by
    refine(EL (λv hv=>?_) ?_).1
    .rcases mem_append.mp hv with hv|hv
     .rcases mem_append.mp hv with hv|hv
      .exact hP.cut _ (λt ht=>mem_of_mem_take ht) v hv
      .simp only[map_cons,map_nil,mem_cons,not_mem_nil,or_false]at hv;rcases hv with rfl|rfl
       .exact s1.bz
       .exact s2.bz
     .exact hP.cut _ (λt ht=>mem_of_mem_drop ht) v hv
    .simp only[length_append,length_take,length_drop,length_map,length_cons,length_nil];omega)
   rw[show 68-(prs.length+1)+1=68-prs.length by omega]at K;exact K
 rintro ls hd ⟨prs,L,ts,z11,el,rfl,rfl,K,p2,hp⟩;cases prs with
 |cons _ _=>cases el
 |nil=>
 have lL:=K.lt;rw[length_nil]at lL;refine A8 (AB (Ka rfl (by omega) (Fk (A4 (A3 rfl (A6 ⟨rfl,(ZZ n60 hP.d (λp hp=>by have:=hP.b p hp;omega)).mono ?_⟩))))));rintro d x ⟨rfl,ld⟩;refine⟨_,rfl,_,rfl,A8 ?_⟩;have K:=K.put (Al (.tup ((P.flatMap Ab).map AD))) (by
  refine GJ (w:=69601) (dp:=2) ?_ (by decide) (by decide);have:=WN ld λp hp=>by
   obtain⟨q,hq,hp⟩:=List.mem_flatMap.mp hp;have:=hP.b q hq;have:=hP.d q hq;unfold Ab at hp;obtain⟨i,hi,rfl⟩:=mem_map.mp hp;rw[List.mem_range]at hi;refine⟨by omega,⟨?_,?_⟩,?_,?_⟩<;>dsimp only<;>omega
  rw[ofI,Ex,map_map];exact this)
 generalize L++[_]=L at K;generalize ts++[_]=ts at K;refine AB (Cr (CI (AT (A4 (AC (A4 (DU (AC ⟨_,rfl,A4 (AC (A6 ⟨Aq,_,AF _,?_⟩))⟩))))))));refine CQ (λl ls hd=>∃(ks:List Int) (L:List D) (ts:List Tv) (r:Hd) (z12 z13:Option D),l=AS ks/\ls=Lt ws P j w s e (some (AK (((pcD P).drop j).take 2).reverse)) z8 H0.length (some (.im (.int m))) z11 z12 z13/\hd=H0++.lst L::r/\Kq (72-ks.length) H0 ts L/\ks.length<=3/\∀k∈ks,-1<=k/\k<=5000) ⟨[1,-1,5000],L,ts,[],z12,z13,rfl,rfl,rfl,by simpa using K,by simp,λx hx=>by
  simp only[mem_cons,not_mem_nil,or_false]at hx;omega⟩ ?_ ?_
 .rintro d r0 ls hd ⟨ks,L,ts,r,z12,z13,el,rfl,rfl,K,p2,hp⟩;cases ks with
  |nil=>cases el
  |cons k ks=>
   obtain⟨rfl,rfl⟩:=List.cons.inj el;refine⟨_,rfl,?_⟩;rw[length_cons]at p2 K;have lL:=K.lt;have hk:=hp k (by simp);change WS _ (Lt ws P j w s e (some (AK (((pcD P).drop j).take 2).reverse)) z8 H0.length (some (.im (.int m))) z11 (some (.im (.int k))) z13) _ _;refine AB (AX (Ah (BK (CI (A3 rfl ⟨pcD P,pv P,AL (by dsimp only;omega),?_⟩)))));refine C3 (λp:Pl.Pc=>D.im (AD p)) (λp:Pl.Pc=>some (.im (AD (p.1,p.2.1+k,p.2.2+k)))) (λ_ ls=>∃x y z,ls=[some x,some y,some z,some (.im (.int k))]) _ (AU _) ?_ ?_
   .rintro p hp ls hls;refine⟨[some (.im (.int (p.1:Int))),some (.im (.int p.2.1)),some (.im (.int p.2.2)),some (.im (.int k))],by rcases hls with rfl|⟨_,x,y,z,rfl⟩<;>rfl,⟨_,_,_,rfl⟩,CP ⟨rfl,?_⟩⟩;rw[if_pos rfl];exact⟨_,rfl,AT (A4 (A3 rfl (A4 (A9 (A3 rfl (A3 rfl (BA (A4 (A9 (A3 rfl (A3 rfl (BA (A6 ⟨Aq,rfl,rfl⟩)))))))))))))⟩
   have ed:(P.filterMap λp:Pl.Pc=>some (D.im (AD (p.1,p.2.1+k,p.2.2+k))))=pcD (P.map λp=>(p.1,p.2.1+k,p.2.2+k)):=by
    rw[List.filterMap_eq_map',pcD,map_map];rfl
   rw[ed];have sM:∀p∈P.map (λp=>(p.1,p.2.1+k,p.2.2+k)),Sp p:=λp hp=>by
    obtain⟨q,hq,rfl⟩:=mem_map.mp hp;have:=hP.b q hq;refine⟨by omega,⟨?_,?_⟩,?_,?_⟩<;>dsimp only<;>omega
   have lM:(P.map λp=>(p.1,p.2.1+k,p.2.2+k)).length<=60:=by rw[length_map];exact n60
   generalize (P.map λp=>(p.1,p.2.1+k,p.2.2+k))=M at sM lM;refine A8 ?_;rw[show H0++MO.lst L::r++[MO.lst (pcD M)]=H0++.lst L::(r++[.lst (pcD M)]) by simp];refine Ka rfl (by omega) (BN (A4 (A3 rfl (A6 (C8 (ds:=pcD M) (by rw[if_pos rfl];simp[B9,AN]) rfl ⟨_,rfl,AU _,ks,_,ts++[ofI (.tup (M.map AD))],_,_,_,rfl,rfl,rfl,?_,by omega,λy hy=>hp y (by simp[hy])⟩)))));have K:=K.put (Al (.tup (M.map AD))) (by
    rw[ofI,Ex,map_map];refine(EL (λv hv=>?_) (by simpa using (by omega))).1;obtain⟨p,hp,rfl⟩:=mem_map.mp hv;exact(sM p hp).bz)
   rw[show 72-(ks.length+1)+1=72-ks.length by omega,<- FT]at K;exact K
 rintro ls hd ⟨ks,L,ts,r,z12,z13,el,rfl,rfl,K,p2,hp⟩;cases ks with
 |cons _ _=>cases el
 |nil=>exact A8 (Af (A3 rfl ⟨ts,L,r,rfl,rfl,K⟩))
open PySem L2 Bd An
def PN(g:Hd)(d:D)(x:Hd):Prop:=∃p a b g' ts ds,d=.mu p/\x=a::b::(g++g')/\T 0 a b/\Kp p 80 a b (g++g') ts ds
def aL{g g' r:Hd}{a b:MO}{ts:List Tv}{L:List D}(hT:T 0 a b)(K:Kq 72 (a::b::(g++g')) ts L):PN g (.mu (a::b::(g++g')).length) ((a::b::(g++g'))++.lst L::r):=by
 refine⟨_,a,b,g'++.lst L::r,ts,L,rfl,by simp,hT,by simp,?_,?_,by have:=K.ln;omega,K.th⟩
 .simp
 .have:=DX (n':=((a::b::(g++g'))++.lst L::r).length) (by simp) (Hq (g:=.lst L::r) (le_refl _) K.is);simpa using this
set_option maxHeartbeats 1000000 in
def Yu{ws:List Wk}(h1:1<=ws.length)(n8:ws.length<=8){P:List Pl.Pc}(hP:Pb P)(h0:1<=P.length){a b:MO}{g:Hd}(hT:T 0 a b):WF Gv [.mu 1,.im (AY ws),.im (.tup (P.map AD))] (a::b::g) (PN g):=by
 unfold Gv;refine Br rfl ?_;have n60:=hP.n60;have hlD:(pcD P).length=P.length:=by simp
 refine AB (AX (EZ (A4 (A3 rfl (A4 (BN (A4 (A3 rfl (A6 (C8 (ds:=pcD P) (by rw[if_pos rfl];exact Ce (pv P)) rfl (A6 ⟨a,b,g,((pcD P).length:Int),rfl,rfl,hT,by omega,by omega,λr a b hT p q=>A8 ?_⟩)))))))))));obtain⟨j,rfl⟩:∃j:Nat,r=(j:Int):=⟨r.toNat,by omega⟩
 have hj:j<P.length:=by omega
 have atP:∀{k:Nat} (hk:k<P.length),(pcD P)[k]?=some (.im (AD P[k])):=λhk=>by simp[hk]
 refine AB (IH (A9 (A3 rfl (A3 rfl (Aw (Ce (pv P)) (C0 rfl (atP hj)) ⟨_,rfl,A8 ?_⟩)))));refine AB (AX (A9 (A3 rfl (EZ (A4 (A3 rfl (A4 (BN (A4 (A3 rfl (A6 (C8 (ds:=pcD P) (by rw[if_pos rfl];exact Ce (pv P)) rfl (A6 ⟨a,b,g,((pcD P).length:Int),rfl,rfl,hT,by omega,by omega,λr a b hT p q=>?_⟩)))))))))))));obtain⟨i,rfl⟩:∃j:Nat,r=(j:Int):=⟨r.toNat,by omega⟩
 have hi:i<P.length:=by omega
 refine Aw (Ce (pv P)) (C0 rfl (atP hi)) (A8 ?_);have bi:=hP.b _ (List.getElem_mem hi);have bj:=hP.b _ (List.getElem_mem hj);generalize P[i]=o at bi;generalize P[j]=pj at bj;obtain⟨w,s,e⟩:=pj;dsimp only at bj;have hw:w<8:=bj.1;have hs:0<=s/\s<=5000:=by omega
 have he:0<=e/\e<=5000:=by omega
 change WS _ (Lq ws P j w s e o none none none none none none) _ _;refine W3 h1 n8 hw hs he (by omega) hT λp a b g1 ts ds hT K=>?_;refine X8 hw hs he K λp g2 ts ds K=>?_;refine X7 hw n8 hs he K λp g3 ts ds K=>?_;refine X6 hw hs he K λp g4 ts ds K=>?_;refine Zc hP hj K λF ts K=>?_;refine ZI hP hj K λg5 ts L K=>?_;refine(Wj hP hj hw hs he K).mono ?_;rintro f x ⟨ts,L,r,rfl,rfl,K⟩;rw[append_assoc g,append_assoc g,append_assoc g,append_assoc g]at K ⊢;exact aL hT K
def Tc(n:Nat):Wsh n []:=⟨by simp,List.range n,List.Perm.refl _,λp hp=>by simp at hp⟩
inductive I_law(ns:List Int)(l:List D)(ls:Ls)(hd:Hd):Prop
 |mk (j:Nat) (a b:MO) (g:Hd) (z2 z3 z4 z5 z6 z7 z8 z9 z10 z11 z12:Option D) (er:l=Ai (j:Int) (3-j)) (hj:j<=3) (el:ls=[some (.ro ns),some (.mu 1),z2,z3,z4,z5,z6,z7,z8,z9,z10,z11,z12]) (eh:hd=a::b::g) (hT:T 0 a b)
def bvs{ts:List Tv}(h:ts=[ofI (.tup []),.non,.int 0,.str "",ofI (.tup [.tup []])]):∀t∈ts,Bv t:=by
 subst h;intro t ht;simp only[mem_cons,not_mem_nil,or_false]at ht;rcases ht with rfl|rfl|rfl|rfl|rfl
 all_goals refine⟨?_,?_,?_,?_⟩
 all_goals (simp only[ofI,CD,Gq,Gqs,An.wt,wts,dep,BJ,An.tl]<;>decide +kernel)
section
variable{ws:List Wk}{P:List Pl.Pc}{a b:MO}{g:Hd}{R:MS}{Q:Fl->Hd->Prop}{q0 q2 q3 q5 q7 q8 q9 q10 q11 q12:Option D}
set_option maxHeartbeats 1000000 in
def Qs(E:Ew ws)(hP:Pb P)(h0:1<=P.length)(hT:T 0 a b)
 (k:∀p a b g ts ds d7,T 0 a b->Kp p 100 a b g ts ds->WS R [q0,some (.mu 1),q2,q3,some (.im (AY ws)),q5,some (.im (.tup (P.map AD))),d7,some (.mu p),q9,q10,q11,q12] (a::b::g) Q):
 WS (A7 (AH 7 (Ak Dr (A1 (A2 1) (A1 (A2 6) (A1 (mC (.int 3)) A5)))))
 (A7 (AH 8 (AO (AV (A1 (A2 6) (A1 (mOp gIx (A2 6) (mC (.int 0))) (A1 (AO (AV (A1 (A2 6) A5))) (A1 (A2 7) (A1 (Ak Dr (A1 (A2 1) (A1 (A2 7) (A1 (mC (.int 3)) A5)))) A5))))))))
 (A7 (AH 8 (AO (Bn (A2 8) (AO (AV (A1 (AI A5) (A1 (mC .non) (A1 (mC (.int 0)) (A1 (mC (.str "")) (A1 (AI (A1 (AI A5) A5)) A5))))))))))
 (A7 (AH 8 (AO (Bn (A2 8) (AO (AV (A1 (Ak Dr (A1 (A2 1) (A1 (A2 6) (A1 (mC (.int 3)) A5)))) (A1 (Ak DP (A1 (A2 1) A5)) A5)))))))
 (A7 (AH 8 (AO (Bn (A2 8) (Ak Gv (A1 (A2 1) (A1 (A2 4) (A1 (A2 6) A5)))))))
 R))))) [q0,some (.mu 1),q2,q3,some (.im (AY ws)),q5,some (.im (.tup (P.map AD))),q7,q8,q9,q10,q11,q12] (a::b::g) Q:=by
 have n60:=hP.n60;have atP:∀{k:Nat} (hk:k<P.length),(pcD P)[k]?=some (.im (AD P[k])):=λhk=>by simp[hk]
 have bp:Bz 3481 2 (.tup (P.map pcV)):=(EK (w:=58) (dp:=1) (k:=60) hP.el (by simpa using n60) (by decide)).1;have ip:∀N X,Is N X (.tup (P.map pcV)) (.im (.tup (P.map AD))):=λN X=>by rw[<- FT];exact(BS P).tup
 have bp1:Bv (.lst [.tup (P.map pcV)]):=GJ (EK (w:=3481) (dp:=2) (k:=1) (us:=[.tup (P.map pcV)]) (λu hu=>by rw[mem_singleton]at hu;subst hu;exact bp) (by simp) (by decide)).2 (by decide) (by decide);have b00:Bv (ofI (AD P[0])):=GJ (hP.el (pcV P[0]) (mem_map.mpr ⟨_,List.getElem_mem _,rfl⟩)) (by decide) (by decide);have bpv:Bv (.tup (P.map pcV)):=GJ bp (by decide) (by decide);refine AB (AX (B0 (A4 (A3 rfl (A4 (A3 rfl (A4 (AC (A6 ((J4 4 3 (by decide) (by decide) (by decide) (by decide) (by decide) hT (ip _ _) bp).mono ?_))))))))));rintro d1 x ⟨a,b,g1,t1,rfl,hT,i1,b1⟩;refine A8 ?_;dsimp only[set_cons_zero,set_cons_succ];refine AB (AX (Ah (B7 (A4 (A3 rfl (A4 (A9 (A3 rfl (AC (Aw (Ce (pv P)) (C0 (k:=0) rfl (atP h0)) ?_))))))))));refine A4 (Ah (B7 (A4 (A3 rfl (A6 ⟨CG,A4 (A3 rfl ?_)⟩)))));have i1:Is (a::b::(g++g1++[.lst [.im (.tup (P.map AD))]])).length (a::b::(g++g1++[.lst [.im (.tup (P.map AD))]])) t1 d1:=F4 (by simp) (keep (le_refl _) i1);rw[show(a::b::(g++g1)).length=(g++g1).length+2 by simp,show a::b::(g++g1)++[MO.lst [D.im (.tup (P.map AD))]]=a::b::(g++g1++[.lst [.im (.tup (P.map AD))]]) by simp];generalize g++g1=G1 at i1;refine A4 (B0 (A4 (A3 rfl (A4 (A3 rfl (A4 (AC (A6 ((J4 4 3 (by decide) (by decide) (by decide) (by decide) (by decide) hT i1 b1).mono ?_)))))))));rintro d2 x ⟨a,b,g2,t2,rfl,hT,i2,b2⟩;refine A6 ⟨AL (by simp),A8 ?_⟩;dsimp only[set_cons_zero,set_cons_succ];have i1:Is (a::b::(G1++[.lst [.im (.tup (P.map AD))]]++g2)).length (a::b::(G1++[.lst [.im (.tup (P.map AD))]]++g2)) t1 d1:=F4 (by simp) (keep (le_refl _) i1);have K:=Kp.new (m:=5) (us:=[.tup (P.map pcV),ofI (AD P[0]),.lst [.tup (P.map pcV)],t1,t2]) (es:=[.im (.tup (P.map AD)),.im (AD P[0]),.mu (G1.length+2),d1,d2]) (a:=a) (b:=b) (g:=G1++[.lst [.im (.tup (P.map AD))]]++g2) (by
  refine .cons (ip _ _) (.cons (Al _) (.cons ?_ (.cons i1 (.one i2))));simp only[Is];exact⟨G1.length+2,_,rfl,by omega,by simp,by simp,.one (ip _ _)⟩) (by simp) (λt ht=>by
  simp only[mem_cons,not_mem_nil,or_false]at ht;rcases ht with rfl|rfl|rfl|rfl|rfl
  .exact bpv
  .exact b00
  .exact bp1
  .exact Bo.mono b1 (by decide) (by decide) (by decide) (by decide)
  .exact Bo.mono b2 (by decide) (by decide) (by decide) (by decide))
 rw[show(a::b::(G1++[MO.lst [D.im (.tup (P.map AD))]]++g2)).length=(G1++[MO.lst [D.im (.tup (P.map AD))]]++g2).length+2 by simp];rw[show ∀(X:Hd) (y:MO),a::b::X++[y]=a::b::(X++[y])from λ_ _=>rfl];generalize G1++[MO.lst [D.im (.tup (P.map AD))]]++g2=G2 at K;generalize [D.im (.tup (P.map AD)),.im (AD P[0]),.mu (G1.length+2),d1,d2]=D0 at K;generalize [Tv.tup (P.map pcV),ofI (AD P[0]),.lst [.tup (P.map pcV)],t1,t2]=T0 at K;generalize G2.length+2=p at K;generalize G2++[MO.lst D0]=G3 at K;clear i1 i2;refine AB (AX (Ah (DV (A3 rfl (Ah (B7 (A4 (AT (A6 ⟨Cw,A4 (AC (A4 (AC (A4 (AC (A4 (AT (A4 (AT (A6 ⟨Cw,A6 ⟨CG,A6 ⟨AL (by simp),?_⟩⟩⟩))))))))))⟩)))))))));have N:=Kp.new (m:=5) (a:=a) (b:=b) (g:=G3) (EH [.tup [],.non,.int 0,.str "",.tup [.tup []]]) (by simp[CD]) (bvs rfl);have K:=K.keep (a':=a) (b':=b) (g':=[.lst (List.map D.im [.tup [],.non,.int 0,.str "",.tup [.tup []]])]);refine⟨p,G3.length+2,D0,_,rfl,rfl,K.at',N.at',AL (by have:=K.lt;simp;omega),A8 ?_⟩;dsimp only[set_cons_zero,set_cons_succ];have K:=K.cat N;rw[show(a::b::G3++[MO.lst [AK [],D.im .non,D.im (.int 0),D.im (.str ""),AK [AK []]]]).length=(G3++[MO.lst (List.map D.im [.tup [],.non,.int 0,.str "",.tup [.tup []]])]).length+2 from by simp];rw[show a::b::G3++[MO.lst [AK [],D.im .non,D.im (.int 0),D.im (.str ""),AK [AK []]]]=a::b::(G3++[.lst (List.map D.im [.tup [],.non,.int 0,.str "",.tup [.tup []]])])from rfl];rw[show ∀(X:Hd) (y:MO),a::b::X++[y]=a::b::(X++[y])from λ_ _=>rfl];generalize G3++[MO.lst (List.map D.im [.tup [],.non,.int 0,.str "",.tup [.tup []]])]=G4 at K;generalize D0++List.map D.im [.tup [],.non,.int 0,.str "",.tup [.tup []]]=D1 at K;generalize G4.length+2=p4 at K;generalize G4++[MO.lst D1]=G5 at K;generalize T0++_=T1 at K;refine AB (AX (Ah (DV (A3 rfl (Ah (B7 (A4 (B0 (A4 (A3 rfl (A4 (A3 rfl (A4 (AC (A6 ((J4 4 3 (by decide) (by decide) (by decide) (by decide) (by decide) hT (ip _ _) bp).mono ?_))))))))))))))));rintro d3 x ⟨a,b,g3,t3,rfl,hT,i3,b3⟩;have K:=K.keep (a':=a) (b':=b) (g':=g3);refine A4 (B0 (A4 (A3 rfl (A6 ((Jl hT).mono ?_)))));rintro d4 x ⟨a,b,g4,t4,rfl,hT,i4,b4⟩;have K:=K.keep (a':=a) (b':=b) (g':=g4);have i3:Is (a::b::(G5++g3++g4)).length (a::b::(G5++g3++g4)) t3 d3:=F4 (by simp) (keep (le_refl _) i3);refine A6 ⟨AL (by simp),?_⟩;have N:=Kp.new (m:=2) (.cons i3 (.one i4)) (by simp) (λt ht=>by
  simp only[mem_cons,not_mem_nil,or_false]at ht;rcases ht with rfl|rfl
  .exact Bo.mono b3 (by decide) (by decide) (by decide) (by decide)
  .exact Bo.mono b4 (by decide) (by decide) (by decide) (by decide))
 have K:=K.keep (a':=a) (b':=b) (g':=[.lst [d3,d4]]);clear i3 i4;generalize G5++g3++g4=G6 at K N;rw[show(a::b::G6).length=G6.length+2 by simp];rw[show ∀(X:Hd) (y:MO),a::b::X++[y]=a::b::(X++[y])from λ_ _=>rfl];refine⟨p4,G6.length+2,D1,_,rfl,rfl,K.at',N.at',AL (by have:=K.lt;simp;omega),A8 ?_⟩;dsimp only[set_cons_zero,set_cons_succ];have K:=K.cat N;rw[show(a::b::(G6++[MO.lst [d3,d4]])).length=(G6++[MO.lst [d3,d4]]).length+2 by simp];rw[show ∀(X:Hd) (y:MO),a::b::X++[y]=a::b::(X++[y])from λ_ _=>rfl];generalize G6++[MO.lst [d3,d4]]=G7 at K;generalize D1++[d3,d4]=D2 at K;generalize G7.length+2=p7 at K;generalize G7++[MO.lst D2]=G8 at K;generalize T1++_=T2 at K;refine AB (AX (Ah (DV (A3 rfl (B0 (A4 (A3 rfl (A4 (A3 rfl (A4 (A3 rfl (A6 ((Yu E.n1 E.n8 hP h0 hT).mono ?_)))))))))))));rintro e x ⟨p9,a,b,g9,t9,d9,rfl,rfl,hT,N⟩;have K:=K.keep (a':=a) (b':=b) (g':=g9);refine⟨p7,p9,D2,d9,rfl,rfl,K.at',N.at',AL (by have:=K.lt;have:=N.lt;omega),A8 ?_⟩;have K:=(K.cat N).mono (show 5+5+2+80<=100 by decide);dsimp only[set_cons_zero,set_cons_succ];rw[show(a::b::(G8++g9)).length=(G8++g9).length+2 by simp];exact k _ a b _ _ _ _ hT K
end
set_option maxHeartbeats 1000000 in
def aZ(ns:List Int):WF d8 [.ro ns] [] λd x=>d=.im (.bl true):=by
 unfold d8;refine Br rfl ?_;obtain⟨τ,et⟩:=Tx ns;refine AB (AX (B0 (A4 (A3 rfl (A6 (WP.eq (ZK ▸ et) (A8 ?_)))))));refine AB (Cr (Qk (A4 (AC (A6 ⟨_,rfl,Dt (by decide) (by decide),?_⟩)))));refine CQ (I_law ns) ⟨0,_,_,[],none,none,none,none,none,none,none,none,none,none,none,rfl,by omega,rfl,rfl,τ,rfl⟩ ?_ ?_
 .rintro t r ls hd ⟨j,a,b,g,z2,z3,z4,z5,z6,z7,z8,z9,z10,z11,z12,er,hj,rfl,rfl,hT⟩;obtain⟨hj4,rfl,rfl⟩:=IY er;refine⟨_,rfl,?_⟩;dsimp only[set_cons_zero,set_cons_succ];refine AB (AX (A9 (AC (EZ (A4 (A3 rfl (A4 (AC (A6 ⟨a,b,g,8,rfl,rfl,hT,by decide,by decide,λs a b hT ps qs=>BA (A8 ?_)⟩)))))))));obtain⟨n,hn⟩:∃n:Nat,1+s=(n:Int):=⟨(1+s).toNat,by omega⟩
  rw[hn];have n1:1<=n:=by omega
  have n8:n<=8:=by omega
  refine AB (AX ?_);have wa:WA (A1 (A2 1) (A1 (A2 3) (A1 (mOp gEq (A2 2) (mC (.int 0))) A5))) [some (.ro ns),some (.mu 1),some (.im (.int (j:Int))),some (.im (.int (n:Int))),z4,z5,z6,z7,z8,z9,z10,z11,z12] (a::b::g) λds x=>ds=.mu 1::[.im (.int (n:Int)),.im (.bl (decide ((j:Int)=0)))]/\x=a::b::g:=by
   exact A4 (A3 rfl (A4 (A3 rfl (A4 (A9 (A3 rfl (AC (EA (A6 ⟨rfl,rfl⟩)))))))))
  obtain⟨_,_,ea,rfl,rfl⟩:=wa;refine tap.call (n:=0) (c:=0) hT ea rfl (Ti n8 _) ?_;rintro i a b hT ⟨ws,rfl,hl,hok⟩;have E:Ew ws:=⟨by omega,by omega,hok⟩
  refine A8 (AB (AX ?_));refine tap.call (n:=0) (c:=0) hT (as:=[.im (.int (n:Int))]) (rest:=g) rfl rfl (Kj n8) ?_;rintro i a b hT ⟨W,rfl,hW⟩;have hW':Wsh ws.length W:=by rw[hl];exact hW
  refine A8 (AB (AX ?_));refine tap.call (n:=0) (c:=0) hT (as:=[.im (AY ws),.im (wI W)]) (rest:=g) rfl rfl (YR E hW') ?_;rintro i a b hT ⟨P,rfl,l60,up,hc,Fu,-⟩;have hP:Pb P:=by
   refine⟨l60,λp hp=>?_,λp hp=>?_⟩
   .have:=Fu.ok.ea p hp;have:=up p hp;have:=E.n8;omega
   .have h1:=TW (λq hq=>(Fu.ok.ea q hq).2.2) p hp;have h2:=(Fu.ok.ea p hp).1;rw[Fu.all _ h2]at h1;have:=E.l2 h2;omega
  have h0:1<=P.length:=by
   obtain⟨p,hp,-⟩:=Fu.has (k:=0) (by omega);exact List.length_pos_of_mem hp
  refine A8 ?_;dsimp only[set_cons_zero,set_cons_succ];refine Qs E hP h0 hT λp a b g ts ds d7 hT K=>?_;refine Cr (CI (AT (A4 (A3 rfl (A4 ?_)))));refine tap.call (n:=0) (c:=0) hT (as:=[.im (.int (n:Int))]) (rest:=g) rfl rfl (Kj n8) ?_;rintro i a b hT ⟨W2,rfl,hW2⟩;have K:=K.same (a':=a) (b':=b);refine A4 (AT (A6 ⟨Cw,A6 ⟨Aq,_,AF _,?_⟩⟩));refine CQ (λl ls hd=>∃(Ws:List (List (Int×Int))) (gg:Hd) (z9 z10 z11 z12:Option D),l=Ws.map (λW=>.im (wI W))/\(∀W∈Ws,Wsh ws.length W)/\ls=[some (.ro ns),some (.mu 1),some (.im (.int (j:Int))),some (.im (.int (n:Int))),some (.im (AY ws)),some (.im (wI W)),some (.im (.tup (P.map AD))),d7,some (.mu p),z9,z10,z11,z12]/\hd=a::b::(g++gg)) ⟨[W,W2,[]],[],_,_,_,_,rfl,λX hX=>by
   simp only[mem_cons,not_mem_nil,or_false]at hX;rw[hl];rcases hX with rfl|rfl|rfl
   .exact hW
   .exact hW2
   .exact Tc n,rfl,by simp⟩ ?_ ?_
  .rintro d r ls hd ⟨Ws,gg,z9,z10,z11,z12,el,hA,rfl,rfl⟩;cases Ws with
   |nil=>cases el
   |cons X Ws=>
    obtain⟨rfl,rfl⟩:=List.cons.inj el;refine⟨_,rfl,?_⟩;dsimp only[set_cons_zero,set_cons_succ];refine(ar E (hA X (by simp)) (K.keep (a':=a) (b':=b) (g':=gg))).mono ?_;rintro f x ⟨z10,z11,z12,g',rfl,rfl⟩;exact⟨AU _,Ws,gg++g',_,_,_,_,rfl,λY hY=>hA Y (by simp[hY]),rfl,by simp⟩
  .rintro ls hd ⟨Ws,gg,z9,z10,z11,z12,el,hA,rfl,rfl⟩;exact⟨AU _,.mk (j+1) a b _ _ _ _ _ _ _ _ _ _ _ _ rfl (by omega) rfl rfl hT⟩
 .rintro ls hd ⟨j,a,b,g,z2,z3,z4,z5,z6,z7,z8,z9,z10,z11,z12,er,hj,rfl,rfl,hT⟩;exact A8 (Af (AC rfl))
def law_eq(ns:List Int):∃hd,d8 [.ro ns] []=some (.im (.bl true),hd):=by
 obtain⟨d,x,e,rfl⟩:=aZ ns;exact⟨x,e⟩
open PySem L2 PySem.W PyProof.Rows
abbrev xS:Xs:=[]
def all_mk{l:PySem.W.OpenLaw}{w:World}{K:PySem.W.Frag}{h:Heap}{mg:Str->Option Value}{fa:Addr}{c P:Str->Addr}(X:K.In h)(G:h.Ns mainGlobals mg)(hfa:mg "law"=some (.ref fa))(hx:HX xS mg h c P)(F:Og K):HG l w K xS mg c P fa OV:=by
 obtain⟨Z,h0,h1,h2,h3,h4,h5,h6,h7,h8,h9,h10,h11,h12,h13,h14,h15,h16,h17,h18,h19,h20,h21,h22,h23,h24⟩:=F;have B:=(zsE Z).blt X G;refine SX X G hfa hx (feE h0) bd1 rfl λbase hd bl=>?_;obtain⟨o_is_number,o_is_number_from,o_is_number_of_work,o_is_tuple_of,o_is_piece,o_one_at_a_time,o_lengths_done,o_keeps_wishes,o_ends_of,o_is_plan,o_tape,o_pick,o_strange,o_bent,o_lis_number,o_cost,o_works,o_wishes,o_may,o_plan,o_lis_piece,o_lis_plan,o_by_days,o_near,o_law⟩:=oks (E:=enM l w K xS P mg base) B;have g1:=o_is_number ((feE h1).dn X G hx bd1 l w base);have g2:=o_is_number_from ((feE h2).dn X G hx bd2 l w base) g1;have g3:=o_is_number_of_work ((feE h3).dn X G hx bd2 l w base) g2;have g4:=o_is_tuple_of ((feE h4).dn X G hx bd2 l w base);have g5:=o_is_piece ((feE h5).dn X G hx bd2 l w base) g1 g3 g4;have g6:=o_one_at_a_time ((feE h6).dn X G hx bd1 l w base);have g7:=o_lengths_done ((feE h7).dn X G hx bd2 l w base);have g8:=o_keeps_wishes ((feE h8).dn X G hx bd3 l w base);have g9:=o_ends_of ((feE h9).dn X G hx bd2 l w base);have g10:=o_is_plan ((feE h10).dn X G hx bd3 l w base) g5 g6 g7 g8 g9;have g11:=o_tape ((feE h11).dn X G hx bd1 l w base);have g12:=o_pick ((feE h12).dn X G hx bd2 l w base);have g13:=o_strange ((feE h13).dn X G hx bd1 l w base) g12;have g14:=o_bent ((feE h14).dn X G hx bd3 l w base) g12 g13;have g15:=o_cost ((feE h15).dn X G hx bd2 l w base) g12;have g16:=o_works ((feE h16).dn X G hx bd3 l w base) g12 g15;have g17:=o_wishes ((feE h17).dn X G hx bd2 l w base) g12;have g18:=o_may ((feE h18).dn X G hx bd4 l w base);have g19:=o_plan ((feE h19).dn X G hx bd3 l w base) g12 g18;have g20:=o_lis_number ((feE h20).dn X G hx bd1 l w base);have g21:=o_lis_piece ((feE h21).dn X G hx bd2 l w base) g20;have g22:=o_lis_plan ((feE h22).dn X G hx bd3 l w base) g21;have g23:=o_by_days ((feE h23).dn X G hx bd1 l w base);have g24:=o_near ((feE h24).dn X G hx bd3 l w base) g12 g23;exact o_law ((feE h0).dn X G hx bd1 l w base) g10 g11 g12 g13 g14 g16 g17 g19 g22 g24
end T11
theorem PySem.Challenge.cw_benchdays_k11_plans_by_kind_holds : PySem.Challenge.rw_benchdays_k11_plans_by_kind.Holds := by
 refine T11.early λK F d hd hdf=>L2.walkL T11.xS (l:=PySem.Challenge.rw_benchdays_k11_plans_by_kind) (n:=63) (k:=7) (F:=T11.d8) rfl (by decide) hdf ⟨rfl,by decide,by decide,rfl⟩ (by intro x hx;cases hx) T11.law_eq (λw h Y=>Y) λw mg fa h c P X G hmg hx=>?_;rw[hd]at hmg;exact T11.all_mk X G hmg hx (F w)
