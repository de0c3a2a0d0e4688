import PyProof.Rows.All
import Wide.All
import OpenK.AllK
import Wide.FinOn
import Lean
import PyProof.EqAt
import PyProof.EqKinds
import PyProof.TupleCall
import KE.KSortKey
import PyProof.ListMulRoad
import PyProof.Draws
import PyProof.EnumMake
import PyProof.ListNew
import KE.KRevIter
import KE.KMinKey
import PySem.Challenge.RW_benchdays_k05_works_by_kind
set_option Elab.async false
set_option linter.all false
set_option maxRecDepth 100000
noncomputable section
set_option hygiene false in
local macro_rules | `(tactic| and_intros) => `(tactic| intro ρ σ H hd ls Q d hd' hR hL hm hQ)
open List(mem_cons filterMap_cons mem_cons_self mem_cons_of_mem mem_append mem_append_left mem_append_right size_toArray append_nil nodup_cons length_take mem_of_getElem? length_append length_map length_drop all_cons any_cons replicate_succ flatten_cons append_assoc length_singleton nil_append map_nil map_cons find?_cons length_cons length_nil lookup_cons lookup_append mem_map all_eq_true take_of_length_le mem_singleton cons_append map_map mem_of_mem_take not_mem_nil map_take map_drop reverse_cons filter_cons set_cons_zero set_cons_succ filterMap_eq_map all_map sum_cons)
open Option(bind_some isSome_iff_exists none_or map_some)
open Nat(lt_of_lt_of_le lt_irrefl ne_of_lt le_trans le_of_lt ne_of_gt le_refl lt_of_le_of_lt lt_trans zero_le log2_lt)
open Int(toNat_natCast)
def ac{α β:Type _}{o:Option α}{f:α->Option β}{b:β}(h:o.bind f=some b):∃a,o=some a/\f a=some b:=Option.bind_eq_some_iff.mp h
def ad{α β:Type _}{o:Option α}{f:α->β}{b:β}(h:o.map f=some b):∃a,o=some a/\f a=b:=Option.map_eq_some_iff.mp h
set_option compiler.extract_closed false
local macro_rules | `(tactic| omega) => `(tactic| first | lia | omega (config := {}))
namespace Ea
open PySem PySem.W
def dA(s:Stmt):Arguments:=match s with
 |.FunctionDef _ a _ _ _ _ _ _ _ _=>a
 |_=>{ posonlyargs:=[],args:=[],vararg:=none,kwonlyargs:=[],kw_defaults:=[],kwarg:=none,defaults:=[] }
def dB(s:Stmt):List Stmt:=match s with
 |.FunctionDef _ _ b _ _ _ _ _ _ _=>b
 |_=>[]
def dS(s:Stmt):Scope:=match s with
 |.FunctionDef _ _ _ _ _ _ sc _ _ _=>sc
 |_=>{ kind:=.function,names:=[],isGenerator:=false,isCoroutine:=false }
def tO(o:Obj):Option Addr:=match o.data with
 | .fields vs=>(match (vs[11]?:Option Value)with
  |some (Value.ref P)=>some P
  | _=>none)
 |_=>none
def At(K:Frag)(n:Str)(s:Stmt)(f:Addr)(cd:Value):Prop:=∃oc kV dc pm ct od an sl,nsIn K mainGlobals n=some (some (.ref f))/\K.lookup f=some ⟨oc,od,.func (fnOf n n (dA s) (dB s) (dS s) .none kV dc pm an cd ct),sl⟩/\codeIn K cd n=true/\keepIn K (.ref f)=true
def Fe(K:Frag)(n:Str)(s:Stmt):Prop:=∃f cd,At K n s f cd
def Fl(K:Frag)(n:Str)(s:Stmt)(p:Addr):Prop:=∃f ca ob,At K n s f (.ref ca)/\K.lookup ca=some ob/\tO ob=some p
section
variable{K:Frag}{n:Str}{s:Stmt}{f ca p:Addr}{oc kV dc pm cd ct:Value}{od an:Option Addr}{sl:Array (Option Value)}{ob:Obj}
def feI(a:nsIn K mainGlobals n=some (some (.ref f)))(l:K.lookup f=some ⟨oc,od,.func (fnOf n n (dA s) (dB s) (dS s) .none kV dc pm an cd ct),sl⟩)(c:codeIn K cd n=true)(k:keepIn K (.ref f)=true):Fe K n s:=⟨f,cd,_,_,_,_,_,_,_,_,a,l,c,k⟩
end
abbrev XT:List Str:=["list","tuple","len","range","repr","sum","min","max","abs","all","any","sorted","zip","isinstance","int","bool","str","set","enumerate","reversed","dict"]
def Zs(K:Frag):Prop:=∀n∈XT,nsIn K mainGlobals n=some none
def Zg(K:Frag)(l:List Str):Prop:=∀n∈l,nsIn K mainGlobals n=some none
def zs0{K:Frag}:Zg K []:=λ_ h=>nomatch h
def zs1{K:Frag}{n:Str}{l:List Str}(h:nsIn K mainGlobals n=some none)(r:Zg K l):Zg K (n::l):=λm hm=>by
 rcases mem_cons.mp hm with rfl|hm
 .exact h
 .exact r m hm
end Ea
namespace Hl
open PySem PySem.W PyProof.Rows
def MP(p:Program)(w:World)(m:Nat)(ann:Option Value):Nat->SharedT->Thread->Option SharedT
 |0,_,_=>none
 |n+1,s,t=>match through t with
  |true=>some s
  |false=>match stepOk m ann t with
   |false=>none
   |true=>match stepT (denote treeTable) p w s t with
    |some (s',t')=>MP p w m ann n s' t'
    |none=>none
def LY{p:Program}{w:World}{m:Nat}{ann:Option Value}:∀{n:Nat} {s s':SharedT} {t:Thread},MP p w m ann n s t=some s'->topRun treeTable p w m ann n s.abs t=some s'.abs
 |0,_,_,_,h=>by cases h
 |n+1,s,s',t,h=>by
  rw[MP]at h;rw[topRun];cases h1:through t with
  |true=>rw[h1]at h;cases h;rfl
  |false=>
   rw[h1]at h;cases h2:stepOk m ann t with
   |false=>rw[h2]at h;cases h
   |true=>
    rw[h2]at h;cases h3:stepT (denote treeTable) p w s t with
    |none=>rw[h3]at h;cases h
    |some r=>obtain⟨s2,t2⟩:=r;rw[h3]at h;rw[stepT_spec h3];exact LY h
def Qi:Nat->List Obj->BT->BT
 |_,[],t=>t
 |n,o::r,t=>Qi (n+1) r (t.ins n o)
def bT(P:Params):BT:=Qi 0 (boot_heap P).objs.toList .nil
def XS(P:Params):absHeap (bT P) 11 (boot_heap P).life=boot_heap P:=by kernel_rfl
def Z3(P:Params):((boot_heap P).isNs mainGlobals,(boot_heap P).nsMap mainGlobals "__annotations__")=(true,some (.ref 6)):=by kernel_rfl
variable{p q:Program}{loose:List Str}{Xt:Shared->Bool}{α:Type}{Yf:Shared->α}{Ya:World->α}{N M:Nat}
def Wp(p q:Program)(loose:List Str)(Xt:Shared->Bool)(Yf:Shared->α)(M:Nat)(w:World)(os:OsState):=
 match MP p w 11 (some (.ref 6)) M ⟨bT w.params,11,(boot_heap w.params).life,Array.mk [],boot_drawn,boot_toks,os⟩ (topStub p)with
 | some s=>(match staticsOk (importedModules p.main.body) (boot_heap w.params) s.abs.heap&&namesBound p s.abs.heap&&gensDone s.abs&&laidKept (boot_heap w.params) s.abs.heap with
  |true=>some (openSeen q loose (importedModules p.main.body) Xt true s.abs,Yf s.abs)
  | false=>none)
 |none=>none
def left(e:opening p=plainProg p.main.scope.names)(f:∀s,fenceModules? p s=some s)(hN:Nat.ble 600 N=true)(hM:Nat.ble M N=true)(h:∀w os,Wp p q loose Xt Yf M w os=some (openGood q loose,Ya w)):LeftO p q loose Xt Yf Ya N:=λw=>by
 obtain⟨⟨hp,gs,d,k,os⟩,e1,e2⟩:=ad (boot_open e hN f w);simp only[Prod.mk.injEq]at e2;obtain⟨rfl,rfl,rfl,rfl⟩:=e2;have hl:=h w os;unfold Wp at hl;split at hl
 .next s hs=>
  have r:=topRun_mono (N-M) _ _ _ _ (LY hs);rw[show M+(N-M)=N by have:=Nat.le_of_ble_eq_true hM;omega]at r;have ea:(SharedT.mk (bT w.params) 11 (boot_heap w.params).life (Array.mk []) boot_drawn boot_toks os).abs=⟨boot_heap w.params,Array.mk [],boot_drawn,boot_toks,os⟩:=by
   show Shared.mk (absHeap (bT w.params) 11 (boot_heap w.params).life) _ _ _ _=_;rw[XS]
  rw[ea]at r;obtain⟨z1,z2⟩:=Prod.mk.inj (Z3 w.params);have z3:(boot_heap w.params).objs.size=11:=rfl;split at hl
  .next c=>
   show((fencedOpening treeTable p w N).bind (topFrom treeTable p w N)).map _=_;rw[e1,bind_some];have t:topFrom treeTable p w N ⟨boot_heap w.params,Array.mk [],boot_drawn,boot_toks,os⟩=some s.abs:=by
    unfold topFrom;dsimp only;rw[z1,z2,z3,r];show(match staticsOk (importedModules p.main.body) (boot_heap w.params) s.abs.heap&&namesBound p s.abs.heap&&gensDone s.abs&&laidKept (boot_heap w.params) s.abs.heap with|true=>some s.abs|false=>none)=_;rw[c]
   rw[t];exact hl
  .cases hl
 .cases hl
end Hl
namespace T05
open PySem PySem.W PyProof.Rows Ea
def top(i:Nat):Stmt:=PySem.Challenge.pw_benchdays_k05_works_by_kind.main.body.getD i (.Pass ⟨0,0,0,0⟩)
def vw:PySem.Program:={ PySem.Challenge.pw_benchdays_k05_works_by_kind with main:={ PySem.Challenge.pw_benchdays_k05_works_by_kind.main with body:=[1,2,3,4,6,7,8,10,11,12,13,14,15,16,18,19,20,21,22,23,24,25,26,27,28,29,30,31,32].map top } }
def NW(K:Frag):Prop:=Zs K/\Fe K "law" (top 32)/\Fe K "is_number" (top 1)/\Fe K "is_number_from" (top 2)/\Fe K "is_tuple_of" (top 3)/\Fe K "rises" (top 4)/\Fe K "is_row" (top 6)/\Fe K "is_rows" (top 7)/\Fe K "is_cost" (top 8)/\Fe K "is_work" (top 10)/\Fe K "is_works" (top 11)/\Fe K "_law_tape" (top 18)/\Fe K "_law_pick" (top 19)/\Fe K "_law_strange" (top 20)/\Fe K "_law_bent" (top 21)/\Fe K "_law_is_number" (top 22)/\Fe K "_law_are_rows" (top 25)/\Fe K "_law_is_cost" (top 24)/\Fe K "_law_is_work" (top 26)/\Fe K "_law_are_works" (top 27)/\Fe K "_law_cost" (top 23)/\Fe K "_law_works" (top 28)/\Fe K "_law_near" (top 29)/\Fe K "all_length" (top 12)/\Fe K "same_coming" (top 13)/\Fe K "_law_told_right" (top 30)/\Fe K "with_work" (top 14)/\Fe K "with_length" (top 15)/\Fe K "with_coming" (top 16)/\Fe K "_law_changed_right" (top 31)
def Yr{K:Frag}(z:Zs K)(h0:Fe K "law" (top 32))(h1:Fe K "is_number" (top 1))(h2:Fe K "is_number_from" (top 2))(h3:Fe K "is_tuple_of" (top 3))(h4:Fe K "rises" (top 4))(h5:Fe K "is_row" (top 6))(h6:Fe K "is_rows" (top 7))(h7:Fe K "is_cost" (top 8))(h8:Fe K "is_work" (top 10))(h9:Fe K "is_works" (top 11))(h10:Fe K "_law_tape" (top 18))(h11:Fe K "_law_pick" (top 19))(h12:Fe K "_law_strange" (top 20))(h13:Fe K "_law_bent" (top 21))(h14:Fe K "_law_is_number" (top 22))(h15:Fe K "_law_are_rows" (top 25))(h16:Fe K "_law_is_cost" (top 24))(h17:Fe K "_law_is_work" (top 26))(h18:Fe K "_law_are_works" (top 27))(h19:Fe K "_law_cost" (top 23))(h20:Fe K "_law_works" (top 28))(h21:Fe K "_law_near" (top 29))(h22:Fe K "all_length" (top 12))(h23:Fe K "same_coming" (top 13))(h24:Fe K "_law_told_right" (top 30))(h25:Fe K "with_work" (top 14))(h26:Fe K "with_length" (top 15))(h27:Fe K "with_coming" (top 16))(h28:Fe K "_law_changed_right" (top 31)):NW K:=⟨z,h0,h1,h2,h3,h4,h5,h6,h7,h8,h9,h10,h11,h12,h13,h14,h15,h16,h17,h18,h19,h20,h21,h22,h23,h24,h25,h26,h27,h28⟩
local macro_rules | `(tactic| o_head $H) => `(tactic| (refine holds_open (r := PySem.Challenge.rw_benchdays_k05_works_by_kind.row) (q := T05.vw) (loose := []) (Xt := λ s => xlAt T05.vw [] s && recOk (RowW.records (OpenRow.toRowW PySem.Challenge.rw_benchdays_k05_works_by_kind.row)) s) (XP := XL T05.vw []) (Yf := Hook.obs $H) (Ya := Hook.val $H) (YP := Hook.says $H) (N := 100000) ?hl (Hook.of $H) (Hook.keeps $H) (λ s e => xl_of s (Bool.and_eq_true_iff.mp e).1) XL.keeps (by rfl) (by rfl) (by rfl) (λ s e => recFacts_of (Bool.and_eq_true_iff.mp e).2) (by rfl) (by first | assumption | decide +kernel) (by decide +kernel) ⟨rfl, rfl, rfl, rfl, rfl, by decide +kernel⟩ ?hw ?hc; (case hl => exact Hl.left (M := 10000) (by rfl) (λ s => by rfl) (by decide) (by decide) λ w os => by kernel_rfl)))
set_option maxRecDepth 100000 in
set_option maxHeartbeats 0 in
def early(hG:∀(K:Params->Frag),(∀w:World,NW (K w.params))->∀d:DefRec,d.name="law"->d.params.defaults=[]->WalkO T05.vw [] (XL T05.vw []) (λw h=>(K w.params).In h) PySem.Challenge.rw_benchdays_k05_works_by_kind.row.toRowW d [] (λf vs=>PySem.call f vs)):PySem.Challenge.rw_benchdays_k05_works_by_kind.Holds:=by
 w_on;o_law;k_head;(case hw=>w_witness2)
 k_fill
 refine λw s₀ s₁ mg mb G Y=>hG _ ?F _ rfl rfl w s₀ s₁ mg mb G (kIn_of Y)
 case F=>
  intro w;refine' Yr ?z ?h0 ?h1 ?h2 ?h3 ?h4 ?h5 ?h6 ?h7 ?h8 ?h9 ?h10 ?h11 ?h12 ?h13 ?h14 ?h15 ?h16 ?h17 ?h18 ?h19 ?h20 ?h21 ?h22 ?h23 ?h24 ?h25 ?h26 ?h27 ?h28
  case z=>(refine' zs1 _ (zs1 _ (zs1 _ (zs1 _ (zs1 _ (zs1 _ (zs1 _ (zs1 _ (zs1 _ (zs1 _ (zs1 _ (zs1 _ (zs1 _ (zs1 _ (zs1 _ (zs1 _ (zs1 _ (zs1 _ (zs1 _ (zs1 _ (zs1 _ (zs0)))))))))))))))))))))<;>k_is)
  case h0|h1|h2|h3|h4|h5|h6|h7|h8|h9|h10|h11|h12|h13|h14|h15|h16|h17|h18|h19|h20|h21|h22|h23|h24|h25|h26|h27|h28=>(refine' feI ?a ?l ?c ?k;case a|l|c|k=>k_is)
end T05
namespace L2
open PySem PySem.Spec PyProof.Rows
abbrev Key:=Sum Int Str
def Gh:Key->Value->Bool
 |.inl k,v=>Value.isInt k v
 |.inr x,v=>Value.isStrOf x v
def Yp(w:World):Key->Int
 |.inl k=>hashInt k
 |.inr x=>hashStr w x
def Ba:∀{k:Key} {v:Value},Gh k v=true->(∃i t,k=Sum.inl i/\v=Value.int i t)∨(∃x t,k=Sum.inr x/\v=Value.str x t)
 |.inl i,v,h=>by
  obtain⟨t,e⟩:=Value.isInt_shape (k:=i) (v:=v) h;exact .inl ⟨i,t,rfl,e⟩
 |.inr x,v,h=>by
  obtain⟨t,e⟩:=Value.isStrOf_shape (x:=x) (v:=v) h;exact .inr ⟨x,t,rfl,e⟩
def OO(i:Int)(t:Tok):Gh (.inl i) (.int i t)=true:=by simp[Gh,Value.isInt]
def ON(x:Str)(t:Tok):Gh (.inr x) (.str x t)=true:=by simp[Gh,Value.isStrOf]
def Wt(a b:Int):decide ((Sum.inl a:Key)=Sum.inl b)=(a==b):=by
 by_cases e:a=b
 .subst e;simp
 .have h:¬ (Sum.inl a:Key)=Sum.inl b:=λq=>e (Sum.inl.inj q);rw[decide_eq_false h];exact(beq_eq_false_iff_ne.mpr e).symm
def Wq(a b:Str):decide ((Sum.inr a:Key)=Sum.inr b)=decide (a=b):=by
 by_cases e:a=b
 .subst e;simp
 .have h:¬ (Sum.inr a:Key)=Sum.inr b:=λq=>e (Sum.inr.inj q);rw[decide_eq_false h,decide_eq_false e]
def Ws(a:Int)(b:Str):decide ((Sum.inl a:Key)=Sum.inr b)=false:=decide_eq_false (λq=>nomatch q)
def Wr(a:Str)(b:Int):decide ((Sum.inr a:Key)=Sum.inl b)=false:=decide_eq_false (λq=>nomatch q)
def BD(prog:Program)(w:World):PySem.KeyKind prog w Key where
 is:=Gh
 hash:=Yp w
 inj:=λv a b ha hb=>by
  rcases Ba ha with⟨i,t,rfl,rfl⟩|⟨x,t,rfl,rfl⟩
  .rcases Ba hb with⟨j,u,rfl,e⟩|⟨y,u,rfl,e⟩
   .injection e with e1 _;rw[e1]
   .exact nomatch e
  .rcases Ba hb with⟨j,u,rfl,e⟩|⟨y,u,rfl,e⟩
   .exact nomatch e
   .injection e with e1 _;rw[e1]
 byValue:=λk v h=>by
  rcases Ba h with⟨i,t,rfl,rfl⟩|⟨x,t,rfl,rfl⟩<;>rfl
 pyHash:=λhv h=>by
  rcases Ba hv with⟨i,t,rfl,rfl⟩|⟨x,t,rfl,rfl⟩
  .exact wpAny_pyHash_int h
  .exact wpAny_pyHash_str h
 eqBool:=λhu hv h=>by
  rcases Ba hu with⟨i,t,rfl,rfl⟩|⟨x,t,rfl,rfl⟩
  .rcases Ba hv with⟨j,u,rfl,rfl⟩|⟨y,u,rfl,rfl⟩
   .rw[Wt]at h;exact wpAny_eqBool_int h
   .rw[Ws]at h;exact SeqAt.EqAt.int_str i t y u _ _ _ _ h
  .rcases Ba hv with⟨j,u,rfl,rfl⟩|⟨y,u,rfl,rfl⟩
   .rw[Wr]at h;exact SeqAt.EqAt.str_int x t j u _ _ _ _ h
   .rw[Wq]at h;exact wpAny_eqBool_str h
 «strs»:=λk x t v h=>by
  rcases Ba h with⟨i,u,rfl,e⟩|⟨y,u,rfl,e⟩
  .exact nomatch e
  .injection e with e1 _
   subst e1;cases v<;>rfl
def LN(prog:Program)(w:World)(i:Int)(t:Tok):(BD prog w).is (.inl i) (.int i t)=true:=OO i t
def LM(prog:Program)(w:World)(x:Str)(t:Tok):(BD prog w).is (.inr x) (.str x t)=true:=ON x t
inductive V where
 |non|bl (b:Bool)|int (i:Int)|str (x:Str)|byt (b:Array UInt8)|flt (b:UInt64)|ref (a:Addr)|ty (n:String)
 deriving DecidableEq
def RelV:V->Value->Prop
 |.non,u=>u=Value.none
 |.bl b,u=>u=Value.bool b
 |.int i,u=>∃t,u=Value.int i t
 |.str x,u=>∃t,u=Value.str x t
 |.byt b,u=>∃t,u=Value.bytes b t
 |.flt b,u=>∃t,u=Value.float b t
 |.ref a,u=>u=Value.ref a
 |.ty n,u=>u=Value.type n
abbrev Vals:List V->List Value->Prop:=Paired RelV
def Vals.length{xs:List V}{us:List Value}(r:Vals xs us):xs.length=us.length:=Paired.length r
def Vals.get:∀{xs:List V} {us:List Value} {i:Nat} {x:V},Vals xs us->xs[i]?=some x->∃u,us[i]?=some u/\RelV x u
 |_,_,_,_,.nil,e=>by simp at e
 |_,_,0,_,.cons r _,e=>by simp at e;subst e;exact⟨_,rfl,r⟩
 |_,_,i+1,x,.cons _ t,e=>by
  obtain⟨u,h1,h2⟩:=Vals.get (i:=i) (x:=x) t (by simpa using e);exact⟨u,by simpa using h1,h2⟩
def Vals.set{x:V}{u:Value}(r:RelV x u):∀{xs:List V} {us:List Value} (i:Nat),Vals xs us->Vals (xs.set i x) (us.set i u)
 |_,_,_,.nil=>.nil
 |_,_,0,.cons _ t=>.cons r t
 |_,_,i+1,.cons q t=>.cons q (Vals.set r i t)
def Vals.append:∀{xs ys:List V} {us ws:List Value},Vals xs us->Vals ys ws->Vals (xs++ys) (us++ws)
 |_,_,_,_,.nil,s=>s
 |_,_,_,_,.cons r t,s=>.cons r (Vals.append t s)
def Vals.take:∀{xs:List V} {us:List Value} (n:Nat),Vals xs us->Vals (xs.take n) (us.take n)
 |_,_,0,_=>.nil
 |_,_,_+1,.nil=>.nil
 |_,_,n+1,.cons r t=>.cons r (Vals.take n t)
def Vals.drop:∀{xs:List V} {us:List Value} (n:Nat),Vals xs us->Vals (xs.drop n) (us.drop n)
 |_,_,0,r=>r
 |_,_,_+1,.nil=>.nil
 |_,_,n+1,.cons _ t=>Vals.drop n t
def RelO:Option V->Option Value->Prop
 |some v,some u=>RelV v u
 |none,none=>True
 |_,_=>False
def KV{κ:Type}:List (κ×V)->List (κ×Value)->Prop:=Paired λ(p:κ×V) (q:κ×Value)=>p.1=q.1/\RelV p.2 q.2
def kV:Key->V
 |.inl i=>.int i
 |.inr x=>.str x
inductive HO where
 /-- a list -/
 |lst (xs:List V)
 /-- a tuple (never changes) -/
 |tup (xs:List V)
 /-- a dict whose keys are ints and texts;one whose keys are tuples of ints and texts (the empty one is both) -/
 |dK (kvs:List (Key×V))|dT (kvs:List (List Key×V))
 /-- a set of ints: its members,its size -/
 |set (S:Int->Bool) (n:Nat)
 /-- an instance of the class at C,its dict at dx,its attributes -/
 |ins (C dx:Addr) (fs:List (Str×V))
 /-- the dict of the instance at x -/
 |own (x:Addr)
 /-- the dict of an exception -/
 |xd (fs:List (Str×V))
 /-- a bound method,f of x -/
 |met (f x:Addr)
 /-- a range object lo,lo+1,.. below hi -/
 |rng (lo hi:Int)
 /-- a thing that is known to the object (the script;a dict while a loop walks it): read,never written while it is so -/
 |frz (o:Obj) (u:HO)
 /-- a code object's table -/
 |tbl (ps:Array Value)
 /-- any other thing,by what is true of its one object (a def of one's own: SetO a S n:=HO.ext λh=>..) -/
 |ext (φ:Heap->Prop)
abbrev Hp:=Addr->Option HO
def upd(H:Hp)(a:Addr)(o:HO):Hp:=λb=>if b=a then some o else H b
def Ag{H:Hp}{a:Addr}{o:HO}:upd H a o a=some o:=by unfold upd;rw[if_pos rfl]
def AZ{H:Hp}{a b:Addr}{o:HO}(h:b≠a):upd H a o b=H b:=by unfold upd;rw[if_neg h]
def Y6{H:Hp}{a b:Addr}{o u:HO}(h:H a=some o)(h':H b=some u)(d:o≠u):a≠b:=by
 intro e;subst e;rw[h]at h';exact d (Option.some.inj h')
def Au{H:Hp}{a b:Addr}{o:HO}(h:H a=some o)(h':H b=none):a≠b:=by
 intro e;subst e;rw[h]at h';cases h'
def IsTupD(h:Heap)(a:Addr)(items:Array Value):Prop:=∃o,h.get? a=some o/\o.cls=.type "tuple"/\(∃n,o.data=.seq items n)/\o.dict=none
def IsTupD.t{h:Heap}{a:Addr}{items:Array Value}(x:IsTupD h a items):IsTup h a items:=let ⟨o,e,c,d,_⟩:=x;⟨o,e,c,d⟩
def IsTupD.new(h:Heap)(items:Array Value):IsTupD (h.push { cls:=.type "tuple",data:=.seq items }) h.objs.size items:=⟨_,Heap.get?_push_size _ rfl,rfl,⟨_,rfl⟩,rfl⟩
section
variable(P:Program)(w:World)
def ObjOk(H:Hp)(h:Heap)(a:Addr):HO->Prop
 |.lst xs=>xs.length<=sizeLine/\∃(its:List Value) (n:Nat),Vals xs its/\h.get? a=some { cls:=.type "list",data:=.seq its.toArray n }
 |.tup xs=>xs.length<=sizeLine/\∃its:List Value,Vals xs its/\IsTupD h a its.toArray
 |.dK kvs=>kvs.length<=sizeLine/\(a==sysModules)=false/\∃vs,KV kvs vs/\h.DictOf (BD P w) a vs
 |.dT kvs=>kvs.length<=sizeLine/\(a==sysModules)=false/\∃xs:List (List Key×Addr×Value),
  Paired (λ(p:List Key×V) (q:List Key×Addr×Value)=>p.1=q.1/\H q.2.1=some (.tup (p.1.map kV))/\RelV p.2 q.2.2) kvs xs /\
  ∃o es ep,h.get? a=some o/\o.ExactDict/\o.data=.dict es ep/\es.toList=xs.map (entryOfKey (tupleKind (BD P w)))/\(xs.map (·.1)).Nodup
 |.set S n=>h.SetOf (intKind P w) a S n
 |.ins C dx fs=>H dx=some (.own a)/\fs.length<=1000/\dx≠a/\h.get? a=some (PySem.W.instObj C dx)/\
  ∃mA,h.Ns1 dx mA/\(∀f,RelO (fs.lookup f) (mA f))/\PySem.Within mA (fs.map (·.1))
 |.own _=>∃o,h.get? a=some o
 |.xd fs=>∃mA,h.Ns1 a mA/\∀f,RelO (fs.lookup f) (mA f)
 |.rng lo hi=>∃t u v,h.get? a=some { cls:=.type "range",data:=.fields #[.int lo t,.int hi u,.int 1 v] }
 |.frz o u=>h.get? a=some o/\ObjOk H h a u
 |.tbl ps=>h.get? a=some { cls:=.none,data:=.fields ps }
 |.met f x=>h.get? a=some (PySem.W.methodObj (.ref f) (.ref x))
 |.ext φ=>φ h/\(∃o,h.get? a=some o)/\∀h1 h2:Heap,φ h1->(∀o,h1.get? a=some o->h2.get? a=some o)->φ h2
def HOk(H:Hp)(h:Heap):Prop:=∀a o,H a=some o->ObjOk P w H h a o
end
section
variable{P:Program}{w:World}{H H':Hp}{h h':Heap}{a:Addr}{o:HO}
def ObjOk.lt(x:ObjOk P w H h a o):a<h.objs.size:=by
 cases o with
 |lst xs=>obtain⟨_,_,_,_,e⟩:=x;exact Heap.lt_size e
 |tup xs=>obtain⟨_,_,_,o,e,_⟩:=x;exact Heap.lt_size e
 |dK kvs=>obtain⟨_,_,_,_,o,_,_,e,_⟩:=x;exact Heap.lt_size e
 |dT kvs=>obtain⟨_,_,_,_,o,_,_,e,_⟩:=x;exact Heap.lt_size e
 |set S n=>obtain⟨o,_,_,_,e,_⟩:=x;exact Heap.lt_size e
 |ins C dx fs=>obtain⟨_,_,_,e,_⟩:=x;exact Heap.lt_size e
 |own y=>obtain⟨_,e⟩:=x;exact Heap.lt_size e
 |xd fs=>obtain⟨_,⟨_,_,_,e,_⟩,_⟩:=x;exact Heap.lt_size e
 |rng lo hi=>obtain⟨_,_,_,e⟩:=x;exact Heap.lt_size e
 |frz ob u=>obtain⟨e,_⟩:=x;exact Heap.lt_size e
 |tbl ps=>exact Heap.lt_size (show h.get? a=some _ from x)
 |met f y=>exact Heap.lt_size (show h.get? a=some _ from x)
 |ext φ=>obtain⟨_,⟨_,e⟩,_⟩:=x;exact Heap.lt_size e
def Paired.mapP{α β:Type}{F G:α->β->Prop}:∀{l₁:List α} {l₂:List β},Paired F l₁ l₂->(∀a b,F a b->G a b)->Paired G l₁ l₂
 |_,_,.nil,_=>.nil
 |_,_,.cons r t,f=>.cons (f _ _ r) (Paired.mapP t f)
def ObjOk.stay(x:ObjOk P w H h a o)(k:∀b u,(b=a∨H b=some (.own a))->h.get? b=some u->h'.get? b=some u)
 (ho:∀b,H b=some (.own a)->H' b=some (.own a)) (ht:∀b xs,H b=some (.tup xs)->H' b=some (.tup xs)):ObjOk P w H' h' a o:=by
 induction o with
 |lst xs=>obtain⟨z,its,n,r,e⟩:=x;exact⟨z,its,n,r,k _ _ (.inl rfl) e⟩
 |tup xs=>obtain⟨z,its,r,ob,e,c⟩:=x;exact⟨z,its,r,ob,k _ _ (.inl rfl) e,c⟩
 |dK kvs=>obtain⟨z,y,vs,r,ob,es,ep,e,c⟩:=x;exact⟨z,y,vs,r,ob,es,ep,k _ _ (.inl rfl) e,c⟩
 |dT kvs=>
  obtain⟨z,y,xs,r,ob,es,ep,e,c⟩:=x;exact⟨z,y,xs,Paired.mapP r λp q z=>⟨z.1,ht _ _ z.2.1,z.2.2⟩,ob,es,ep,k _ _ (.inl rfl) e,c⟩
 |set S n=>obtain⟨ob,es,ep,t,e,c⟩:=x;exact⟨ob,es,ep,t,k _ _ (.inl rfl) e,c⟩
 |ins C dx fs=>
  obtain⟨d,z,ne,e,mA,⟨od,es,ep,e2,c⟩,r⟩:=x;exact⟨ho _ d,z,ne,k _ _ (.inl rfl) e,mA,⟨od,es,ep,k _ _ (.inr d) e2,c⟩,r⟩
 |own y=>obtain⟨ob,e⟩:=x;exact⟨ob,k _ _ (.inl rfl) e⟩
 |xd fs=>obtain⟨mA,⟨od,es,ep,e,c⟩,r⟩:=x;exact⟨mA,⟨od,es,ep,k _ _ (.inl rfl) e,c⟩,r⟩
 |rng lo hi=>obtain⟨t,u,v,e⟩:=x;exact⟨t,u,v,k _ _ (.inl rfl) e⟩
 |frz ob u ih=>obtain⟨e,q⟩:=x;exact⟨k _ _ (.inl rfl) e,ih q⟩
 |tbl ps=>
  have e:h.get? a=some { cls:=.none,data:=.fields ps }:=x;show h'.get? a=some { cls:=.none,data:=.fields ps };exact k a _ (.inl rfl) e
 |met f y=>
  have e:h.get? a=some (PySem.W.methodObj (.ref f) (.ref y)):=x;show h'.get? a=some (PySem.W.methodObj (.ref f) (.ref y));exact k a _ (.inl rfl) e
 |ext φ=>obtain⟨p,⟨o,e⟩,st⟩:=x;exact⟨st _ _ p λo q=>k _ _ (.inl rfl) q,⟨o,k _ _ (.inl rfl) e⟩,st⟩
def HOk.lt(x:HOk P w H h)(e:H a=some o):a<h.objs.size:=(x a o e).lt
def HOk.fresh(x:HOk P w H h)(e:h.objs.size<=a):H a=none:=by
 cases q:H a with
 |none=>rfl
 |some u=>exact absurd (lt_of_lt_of_le (x.lt q) e) (lt_irrefl _)
def HOk.kept(x:HOk P w H h)(k:∀b u,h.get? b=some u->h'.get? b=some u):HOk P w H h':=λa o e=>
 (x a o e).stay (λb u _ q=>k b u q) (λ_ q=>q) λ_ _ q=>q
def HOk.laid(x:HOk P w H h)(k:∀b u,h.get? b=some u->h'.get? b=some u)(hp:h.objs.size<=a)(new:ObjOk P w (upd H a o) h' a o):HOk P w (upd H a o) h':=λb u e=>by
 have hn:=x.fresh hp;by_cases hb:b=a
 .subst hb;rw[Ag]at e;cases e;exact new
 .rw[AZ hb]at e;exact(x b u e).stay (λc v _ q=>k c v q) (λc q=>by rw[AZ (Au q hn)];exact q) λc xs q=>by rw[AZ (Au q hn)];exact q
end
def Rd(H:Hp)(a:Addr)(u:HO):Prop:=H a=some u∨∃o,H a=some (.frz o u)
def Rd.ok{P:Program}{w:World}{H:Hp}{h:Heap}{a:Addr}{u:HO}(r:Rd H a u)(x:HOk P w H h):ObjOk P w H h a u:=by
 rcases r with r|⟨o,r⟩
 .exact x a u r
 .obtain⟨_,q⟩:=x a _ r;exact q
def Mut:Option HO->Prop
 |some (.lst _)=>True
 |some (.dK _)=>True
 |some (.dT _)=>True
 |some (.set _ _)=>True
 |some (.ins _ _ _)=>True
 |some (.ext _)=>True
 |_=>False
section
variable{P:Program}{w:World}{H:Hp}{h h':Heap}{x e:Addr}{o':HO}
def HOk.write(ok:HOk P w H h)(mu:Mut (H x))(he:e=x∨H e=some (.own x))(k:∀b u,b≠e->h.get? b=some u->h'.get? b=some u)(heo:∃u,h'.get? e=some u)
 (new:ObjOk P w (upd H x o') h' x o'):HOk P w (upd H x o') h':=λb u q=>by
 have nown:∀c y,H c=some (.own y)->c≠x:=λc y r z=>by subst z;rw[r]at mu;exact mu
 have ntup:∀c xs,H c=some (.tup xs)->c≠x:=λc xs r z=>by subst z;rw[r]at mu;exact mu
 by_cases hb:b=x
 .subst hb;rw[Ag]at q;cases q;exact new
 .rw[AZ hb]at q;by_cases hbe:b=e
  .have q':H b=some (.own x):=by
    rcases he with z|z
    .exact absurd (hbe.trans z) hb
    .rw[hbe];exact z
   rw[q]at q';cases q';obtain⟨v,hv⟩:=heo;exact⟨v,by rw[hbe];exact hv⟩
  .refine(ok b u q).stay (λc v hc r=>k c v ?_ r) (λc r=>by rw[AZ (nown c b r)];exact r) λc xs r=>by rw[AZ (ntup c xs r)];exact r
   rcases hc with rfl|hc
   .exact hbe
   .rintro rfl;rcases he with z|z
    .exact nown c b hc z
    .rw[hc]at z;cases z;exact hb rfl
end
structure Un(fs ex:List Addr)(H H':Hp)(h h':Heap):Prop where
 keep:∀b o,h.get? b=some o->H b=none->b∉fs->b∉ex->h'.get? b=some o
 slot:∀b o,h.get? b=some o->H b=none->b∈fs->b∉ex->∃sl,h'.get? b=some { o with slots:=sl }
 free:∀b o,h.get? b=some o->H b=none->b∉ex->H' b=none
 there:∀b o,h.get? b=some o->b∉ex->∃o',h'.get? b=some o'
 tups:∀b xs,H b=some (.tup xs)->H' b=some (.tup xs)
 frzs:∀b o u,H b=some (.frz o u)->H' b=some (.frz o u)
 tbls:∀b ps,H b=some (.tbl ps)->∃more,H' b=some (.tbl (ps++more))
section
variable{fs fs' ex ex':List Addr}{H H1 H2:Hp}{h h1 h2 h':Heap}{a x e:Addr}{o:HO}
def Un.any(u:Un fs ex H H1 h h1){b:Addr}{ob:Obj}(q:h.get? b=some ob)(n:H b=none)(hx:b∉ex):∃sl,h1.get? b=some { ob with slots:=sl }:=by
 by_cases hb:b∈fs
 .exact u.slot b ob q n hb hx
 .exact⟨ob.slots,u.keep b ob q n hb hx⟩
def Un.kept(k:∀b u,h.get? b=some u->h'.get? b=some u):Un fs ex H H h h':=
 ⟨λb ob q _ _ _=>k b ob q,λb ob q _ _ _=>⟨ob.slots,k b ob q⟩,λ_ _ _ n _=>n,λb ob q _=>⟨ob,k b ob q⟩,λ_ _ q=>q,λ_ _ _ q=>q,λ_ ps q=>⟨#[],by rw[q];simp⟩⟩
def Un.refl:Un fs ex H H h h:=Un.kept λ_ _ q=>q
def Un.laid(k:∀b u,h.get? b=some u->h'.get? b=some u)(hp:h.objs.size<=a)(hn:H a=none):Un fs ex H (upd H a o) h h' where
 keep:=λb u q _ _ _=>k b u q
 slot:=λb u q _ _ _=>⟨u.slots,k b u q⟩
 free:=λb u q n _=>by rw[AZ (ne_of_lt (lt_of_lt_of_le (Heap.lt_size q) hp))];exact n
 there:=λb u q _=>⟨u,k b u q⟩
 tups:=λb xs q=>by rw[AZ (Au q hn)];exact q
 frzs:=λb u xs q=>by rw[AZ (Au q hn)];exact q
 tbls:=λb ps q=>⟨#[],by rw[AZ (Au q hn),q];simp⟩
def Un.write(mu:Mut (H x))(he:e=x∨H e=some (.own x))(k:∀b u,b≠e->h.get? b=some u->h'.get? b=some u)(heo:∃u,h'.get? e=some u):Un fs ex H (upd H x o) h h':=by
 have hx:∀b,H b=none->b≠x:=λb n z=>by subst z;rw[n]at mu;exact mu
 have hb:∀b,H b=none->b≠e:=λb n z=>by
  subst z;rcases he with r|r
  .exact hx b n r
  .rw[n]at r;cases r
 have hm:∀b u,H b=some u->¬ Mut (some u)->b≠x:=λb u q nm z=>by subst z;rw[q]at mu;exact nm mu
 refine⟨λb u q n _ _=>k b u (hb b n) q,λb u q n _ _=>⟨u.slots,k b u (hb b n) q⟩,λb u q n _=>by rw[AZ (hx b n)];exact n,λb u q _=>?_,
  λb xs q=>by rw[AZ (hm b _ q λz=>z)];exact q,λb u xs q=>by rw[AZ (hm b _ q λz=>z)];exact q,λb ps q=>⟨#[],by rw[AZ (hm b _ q λz=>z),q];simp⟩⟩
 by_cases hbe:b=e
 .subst hbe;exact heo
 .exact⟨u,k b u hbe q⟩
end
def trk(h:Heap)(H:Hp):List Addr:=(List.range h.objs.size).filter λa=>(H a).isSome
def Fj(h:Heap)(H:Hp):Heap:=PySem.W.hideAll h (trk h H)
def OQ(h:Heap)(H:Hp):(Fj h H).objs.size=h.objs.size:=PySem.W.hideAll_size _ _
def QJ{h:Heap}{H:Hp}{b:Addr}{o:Obj}(e:h.get? b=some o)(n:H b=none):(Fj h H).get? b=some o:=
 PySem.W.hideAll_get _ e λhm=>by
  have q:(H b).isSome=true:=(List.mem_filter.mp hm).2;rw[n]at q;simp at q
def Tq{h:Heap}{H:Hp}{b:Addr}{o:Obj}(e:(Fj h H).get? b=some o):h.get? b=some o/\H b=none:=by
 have e':h.get? b=some o:=PySem.W.of_hideAll (trk h H) e;refine⟨e',?_⟩;cases q:H b with
 |none=>rfl
 |some x=>
  have hm:b∈trk h H:=List.mem_filter.mpr ⟨List.mem_range.mpr (Heap.lt_size e'),by simp[q]⟩;have z:(Fj h H).get? b=none:=PySem.W.hideAll_none (trk h H) hm;rw[z]at e;cases e
def UI(g h:Heap)(L:Addr):List (Addr×Obj):=(List.range h.objs.size).filterMap λa=>if a=L∨(g.get? a).isSome=true then none else(h.get? a).map λo=>(a,o)
def rest(g h:Heap)(L d:Addr):List (Addr×Obj):=(UI g h L).filter λp=>decide (p.1≠d)
structure Mod(K:PySem.W.Frag)(mg:Str->Option Value)(base:Heap):Prop where
 kin:K.In base
 glob:base.Ns mainGlobals mg
 blt:∃mb,base.Ns builtinsNs mb/\∀x:Str,x≠"__name__"->mb x=bootBuiltins x
 nolimit:base.NoLimit
structure Cx where
 prog:Program
 w:World
 K:PySem.W.Frag
 mg:Str->Option Value
 base:Heap
 A:Around
 N:List Str
 s₀:Shared
 H₀:Hp
 env:Env
 outer:List Env
 stack:List Env
 ex:List Addr
 fn:Str->Bool
 calm:Bool
 pn:List (Addr×Obj)
 xe:Value->Shared->Prop
def frs(l:List Env):List Addr:=l.filterMap (·.frame)
abbrev Cx.fs(X:Cx):List Addr:=frs X.outer
def Vis(sc:Scope)(x:Str):Prop:=sc.names.lookup x=some .local∨sc.names.lookup x=some .cell∨sc.names.lookup x=some .free
def Loc(sc:Scope)(x:Str):Prop:=sc.names.lookup x=some .local∨sc.names.lookup x=some .cell
def Z6(env:Env)(h:Heap)(m:Str->Option Value)(x:Str)(u:Value):Prop:=
 (env.kindOf x=some .local/\m x=some u)∨((env.kindOf x=some .cell∨env.kindOf x=some .free)/\∃c,env.cells.lookup x=some c/\h.IsCell c (some u))
structure Cx.Ok(X:Cx):Prop where
 mod:Mod X.K X.mg X.base
 kind:X.env.scope.kind=.function
 glob:X.env.globals=mainGlobals
 blt:X.env.builtins=builtinsNs
 above:X.s₀.heap.objs.size<=X.env.locals
 inj:∀x y c,X.env.cells.lookup x=some c->X.env.cells.lookup y=some c->x=y
 has:∀x,(X.env.kindOf x=some .cell∨X.env.kindOf x=some .free)->∃c,X.env.cells.lookup x=some c
 cab:∀x c,X.fn x=true->X.env.cells.lookup x=some c->X.s₀.heap.objs.size<=c
 hd:X.calm=true->X.A.handled=none
 frames:X.A.frames=some X.stack
 stk:X.stack=X.outer∨(X.stack=X.env::X.outer/\X.env.frame=some X.env.locals)
 exf:∀b∈X.ex,b≠X.env.locals/\∀x c,X.env.cells.lookup x=some c->c≠b
 bs:∀b o,X.base.get? b=some o->X.s₀.heap.get? b=some o/\X.H₀ b=none
 bsz:X.base.objs.size<=X.s₀.heap.objs.size
 noex:∀b o,X.base.get? b=some o->b∉X.ex
 exfs:∀b∈X.ex,b∉X.fs
 funs:X.s₀.heap.FunFrames X.base X.outer
 frf:∀b∈X.fs,X.H₀ b=none
structure Inv(X:Cx)(pins:List (Addr×Obj))(σ:List (Option V))(H:Hp)(s:Shared):Prop where
 ok:X.Ok
 os:s.os=X.s₀.os
 bare:AllBare s.gens
 base:Un X.fs X.ex X.H₀ H X.s₀.heap s.heap
 loc:∃m,s.heap.Ns X.env.locals m/\∀(i:Nat) (x:Str) (v:V),X.N[i]?=some x->σ[i]?=some (some v)->Vis X.env.scope x->∃u,RelV v u/\Z6 X.env s.heap m x u
 cell:∀x c,X.env.cells.lookup x=some c->∃v,s.heap.IsCell c v
 free:H X.env.locals=none
 freeC:∀x c,X.env.cells.lookup x=some c->H c=none
 pin:∀p∈X.pn++pins,s.heap.get? p.1=some p.2/\H p.1=none/\p.1≠X.env.locals/\p.1∉X.fs/\∀v,p.2.data≠.cell v
 hok:HOk X.prog X.w H s.heap
 len:σ.length=X.N.length
section
variable{X:Cx}{pins:List (Addr×Obj)}{σ:List (Option V)}{H H':Hp}{s:Shared}{h':Heap}
def Cx.Ok.nofr(ok:X.Ok){b:Addr}{o:Obj}(e:X.base.get? b=some o):b∉X.fs:=λhb=>by
 have:=(ok.funs.mem hb).1;rw[e]at this;cases this
def Inv.bs(I:Inv X pins σ H s):∀b o,X.base.get? b=some o->s.heap.get? b=some o/\H b=none:=λb o e=>
 ⟨I.base.keep b o (I.ok.bs b o e).1 (I.ok.bs b o e).2 (I.ok.nofr e) (I.ok.noex b o e),I.base.free b o (I.ok.bs b o e).1 (I.ok.bs b o e).2 (I.ok.noex b o e)⟩
def Inv.bk(I:Inv X pins σ H s):∀b o,X.base.get? b=some o->s.heap.get? b=some o:=λb o e=>(I.bs b o e).1
def Inv.mod(I:Inv X pins σ H s):Mod X.K X.mg X.base:=I.ok.mod
def Inv.kIn(I:Inv X pins σ H s):X.K.In s.heap:=I.ok.mod.kin.keeps I.bk
def Inv.lt(I:Inv X pins σ H s):X.env.locals<s.heap.objs.size:=let ⟨_,hn,_⟩:=I.loc;hn.lt
def Inv.sz(I:Inv X pins σ H s):X.s₀.heap.objs.size<=s.heap.objs.size:=le_trans I.ok.above (le_of_lt I.lt)
def Inv.nofs(I:Inv X pins σ H s){a:Addr}(h:s.heap.objs.size<=a):a∉X.fs:=λhb=>by
 obtain⟨_,o,ho,_⟩:=I.ok.funs.mem hb;exact absurd (lt_of_lt_of_le (Heap.lt_size ho) (le_trans I.sz h)) (lt_irrefl _)
def Inv.cne(I:Inv X pins σ H s):∀x c,X.env.cells.lookup x=some c->c≠X.env.locals:=λx c e z=>by
 obtain⟨v,o,ho,hd⟩:=I.cell x c e;obtain⟨m,⟨o',es,ep,ho',hd',_⟩,_⟩:=I.loc;rw[z,ho']at ho;cases ho;rw[hd']at hd;cases hd
def Inv.funs(I:Inv X pins σ H s):s.heap.FunFrames X.base X.outer:=by
 have all:∀(l:List Env),(∀b∈frs l,b∈X.fs)->X.s₀.heap.FunFrames X.base l->s.heap.FunFrames X.base l:=by
  intro l
  induction l with
  |nil=>intro _ _;trivial
  |cons env r ih=>
   intro hs hl;obtain⟨hk,⟨L,o,hf,hn,ho,hd⟩,hr⟩:=hl;have hL:L∈X.fs:=hs L (by unfold frs;rw[filterMap_cons,hf];exact mem_cons_self);obtain⟨sl,e⟩:=I.base.slot L o ho (I.ok.frf L hL) hL λz=>I.ok.exfs L z hL;exact⟨hk,⟨L,_,hf,hn,e,hd⟩,ih (λb hb=>hs b (by unfold frs;rw[filterMap_cons,hf];exact mem_cons_of_mem _ hb)) hr⟩
 exact all X.outer (λ_ hb=>hb) I.ok.funs
def Inv.stack(I:Inv X pins σ H s):s.heap.FunFrames X.base X.stack:=by
 rcases I.ok.stk with e|⟨e,hf⟩
 .rw[e];exact I.funs
 .rw[e];obtain⟨m,hn,_⟩:=I.loc;refine .cons (by rw[I.ok.kind];decide) hf hn ?_ I.funs;exact Heap.get?_none_of_le (le_trans I.ok.bsz I.ok.above)
def Inv.stkSub(I:Inv X pins σ H s):∀b∈frs X.stack,b∈X.env.locals::X.fs:=λb hb=>by
 rcases I.ok.stk with e|⟨e,hf⟩
 .rw[e]at hb;exact mem_cons_of_mem _ hb
 .rw[e]at hb;unfold frs at hb;rw[filterMap_cons,hf]at hb;exact hb
def Inv.stkFree(I:Inv X pins σ H s):∀b∈frs X.stack,H b=none:=λb hb=>by
 rcases mem_cons.mp (I.stkSub b hb)with e|hb
 .rw[e];exact I.free
 .obtain⟨_,o,ho,_⟩:=I.ok.funs.mem hb;exact I.base.free b o ho (I.ok.frf b hb) λz=>I.ok.exfs b z hb
def Inv.step{g':Array GenState}{t':Nat}{d':Drawn}{ch:List Addr}(I:Inv X pins σ H s)
 (hch:∀b∈ch,(b∈X.ex∨X.s₀.heap.objs.size<=b)/\b≠X.env.locals/\(∀x c,X.env.cells.lookup x=some c->c≠b)/\∀p∈X.pn++pins,p.1≠b)
 (keep:∀b o,b≠X.env.locals->b∉X.fs->b∉ch->s.heap.get? b=some o->H b=none->h'.get? b=some o)
 (slot:∀b o,b≠X.env.locals->b∈X.fs->b∉ch->s.heap.get? b=some o->H b=none->∃sl,h'.get? b=some { o with slots:=sl }) (free:∀b o,b∉ch->s.heap.get? b=some o->H b=none->H' b=none)
 (there:∀b o,b∉ch->s.heap.get? b=some o->∃o',h'.get? b=some o')
 (tups:∀b xs,H b=some (.tup xs)->H' b=some (.tup xs)) (frzs:∀b o u,H b=some (.frz o u)->H' b=some (.frz o u)) (tbls:∀b ps,H b=some (.tbl ps)->∃more,H' b=some (.tbl (ps++more)))
 (ns:∀m,s.heap.Ns X.env.locals m->h'.Ns X.env.locals m) (hok:HOk X.prog X.w H' h') (hg:AllBare g'):
 Inv X pins σ H' { s with heap:=h',gens:=g',drawn:=d',toks:=t' }:=by
 have neL:∀b o,X.s₀.heap.get? b=some o->b≠X.env.locals:=λb o e=>ne_of_lt (lt_of_lt_of_le (Heap.lt_size e) I.ok.above);have neC:∀b o,X.s₀.heap.get? b=some o->b∉X.ex->b∉ch:=λb o e hx hb=>by
  rcases(hch b hb).1 with z|z
  .exact hx z
  .exact absurd (lt_of_lt_of_le (Heap.lt_size e) z) (lt_irrefl _)
 have cellK:∀x c,X.env.cells.lookup x=some c->∀v,s.heap.IsCell c v->h'.IsCell c v:=λx c e v ⟨o,ho,hd⟩=>by
  have nch:c∉ch:=λz=>(hch c z).2.2.1 x c e rfl;by_cases hc:c∈X.fs
  .obtain⟨sl,q⟩:=slot c o (I.cne x c e) hc nch ho (I.freeC x c e);exact⟨_,q,hd⟩
  .exact⟨o,keep c o (I.cne x c e) hc nch ho (I.freeC x c e),hd⟩
 refine⟨I.ok,I.os,hg,⟨λb o e n hb hx=>?_,λb o e n hb hx=>?_,λb o e n hx=>?_,λb o e hx=>?_,λb xs e=>tups b xs (I.base.tups b xs e),λb o xs e=>frzs b o xs (I.base.frzs b o xs e),λb ps e=>?_⟩,?_,λx c e=>?_,?_,λx c e=>?_,λp hp=>?_,hok,I.len⟩
 .exact keep b o (neL b o e) hb (neC b o e hx) (I.base.keep b o e n hb hx) (I.base.free b o e n hx)
 .obtain⟨sl,e1⟩:=I.base.slot b o e n hb hx;obtain⟨sl',e2⟩:=slot b _ (neL b o e) hb (neC b o e hx) e1 (I.base.free b o e n hx);exact⟨sl',e2⟩
 .obtain⟨o',e1⟩:=I.base.there b o e hx;exact free b o' (neC b o e hx) e1 (I.base.free b o e n hx)
 .obtain⟨o',e1⟩:=I.base.there b o e hx;exact there b o' (neC b o e hx) e1
 .obtain⟨m1,e1⟩:=I.base.tbls b ps e;obtain⟨m2,e2⟩:=tbls b _ e1;exact⟨m1++m2,by rw[e2,Array.append_assoc]⟩
 .obtain⟨m,hn,hl⟩:=I.loc;refine⟨m,ns m hn,λi x v e1 e2 e3=>?_⟩;obtain⟨u,r,l⟩:=hl i x v e1 e2 e3;refine⟨u,r,?_⟩;rcases l with l|⟨k,c,e,z⟩
  .exact .inl l
  .exact .inr ⟨k,c,e,cellK x c e _ z⟩
 .obtain⟨v,z⟩:=I.cell x c e;exact⟨v,cellK x c e v z⟩
 .obtain⟨m,⟨o,_,_,ho,_⟩,_⟩:=I.loc;exact free _ o (λz=>(hch _ z).2.1 rfl) ho I.free
 .obtain⟨v,o,ho,hd⟩:=I.cell x c e;exact free c o (λz=>(hch c z).2.2.1 x c e rfl) ho (I.freeC x c e)
 .obtain⟨e,n,ne,nf,d⟩:=I.pin p hp;have nch:p.1∉ch:=λz=>(hch p.1 z).2.2.2 p hp rfl;exact⟨keep p.1 p.2 ne nf nch e n,free p.1 p.2 nch e n,ne,nf,d⟩
def Inv.un{t':Nat}(I:Inv X pins σ H s)(u:Un X.fs [] H H' s.heap h')(hok:HOk X.prog X.w H' h'):Inv X pins σ H' { s with heap:=h',toks:=t' }:=by
 obtain⟨m,⟨o,es,ep,ho,r⟩,_⟩:=id I.loc;obtain⟨sl,hL⟩:=u.any ho I.free (by simp);exact I.step (g':=s.gens) (d':=s.drawn) (ch:=[]) (λ_ z=>nomatch z) (λb o _ hb _ e n=>u.keep b o e n hb (by simp)) (λb o _ hb _ e n=>u.slot b o e n hb (by simp)) (λb o _ e n=>u.free b o e n (by simp)) (λb o _ e=>u.there b o e (by simp)) u.tups u.frzs u.tbls (λm' hm=>by
  obtain⟨o',es',ep',ho',r'⟩:=hm;rw[ho]at ho';cases ho';exact⟨_,es',ep',hL,r'⟩) hok I.bare
def Inv.call{g':Array GenState}{t':Nat}{d':Drawn}{ch:List Addr}(I:Inv X pins σ H s)(u:Un (frs X.stack) ch H H' s.heap h')(hok:HOk X.prog X.w H' h')(hg:AllBare g')
 (hch:∀b∈ch,(b∈X.ex∨X.s₀.heap.objs.size<=b)/\b≠X.env.locals/\(∀x c,X.env.cells.lookup x=some c->c≠b)/\∀p∈X.pn++pins,p.1≠b):
 Inv X pins σ H' { s with heap:=h',gens:=g',drawn:=d',toks:=t' }:=by
 obtain⟨m,⟨o,es,ep,ho,r⟩,_⟩:=id I.loc;obtain⟨sl,hL⟩:=u.any ho I.free λz=>(hch _ z).2.1 rfl;exact I.step (ch:=ch) hch (λb o hL hb hc e n=>u.keep b o e n (λz=>(mem_cons.mp (I.stkSub b z)).elim hL hb) hc) (λb o _ _ hc e n=>u.any e n hc) (λb o hc e n=>u.free b o e n hc) (λb o hc e=>u.there b o e hc) u.tups u.frzs u.tbls (λm' hm=>by
  obtain⟨o',es',ep',ho',r'⟩:=hm;rw[ho]at ho';cases ho';exact⟨_,es',ep',hL,r'⟩) hok hg
def Inv.turned{t':Nat}{it:Addr}(I:Inv X pins σ H s)(k:∀b o,b≠it->s.heap.get? b=some o->h'.get? b=some o)(hn:H it=none)(hL:it≠X.env.locals)
 (h1:it∈X.ex∨X.s₀.heap.objs.size<=it) (h2:∀x c,X.env.cells.lookup x=some c->c≠it) (h3:∀p∈X.pn++pins,p.1≠it):Inv X pins σ H { s with heap:=h',toks:=t' }:=by
 have nit:∀b u,H b=some u->b≠it:=λb u e z=>by rw[z,hn]at e;cases e
 refine I.step (g':=s.gens) (d':=s.drawn) (ch:=[it]) (λb hb=>?_) (λb o _ _ hc e _=>k b o (λz=>hc (by simp[z])) e) (λb o _ _ hc e _=>⟨o.slots,k b o (λz=>hc (by simp[z])) e⟩) (λ_ _ _ _ n=>n)
  (λb o hc e=>⟨o,k b o (λz=>hc (by simp[z])) e⟩) (λ_ _ e=>e) (λ_ _ _ e=>e) (λb ps e=>⟨#[],by rw[e];simp⟩) (λm hm=>?_) (λb u e=>?_) I.bare
 .have e:b=it:=by simpa using hb
  subst e;exact⟨h1,hL,h2,h3⟩
 .obtain⟨o,es,ep,ho,r⟩:=hm;exact⟨o,es,ep,k _ o (Ne.symm hL) ho,r⟩
 .refine(I.hok b u e).stay (λc v hc q=>k c v ?_ q) (λ_ q=>q) λ_ _ q=>q;rcases hc with z|z
  .rw[z];exact nit b u e
  .exact nit c _ z
def Inv.tok(I:Inv X pins σ H s)(t:Nat):Inv X pins σ H { s with toks:=t }:=I.un (h':=s.heap) (t':=t) Un.refl I.hok
def Inv.kept{t':Nat}(I:Inv X pins σ H s)(k:∀b u,s.heap.get? b=some u->h'.get? b=some u):Inv X pins σ H { s with heap:=h',toks:=t' }:=I.un (Un.kept k) (I.hok.kept k)
def Inv.laid{a:Addr}{o:HO}{t':Nat}(I:Inv X pins σ H s)(k:∀b u,s.heap.get? b=some u->h'.get? b=some u)(hp:s.heap.objs.size<=a)(new:ObjOk X.prog X.w (upd H a o) h' a o):
 Inv X pins σ (upd H a o) { s with heap:=h',toks:=t' }:=I.un (Un.laid k hp (I.hok.fresh hp)) (I.hok.laid k hp new)
def Inv.write{x e:Addr}{o:HO}{t':Nat}(I:Inv X pins σ H s)(mu:Mut (H x))(he:e=x∨H e=some (.own x))(k:∀b u,b≠e->s.heap.get? b=some u->h'.get? b=some u)(heo:∃u,h'.get? e=some u)
 (new:ObjOk X.prog X.w (upd H x o) h' x o):Inv X pins σ (upd H x o) { s with heap:=h',toks:=t' }:=I.un (Un.write mu he k heo) (I.hok.write mu he k heo new)
def Inv.pins_of{pins':List (Addr×Obj)}(I:Inv X pins σ H s)(h:∀p∈pins',s.heap.get? p.1=some p.2/\H p.1=none/\p.1≠X.env.locals/\p.1∉X.fs/\∀v,p.2.data≠.cell v):Inv X pins' σ H s:=
 ⟨I.ok,I.os,I.bare,I.base,I.loc,I.cell,I.free,I.freeC,λp hp=>(mem_append.mp hp).elim (λz=>I.pin p (mem_append_left _ z)) (h p),I.hok,I.len⟩
def Ki{N:List Str}(hN:N.Nodup){i j:Nat}{x:Str}(a:N[i]?=some x)(b:N[j]?=some x):i=j:=by
 obtain⟨h1,e1⟩:=List.getElem?_eq_some_iff.mp a;obtain⟨h2,e2⟩:=List.getElem?_eq_some_iff.mp b;exact(List.getElem_inj hN).mp (e1.trans e2.symm)
def JF{M:Model}{A:Around}{E:Value->Shared->Prop}{i:Nat}{x:Str}{v:V}{u:Value}{Q:Unit->Shared->Prop}(I:Inv X pins σ H s)(hN:X.N.Nodup)(hi:X.N[i]?=some x)(hx:Loc X.env.scope x)(r:RelV v u)
 (h:∀s',Inv X pins (σ.set i (some v)) H s'->(∃a,Heap.SameBut a s.heap s'.heap/\(a=X.env.locals∨X.env.cells.lookup x=some a))->Q () s') (hf:X.fn x=true∨X.env.scope.names.lookup x=some .local:=by first|exact .inl rfl|exact .inr rfl|assumption):wpAny M A (storeName X.env x u) Q E s:=by
 obtain⟨m,hn,hl⟩:=id I.loc;have hcls:(X.env.scope.kind==.class||(X.env.scope.kind==.module&&X.env.locals != X.env.globals))=false:=by rw[I.ok.kind];rfl
 have hiσ:i<σ.length:=by rw[I.len];exact(List.getElem?_eq_some_iff.mp hi).1
 have cne:=I.cne;have tracked:∀{a:Addr} {h':Heap},(∃o,s.heap.get? a=some o/\H a=none)->Heap.SameBut a s.heap h'->HOk X.prog X.w H h':=λ{a h'} ha hs b ob e=>by
  obtain⟨_,_,hfree⟩:=ha;refine(I.hok b ob e).stay (λc w' hc q=>(hs.2 c ?_).trans q) (λ_ q=>q) λ_ _ q=>q;rintro rfl;rcases hc with rfl|hc
  .rw[hfree]at e;cases e
  .rw[hfree]at hc;cases hc
 rcases hx with hk|hk
 .refine wpAny_storeName_local hk hn (λh' hn' hs=>?_) hcls;obtain⟨oL,_,_,hoL,_⟩:=id hn;refine h _ ⟨I.ok,I.os,I.bare,⟨λb o e n hb hx=>?_,λb o e n hb hx=>?_,I.base.free,λb o e hx=>?_,I.base.tups,I.base.frzs,I.base.tbls⟩,⟨_,hn',λj y v' e1 e2 e3=>?_⟩,λy c e=>?_,I.free,I.freeC,λp hp=>?_,tracked ⟨oL,hoL,I.free⟩ hs,by simpa using I.len⟩ ⟨_,hs,.inl rfl⟩
  .exact(hs.2 b (ne_of_lt (lt_of_lt_of_le (Heap.lt_size e) I.ok.above))).trans (I.base.keep b o e n hb hx)
  .obtain⟨sl,e1⟩:=I.base.slot b o e n hb hx;exact⟨sl,(hs.2 b (ne_of_lt (lt_of_lt_of_le (Heap.lt_size e) I.ok.above))).trans e1⟩
  .obtain⟨o',e1⟩:=I.base.there b o e hx;exact⟨o',(hs.2 b (ne_of_lt (lt_of_lt_of_le (Heap.lt_size e) I.ok.above))).trans e1⟩
  .by_cases hj:j=i
   .subst hj;rw[hi]at e1;cases e1;rw[List.getElem?_set_self hiσ]at e2;cases e2;exact⟨u,r,.inl ⟨hk,by simp⟩⟩
   .rw[List.getElem?_set_ne (Ne.symm hj)]at e2;obtain⟨u',r',q⟩:=hl j y v' e1 e2 e3;refine⟨u',r',?_⟩;rcases q with⟨k,e⟩|⟨k,c,e,z⟩
    .refine .inl ⟨k,?_⟩;have:y≠x:=λe=>hj (Ki hN e1 (e ▸ hi));simp[this,e]
    .exact .inr ⟨k,c,e,z.sameBut hs (cne y c e)⟩
  .obtain⟨w',z⟩:=I.cell y c e;exact⟨w',z.sameBut hs (cne y c e)⟩
  .obtain⟨e,n,ne,nf,d⟩:=I.pin p hp;exact⟨(hs.2 p.1 ne).trans e,n,ne,nf,d⟩
 .have hfn:X.fn x=true:=by
   rcases hf with z|z
   .exact z
   .rw[z]at hk;cases hk
  obtain⟨c,hc⟩:=I.ok.has x (.inl hk);obtain⟨w',z⟩:=I.cell x c hc;refine wpAny_storeName_cell I.ok.kind hk hc z (λh' hc' hs=>?_);obtain⟨oc,hoc,hocd⟩:=id z;refine h { s with heap:=h' } ⟨I.ok,I.os,I.bare,⟨λb o e n hb hx=>?_,λb o e n hb hx=>?_,I.base.free,λb o e hx=>?_,I.base.tups,I.base.frzs,I.base.tbls⟩,⟨m,hn.sameBut hs (Ne.symm (cne x c hc)),λj y v' e1 e2 e3=>?_⟩,λy c' e=>?_,I.free,I.freeC,λp hp=>?_,tracked ⟨oc,hoc,I.freeC x c hc⟩ hs,by simpa using I.len⟩ ⟨c,hs,.inr hc⟩
  .exact(hs.2 b (ne_of_lt (lt_of_lt_of_le (Heap.lt_size e) (I.ok.cab x c hfn hc)))).trans (I.base.keep b o e n hb hx)
  .obtain⟨sl,e1⟩:=I.base.slot b o e n hb hx;exact⟨sl,(hs.2 b (ne_of_lt (lt_of_lt_of_le (Heap.lt_size e) (I.ok.cab x c hfn hc)))).trans e1⟩
  .obtain⟨o',e1⟩:=I.base.there b o e hx;exact⟨o',(hs.2 b (ne_of_lt (lt_of_lt_of_le (Heap.lt_size e) (I.ok.cab x c hfn hc)))).trans e1⟩
  .by_cases hj:j=i
   .subst hj;rw[hi]at e1;cases e1;rw[List.getElem?_set_self hiσ]at e2;cases e2;exact⟨u,r,.inr ⟨.inl hk,c,hc,hc'⟩⟩
   .rw[List.getElem?_set_ne (Ne.symm hj)]at e2;obtain⟨u',r',q⟩:=hl j y v' e1 e2 e3;refine⟨u',r',?_⟩;rcases q with q|⟨k,c',e,z'⟩
    .exact .inl q
    .refine .inr ⟨k,c',e,z'.sameBut hs ?_⟩;rintro rfl;exact hj (Ki hN e1 (I.ok.inj _ _ _ e hc ▸ hi))
  .by_cases hcc:c'=c
   .subst hcc;exact⟨_,hc'⟩
   .obtain⟨w2,z2⟩:=I.cell y c' e;exact⟨w2,z2.sameBut hs hcc⟩
  .obtain⟨e,n,ne,nf,d⟩:=I.pin p hp;refine⟨(hs.2 p.1 ?_).trans e,n,ne,nf,d⟩;intro q;rw[q,hoc]at e;have q':oc=p.2:=Option.some.inj e;exact d w' (by rw[<- q'];exact hocd)
def DF{M:Model}{A:Around}{E:Value->Shared->Prop}{i:Nat}{x:Str}{v:V}{u:Value}{Q:Unit->Shared->Prop}(I:Inv X pins σ H s)(hN:X.N.Nodup)(hi:X.N[i]?=some x)(hx:Loc X.env.scope x)(r:RelV v u)
 (h:∀s',Inv X pins (σ.set i (some v)) H s'->Q () s') (hf:X.fn x=true∨X.env.scope.names.lookup x=some .local:=by first|exact .inl rfl|exact .inr rfl|assumption):wpAny M A (storeName X.env x u) Q E s:=
 JF I hN hi hx r (λs' I' _=>h s' I') hf
def Inv.call'{s':Shared}{ch:List Addr}(I:Inv X pins σ H s)(ho:s'.os=s.os)(u:Un (frs X.stack) ch H H' s.heap s'.heap)(hok:HOk X.prog X.w H' s'.heap)(hg:AllBare s'.gens)
 (hch:∀b∈ch,(b∈X.ex∨X.s₀.heap.objs.size<=b)/\b≠X.env.locals/\(∀x c,X.env.cells.lookup x=some c->c≠b)/\∀p∈X.pn++pins,p.1≠b):Inv X pins σ H' s':=by
 obtain⟨h',g',d',t',o'⟩:=s';have e:o'=s.os:=ho;subst e;exact I.call (g':=g') (t':=t') (d':=d') u hok hg hch
end
abbrev XK:=Value->Option Addr->Hp->Prop
abbrev St:=List (Option V)
abbrev VK:=V->Hp->Prop
abbrev TE:=St->Hp->VK->Prop
abbrev TT:=St->Hp->(Bool->Hp->Prop)->Prop
abbrev TA:=St->Hp->(List V->Hp->Prop)->Prop
structure Ends where
 nx:St->Hp->Prop
 rt:VK
 bk:St->Hp->Prop:=λ_ _=>False
 ct:St->Hp->Prop:=λ_ _=>False
abbrev TS:=Ends->St->Hp->Prop
def EP(X:Cx)(pins:List (Addr×Obj))(σ:St)(Q:VK)(u:Value)(s':Shared):Prop:=∃v H',Inv X pins σ H' s'/\RelV v u/\Q v H'
def TP(X:Cx)(pins:List (Addr×Obj))(σ:St)(Q:Bool->Hp->Prop)(b:Bool)(s':Shared):Prop:=∃H',Inv X pins σ H' s'/\Q b H'
def AP(X:Cx)(pins:List (Addr×Obj))(σ:St)(Q:List V->Hp->Prop)(us:List Value)(s':Shared):Prop:=∃vs H',Inv X pins σ H' s'/\Vals vs us/\Q vs H'
def SP(X:Cx)(pins:List (Addr×Obj))(D:Ends)(f:Flow)(s':Shared):Prop:=
 match f with
 |.next=>∃σ' H',Inv X pins σ' H' s'/\D.nx σ' H'
 |.brk=>∃σ' H',Inv X pins σ' H' s'/\D.bk σ' H'
 |.cont=>∃σ' H',Inv X pins σ' H' s'/\D.ct σ' H'
 |.ret u=>∃v σ' H',Inv X pins σ' H' s'/\RelV v u/\D.rt v H'
def PE(X:Cx)(e:Expr)(t:TE):Prop:=
 ∀(pins:List (Addr×Obj)) (s:Shared) (σ:St) (H:Hp) (Q:VK),Inv X pins σ H s->t σ H Q->wpAny (model X.prog X.w) X.A (eval e X.env) (EP X pins σ Q) X.xe s
def PT(X:Cx)(e:Expr)(t:TT):Prop:=
 ∀(pins:List (Addr×Obj)) (s:Shared) (σ:St) (H:Hp) (Q:Bool->Hp->Prop),Inv X pins σ H s->t σ H Q->wpAny (model X.prog X.w) X.A (isTrue e X.env (eval e X.env)) (TP X pins σ Q) X.xe s
def PW(X:Cx)(e:Expr)(t:TT):Prop:=
 ∀(whole:Sem Value) (pins:List (Addr×Obj)) (s:Shared) (σ:St) (H:Hp) (Q:Bool->Hp->Prop),Inv X pins σ H s->t σ H Q->wpAny (model X.prog X.w) X.A (isTrue e X.env whole) (TP X pins σ Q) X.xe s
def PW.pt{X:Cx}{e:Expr}{t:TT}(h:PW X e t):PT X e t:=h _
def PA(X:Cx)(es:List Expr)(t:TA):Prop:=
 ∀(pos:Pos) (pins:List (Addr×Obj)) (s:Shared) (σ:St) (H:Hp) (Q:List V->Hp->Prop),Inv X pins σ H s->t σ H Q->wpAny (model X.prog X.w) X.A (spliced (backTo pos (starEach es X.env))) (AP X pins σ Q) X.xe s
def PS(X:Cx)(st:Stmt)(t:TS):Prop:=
 ∀(pins:List (Addr×Obj)) (s:Shared) (σ:St) (H:Hp) (D:Ends),Inv X pins σ H s->t D σ H->wpAny (model X.prog X.w) X.A (exec st X.env) (SP X pins D) X.xe s
def PSs(X:Cx)(st:List Stmt)(t:TS):Prop:=
 ∀(pins:List (Addr×Obj)) (s:Shared) (σ:St) (H:Hp) (D:Ends),Inv X pins σ H s->t D σ H->wpAny (model X.prog X.w) X.A (execs st X.env) (SP X pins D) X.xe s
def thn{α:Type}{t:Sem α}{Q Q':α->Shared->Prop}{M:Model}{A:Around}{E:Value->Shared->Prop}{s:Shared}(h:wpAny M A t Q E s)(hQ:∀a s,Q a s->Q' a s):wpAny M A t Q' E s:=wpAny_mono h hQ λ_ _ x=>x
section
variable{X:Cx}
def bin{a b:Expr}{ta tb:TE}(ha:PE X a ta)(hb:PE X b tb){pins:List (Addr×Obj)}{s:Shared}{σ:St}{H:Hp}{R:V->V->Hp->Prop}(I:Inv X pins σ H s)(h:ta σ H λx H1=>tb σ H1 λy H2=>R x y H2)
 {α:Type} {Q:α->Shared->Prop} {f:Value->Value->Sem α}
 (hf:∀v u s2 x y H2,Inv X pins σ H2 s2->RelV x v->RelV y u->R x y H2->wpAny (model X.prog X.w) X.A (f v u) Q X.xe s2):
 wpAny (model X.prog X.w) X.A (eval a X.env) (λv s₁=>wpAny (model X.prog X.w) X.A (eval b X.env) (λu s₂=>wpAny (model X.prog X.w) X.A (f v u) Q X.xe s₂) X.xe s₁) X.xe s:=by
 refine thn (ha pins s σ H _ I h) λv s1 ⟨x,H1,I1,r1,q1⟩=>?_;refine thn (hb pins s1 σ H1 _ I1 q1) λu s2 ⟨y,H2,I2,r2,q2⟩=>?_;exact hf v u s2 x y H2 I2 r1 r2 q2
def P1(i:Nat):TE:=λσ H Q=>∃v,σ[i]?=some (some v)/\Q v H
def tC(v:V):TE:=λ_ H Q=>Q v H
def WD{i:Nat}{x:Str}{pos:Pos}(hN:X.N[i]?=some x)(hv:Vis X.env.scope x)(hd:(x==("__debug__":Str))=false:=by decide)(hcd:(x==("__classdict__":Str))=false:=by decide):PE X (.Name x pos) (P1 i):=by
 intro pins s σ H Q I h;obtain⟨v,e,h⟩:=h;obtain⟨m,hn,hl⟩:=I.loc;obtain⟨u,r,l⟩:=hl i x v hN e hv;have fin:EP X pins σ Q u s:=⟨v,H,I,r,h⟩
 rcases l with⟨hk,hm⟩|⟨hk,c,hc,hcell⟩
 .exact wpAny_Name (wpAny_loadName_local I.ok.kind hk hn hm fin) hd
 .rcases hk with hk|hk
  .exact wpAny_Name (wpAny_loadName_cell I.ok.kind hk hc hcell fin) hd
  .exact wpAny_Name (wpAny_loadName_free I.ok.kind hk hc hcell fin hcd) hd
def WR{i j pos}:PE X (.Constant (.int i) j pos) (tC (.int i)):=λ_ _ _ H _ I h=>wpAny_Constant_int ⟨.int i,H,I.tok _,⟨_,rfl⟩,h⟩
def Y0{b j pos}:PE X (.Constant (.bool b) j pos) (tC (.bl b)):=λ_ _ _ H _ I h=>Constant_bool ⟨.bl b,H,I,rfl,h⟩
def WM{j pos}:PE X (.Constant .none j pos) (tC .non):=λ_ _ _ H _ I h=>Constant_none ⟨.non,H,I,rfl,h⟩
def WH{x j pos}:PE X (.Constant (.str x) j pos) (tC (.str x)):=λ_ _ _ H _ I h=>Calls.Constant_str ⟨.str x,H,I.tok _,⟨_,rfl⟩,h⟩
def Gl(X:Cx)(x:Str):Prop:=X.env.kindOf x=some .globalImplicit
def U2{E:Value->Shared->Prop}{pins:List (Addr×Obj)}{s:Shared}{σ:St}{H:Hp}{x:Str}{u:Value}{pos:Pos}{Q:Value->Shared->Prop}(I:Inv X pins σ H s)(hg:Gl X x)(hm:X.mg x=some u)(h:Q u s)
 (hd:(x==("__debug__":Str))=false:=by decide):wpAny (model X.prog X.w) X.A (eval (.Name x pos) X.env) Q E s:=
 Calls.Name_function_global I.ok.kind hg (Calls.loadGlobal_global (by rw[I.ok.glob];exact I.mod.glob.keeps I.bk) hm h) hd
def FO{E:Value->Shared->Prop}{pins:List (Addr×Obj)}{s:Shared}{σ:St}{H:Hp}{x:Str}{u:Value}{pos:Pos}{Q:Value->Shared->Prop}(I:Inv X pins σ H s)(hg:Gl X x)(hm:X.mg x=none)(hv:bootBuiltins x=some u)(h:Q u s)
 (hn:x≠"__name__":=by decide) (hd:(x==("__debug__":Str))=false:=by decide):wpAny (model X.prog X.w) X.A (eval (.Name x pos) X.env) Q E s:=by
 obtain⟨mb,h1,h2⟩:=I.mod.blt;exact Calls.Name_function_global I.ok.kind hg (Calls.loadGlobal_builtin (by rw[I.ok.glob];exact I.mod.glob.keeps I.bk) hm (by rw[I.ok.blt];exact h1.keeps I.bk) ((h2 x hn).trans hv) h) hd
variable{a b:Expr}{ta tb:TE}{pos:Pos}
def PC(X:Cx)(op:CmpOp)(a b:Expr)(t:TE):Prop:=
 ∀(pins:List (Addr×Obj)) (s:Shared) (σ:St) (H:Hp) (Q:VK),Inv X pins σ H s->t σ H Q ->
   wpAny (model X.prog X.w) X.A (eval a X.env) (λv s₁=>wpAny (model X.prog X.w) X.A (eval b X.env) (λu s₂=>wpAny (model X.prog X.w) X.A (compareOp op v u) (EP X pins σ Q) X.xe s₂) X.xe s₁) X.xe s
def Kj(b:Expr){op:CmpOp}(h:op≠.In)(h2:op≠.NotIn):behindInMarks op b=false:=by
 have e1:(op==CmpOp.In)=false:=by cases op<;>first|rfl|exact absurd rfl h
 have e2:(op==CmpOp.NotIn)=false:=by cases op<;>first|rfl|exact absurd rfl h2
 cases b<;>simp[behindInMarks,e1,e2]
def MY(ta:TE):TE:=λσ H Q=>ta σ H λx H1=>Q (.bl (!decide (x=.non))) H1
def RelV.none_iff{x:V}{v:Value}(r:RelV x v):(v==Value.none)=decide (x=.non):=by
 cases x with
 |non=>cases r;rfl
 |bl _=>cases r;rfl
 |int _=>obtain⟨t,rfl⟩:=r;rfl
 |str _=>obtain⟨t,rfl⟩:=r;rfl
 |byt _=>obtain⟨t,rfl⟩:=r;rfl
 |flt _=>obtain⟨t,rfl⟩:=r;rfl
 |ref _=>cases r;rfl
 |ty _=>cases r;rfl
def Te{j pos'}(ha:PE X a ta):PC X .IsNot a (.Constant .none j pos') (MY ta):=by
 intro pins s σ H Q I h;refine thn (ha pins s σ H _ I h) λv s1 ⟨x,H1,I1,r1,q1⟩=>?_;exact Constant_none (isnot_none_gen ⟨.bl _,H1,I1,by rw[r1.none_iff];rfl,q1⟩)
def tB(t:TE):TT:=λσ H Q=>t σ H λx H1=>∃c,x=.bl c/\Q c H1
def WU{op:CmpOp}{t:TE}(h:PC X op a b t)(h1:behindInMarks op b=false:=by first|exact Kj _ (by decide) (by decide)|rfl):PE X (.Compare a [op] [b] pos) t:=λpins s σ H Q I hw=>wpAny_Compare1 (h pins s σ H Q I hw) h1
def W0{op:CmpOp}{t:TE}(h:PC X op a b t)(h1:behindInMarks op b=false:=by first|exact Kj _ (by decide) (by decide)|rfl):PT X (.Compare a [op] [b] pos) (tB t):=by
 intro pins s σ H Q I hw;refine wpAny_isTrue_Compare1 (thn (h pins s σ H _ I hw) λv s1 h1=>thn h1 λu s2 h2=>thn h2 λc s3 ⟨x,H1,I1,r1,q1⟩=>?_) h1;obtain⟨d,rfl,q⟩:=q1;cases r1;exact wpAny_truthy_bool ⟨H1,I1,q⟩
variable{tA tB':TT}{rest:List Expr}
def PL(t u:TT):TT:=λσ H Q=>t σ H λc H1=>if c=true then u σ H1 Q else Q false H1
def tOr(t u:TT):TT:=λσ H Q=>t σ H λc H1=>if c=true then Q true H1 else u σ H1 Q
def P7(t:TT):TT:=λσ H Q=>t σ H λc H1=>Q (!c) H1
def T7(ha:PT X a tA):PW X (.BoolOp .And [a] pos) tA:=by
 intro wh pins s σ H Q I h;refine isTrue_and (thn (ha pins s σ H Q I h) λc s1 e=>?_);cases c with
 |true=>exact isTrue_and_nil e
 |false=>exact e
def Vx(ha:PT X a tA):PW X (.BoolOp .Or [a] pos) tA:=by
 intro wh pins s σ H Q I h;refine isTrue_or (thn (ha pins s σ H Q I h) λc s1 e=>?_);cases c with
 |false=>exact isTrue_or_nil e
 |true=>exact e
def Vy(ha:PT X a tA)(hb:PW X (.BoolOp .And (b::rest) pos) tB'):PW X (.BoolOp .And (a::b::rest) pos) (PL tA tB'):=by
 intro wh pins s σ H Q I h;refine isTrue_and (thn (ha pins s σ H _ I h) λc s1 ⟨H1,I1,q1⟩=>?_);cases c with
 |true=>exact hb wh pins s1 σ H1 Q I1 q1
 |false=>exact⟨H1,I1,q1⟩
def Xv(ha:PT X a tA)(hb:PW X (.BoolOp .Or (b::rest) pos) tB'):PW X (.BoolOp .Or (a::b::rest) pos) (tOr tA tB'):=by
 intro wh pins s σ H Q I h;refine isTrue_or (thn (ha pins s σ H _ I h) λc s1 ⟨H1,I1,q1⟩=>?_);cases c with
 |true=>exact⟨H1,I1,q1⟩
 |false=>exact hb wh pins s1 σ H1 Q I1 q1
def Vz(ha:PT X a tA):PT X (.UnaryOp .Not a pos) (P7 tA):=by
 intro pins s σ H Q I h;exact isTrue_not (ha pins s σ H (λc H1=>Q (!c) H1) I h)
def Mc(ta tb:TE):TE:=λσ H Q=>ta σ H λx H1=>∃c,x=.bl c/\if c=true then tb σ H1 Q else Q (.bl false) H1
def P6(ta tb:TE):TE:=λσ H Q=>ta σ H λx H1=>∃c,x=.bl c/\if c=true then Q (.bl true) H1 else tb σ H1 Q
def MX(ta:TE):TE:=λσ H Q=>ta σ H λx H1=>∃c,x=.bl c/\Q (.bl (!c)) H1
def WJ{op}{t:TE}(h:PE X a t):PE X (.BoolOp op [a] pos) t:=λpins s σ H Q I hw=>BoolOp_one (h pins s σ H Q I hw)
def WW(ha:PE X a ta)(hb:PE X (.BoolOp .And (b::rest) pos) tb):PE X (.BoolOp .And (a::b::rest) pos) (Mc ta tb):=by
 intro pins s σ H Q I h;refine BoolOp_and (thn (ha pins s σ H _ I h) λv s1 ⟨x,H1,I1,r1,q1⟩=>?_);obtain⟨c,rfl,q1⟩:=q1;cases r1;refine wpAny_truthy_bool ?_;cases c with
 |true=>exact hb pins s1 σ H1 Q I1 q1
 |false=>exact⟨.bl false,H1,I1,rfl,q1⟩
def Xy(ha:PE X a ta)(hb:PE X (.BoolOp .Or (b::rest) pos) tb):PE X (.BoolOp .Or (a::b::rest) pos) (P6 ta tb):=by
 intro pins s σ H Q I h;refine BoolOp_or (thn (ha pins s σ H _ I h) λv s1 ⟨x,H1,I1,r1,q1⟩=>?_);obtain⟨c,rfl,q1⟩:=q1;cases r1;refine wpAny_truthy_bool ?_;cases c with
 |false=>exact hb pins s1 σ H1 Q I1 q1
 |true=>exact⟨.bl true,H1,I1,rfl,q1⟩
def WK(ha:PE X a ta):PE X (.UnaryOp .Not a pos) (MX ta):=by
 intro pins s σ H Q I h;refine UnaryOp_ (thn (ha pins s σ H _ I h) λv s1 ⟨x,H1,I1,r1,q1⟩=>?_);obtain⟨c,rfl,q1⟩:=q1;cases r1;exact not_of (wpAny_truthy_bool ⟨.bl (!c),H1,I1,rfl,q1⟩)
def tIf(t:TT)(ta tb:TE):TE:=λσ H Q=>t σ H λc H1=>if c=true then ta σ H1 Q else tb σ H1 Q
def Q4{c:Expr}(hc:PT X c tA)(ha:PE X a ta)(hb:PE X b tb):PE X (.IfExp c a b pos) (tIf tA ta tb):=by
 intro pins s σ H Q I h;refine wpAny_IfExp (thn (hc pins s σ H _ I h) λd s1 ⟨H1,I1,q1⟩=>?_);cases d with
 |true=>exact ha pins s1 σ H1 Q I1 q1
 |false=>exact hb pins s1 σ H1 Q I1 q1
end
def SqL(K:PySem.W.Frag)(H:Hp)(a:Addr)(xs:List V):Prop:=
 Rd H a (.lst xs) ∨
  ∃(o:Obj) (its:Array Value) (n:Nat),K.lookup a=some o/\o.cls=.type "list"/\o.dict=none/\o.data=.seq its n/\its.size<=sizeLine/\Vals xs its.toList
def SqT(K:PySem.W.Frag)(H:Hp)(a:Addr)(xs:List V):Prop:=
 Rd H a (.tup xs) ∨
  ∃(o:Obj) (its:Array Value) (n:Nat),K.lookup a=some o/\o.cls=.type "tuple"/\o.dict=none/\o.data=.seq its n/\its.size<=sizeLine/\Vals xs its.toList
def Z4:Value->Option V
 |.none=>some .non
 |.bool b=>some (.bl b)
 |.int i _=>some (.int i)
 |.str x _=>some (.str x)
 |.bytes b _=>some (.byt b)
 |.float b _=>some (.flt b)
 |.ref a=>some (.ref a)
 |.type n=>some (.ty n)
 |_=>none
def RelV.abs{x:V}{u:Value}(r:RelV x u):Z4 u=some x:=by
 cases x with
 |non=>cases r;rfl
 |bl _=>cases r;rfl
 |int _=>obtain⟨t,rfl⟩:=r;rfl
 |str _=>obtain⟨t,rfl⟩:=r;rfl
 |byt _=>obtain⟨t,rfl⟩:=r;rfl
 |flt _=>obtain⟨t,rfl⟩:=r;rfl
 |ref _=>cases r;rfl
 |ty _=>cases r;rfl
def RelV.inj{x y:V}{u:Value}(r:RelV x u)(q:RelV y u):x=y:=Option.some.inj (r.abs.symm.trans q.abs)
def Vals.inj:∀{xs ys:List V} {us:List Value},Vals xs us->Vals ys us->xs=ys
 |_,_,_,.nil,.nil=>rfl
 |_,_,_,.cons r t,.cons r' t'=>by rw[r.inj r',Vals.inj t t']
section
variable{X:Cx}{pins:List (Addr×Obj)}{σ:St}{H:Hp}{s:Shared}{a:Addr}{xs ys:List V}
def SqL.of{K:PySem.W.Frag}(h:H a=some (.lst xs)):SqL K H a xs:=.inl (.inl h)
def SqT.of{K:PySem.W.Frag}(h:H a=some (.tup xs)):SqT K H a xs:=.inl (.inl h)
def Inv.list(I:Inv X pins σ H s)(h:SqL X.K H a xs):∃its:List Value,Vals xs its/\PlainL s.heap a its.toArray/\xs.length<=sizeLine:=by
 rcases h with h|⟨o,its,n,hk,hc,hd,hs,hz,r⟩
 .obtain⟨z,its,n,r,e⟩:=h.ok I.hok;exact⟨its,r,⟨_,n,e,rfl,rfl,rfl⟩,z⟩
 .refine⟨its.toList,r,⟨o,n,I.kIn a o hk,hc,hd,by simpa using hs⟩,?_⟩;have e:=r.length;simp only[Array.length_toList]at e;omega
def Inv.tuple(I:Inv X pins σ H s)(h:SqT X.K H a xs):∃its:List Value,Vals xs its/\IsTup s.heap a its.toArray/\xs.length<=sizeLine:=by
 rcases h with h|⟨o,its,n,hk,hc,_,hs,hz,r⟩
 .obtain⟨z,its,r,p⟩:=h.ok I.hok;exact⟨its,r,p.t,z⟩
 .refine⟨its.toList,r,⟨o,I.kIn a o hk,hc,n,by simpa using hs⟩,?_⟩;have e:=r.length;simp only[Array.length_toList]at e;omega
def Inv.list_inj(I:Inv X pins σ H s)(h:SqL X.K H a xs)(h':SqL X.K H a ys):xs=ys:=by
 obtain⟨its,r,⟨o,n,e,_,_,d⟩,_⟩:=I.list h;obtain⟨its',r',⟨o',n',e',_,_,d'⟩,_⟩:=I.list h';rw[e]at e';cases e';rw[d]at d'
 injection d' with d1 _
 have:its=its':=by simpa using congrArg Array.toList d1
 subst this;exact r.inj r'
def Inv.tuple_inj(I:Inv X pins σ H s)(h:SqT X.K H a xs)(h':SqT X.K H a ys):xs=ys:=by
 obtain⟨its,r,⟨o,e,_,n,d⟩,_⟩:=I.tuple h;obtain⟨its',r',⟨o',e',_,n',d'⟩,_⟩:=I.tuple h';rw[e]at e';cases e';rw[d]at d'
 injection d' with d1 _
 have:its=its':=by simpa using congrArg Array.toList d1
 subst this;exact r.inj r'
end
abbrev Cx.wish(X:Cx)(E:Value->Shared->Prop):Cx:={ X with xe:=E }
abbrev Cx.nox(X:Cx):Cx:=X.wish λ_ _=>False
def Cx.Ok.wish{X:Cx}(ok:X.Ok)(E:Value->Shared->Prop):(X.wish E).Ok:=
 ⟨ok.mod,ok.kind,ok.glob,ok.blt,ok.above,ok.inj,ok.has,ok.cab,ok.hd,ok.frames,ok.stk,ok.exf,ok.bs,ok.bsz,ok.noex,ok.exfs,ok.funs,ok.frf⟩
def Cx.Ok.unwish{X:Cx}{E:Value->Shared->Prop}(ok:(X.wish E).Ok):X.Ok:=
 ⟨ok.mod,ok.kind,ok.glob,ok.blt,ok.above,ok.inj,ok.has,ok.cab,ok.hd,ok.frames,ok.stk,ok.exf,ok.bs,ok.bsz,ok.noex,ok.exfs,ok.funs,ok.frf⟩
section
variable{X:Cx}{pins:List (Addr×Obj)}{σ:St}{H:Hp}{s:Shared}{E:Value->Shared->Prop}
def Inv.wish(I:Inv X pins σ H s)(E:Value->Shared->Prop):Inv (X.wish E) pins σ H s:=⟨I.ok.wish E,I.os,I.bare,I.base,I.loc,I.cell,I.free,I.freeC,I.pin,I.hok,I.len⟩
def Inv.unwish(I:Inv (X.wish E) pins σ H s):Inv X pins σ H s:=⟨I.ok.unwish,I.os,I.bare,I.base,I.loc,I.cell,I.free,I.freeC,I.pin,I.hok,I.len⟩
def SP.unwish{D:Ends}{f:Flow}{s':Shared}(h:SP (X.wish E) pins D f s'):SP X pins D f s':=by
 cases f with
 |next=>obtain⟨σ',H',I,q⟩:=h;exact⟨σ',H',I.unwish,q⟩
 |brk=>obtain⟨σ',H',I,q⟩:=h;exact⟨σ',H',I.unwish,q⟩
 |cont=>obtain⟨σ',H',I,q⟩:=h;exact⟨σ',H',I.unwish,q⟩
 |ret u=>obtain⟨v,σ',H',I,r,q⟩:=h;exact⟨v,σ',H',I.unwish,r,q⟩
def PSs.nox{st:List Stmt}{t:TS}(h:PSs X.nox st t):PSs X st t:=λpins s σ H D I hw=>
 wpAny_mono (h pins s σ H D (I.wish _) hw) (λ_ _ q=>q.unwish) λ_ _ z=>False.elim z
end
section
variable{X:Cx}{st:Stmt}{rest:List Stmt}{t u:TS}{e:Expr}{te:TE}{pos:Pos}
def Ht:TS:=λD σ H=>D.nx σ H
def P3(t u:TS):TS:=λD σ H=>t { D with nx:=u D } σ H
def T9:PSs X [] Ht:=λ_ _ σ H _ I h=>wpAny_execs_nil ⟨σ,H,I,h⟩
def Q0(h1:PS X st t)(h2:PSs X rest u):PSs X (st::rest) (P3 t u):=by
 intro pins s σ H D I h;refine wpAny_execs_cons (thn (h1 pins s σ H { D with nx:=u D } I h) λf s1 q=>?_);cases f with
 |next=>
  obtain⟨σ',H',I',q⟩:=q;exact h2 pins s1 σ' H' D I' q
 |ret v=>exact q
 |brk=>exact q
 |cont=>exact q
def T8(h1:PS X st t):PSs X [st] t:=by
 intro pins s σ H D I h;refine wpAny_execs_cons (thn (h1 pins s σ H D I h) λf s1 q=>?_);cases f with
 |next=>exact wpAny_execs_nil q
 |ret v=>exact q
 |brk=>exact q
 |cont=>exact q
def TC:PS X (.Pass pos) Ht:=λ_ _ σ H _ I h=>wpAny_Pass ⟨σ,H,I,h⟩
def Inv.quiet{pins:List (Addr×Obj)}{σ:St}{H:Hp}{s:Shared}(I:Inv X pins σ H s):interactive X.env=false:=by simp[interactive,I.ok.kind]
def MZ(te:TE):TS:=λD σ H=>te σ H λ_ H1=>D.nx σ H1
def TF(he:PE X e te)(hs:swapsWith e none pos.line X.env=pure false:=by rfl):PS X (.Expr e pos) (MZ te):=by
 intro pins s σ H D I h;exact wpAny_Expr_any (thn (he pins s σ H _ I h) λv s1 ⟨x,H1,I1,r1,q1⟩=>⟨σ,H1,I1,q1⟩) I.quiet hs
def P4(te:TE):TS:=λD σ H=>te σ H D.rt
def W2(he:PE X e te):PS X (.Return (some e) pos) (P4 te):=by
 intro pins s σ H D I h;exact wpAny_Return_some (thn (he pins s σ H _ I h) λv s1 ⟨x,H1,I1,r1,q1⟩=>⟨x,σ,H1,I1,r1,q1⟩)
def PH(c:TT)(t u:TS):TS:=λD σ H=>c σ H λb H1=>if b=true then t D σ H1 else u D σ H1
def Xw{c:Expr}{a b:List Stmt}{tc:TT}(hc:PT X c tc)(ha:PSs X a t)(hb:PSs X b u):PS X (.If c a b pos) (PH tc t u):=by
 intro pins s σ H D I h;refine wpAny_If (thn (hc pins s σ H _ I h) λd s1 ⟨H1,I1,q1⟩=>?_);cases d with
 |true=>exact ha pins s1 σ H1 D I1 q1
 |false=>exact hb pins s1 σ H1 D I1 q1
end
abbrev TG:=V->St->Hp->(St->Hp->Prop)->Prop
abbrev TGs:=List V->St->Hp->(St->Hp->Prop)->Prop
def PG(X:Cx)(target:Expr)(t:TG):Prop:=
 ∀(pins:List (Addr×Obj)) (s:Shared) (σ:St) (H:Hp) (v:V) (u:Value) (Q:St->Hp->Prop),Inv X pins σ H s->RelV v u->t v σ H Q ->
   wpAny (model X.prog X.w) X.A (assign target X.env u) (λ_ s'=>∃σ' H',Inv X pins σ' H' s'/\Q σ' H') X.xe s
def PGs(X:Cx)(ts:List Expr)(t:TGs):Prop:=
 ∀(pins:List (Addr×Obj)) (s:Shared) (σ:St) (H:Hp) (vs:List V) (us:List Value) (Q:St->Hp->Prop),Inv X pins σ H s->Vals vs us->t vs σ H Q ->
   wpAny (model X.prog X.w) X.A (assignInOrder ((assignEach ts X.env).map (·.2)) us) (λ_ s'=>∃σ' H',Inv X pins σ' H' s'/\Q σ' H') X.xe s
abbrev Qc:=V->V->V->Hp->(Hp->Prop)->Prop
def XV(X:Cx)(t:Qc):Prop:=
 ∀(pins:List (Addr×Obj)) (s:Shared) (σ:St) (H:Hp) (o i v:V) (ov iv u:Value) (Q:Hp->Prop),Inv X pins σ H s->RelV o ov->RelV i iv->RelV v u->t o i v H Q ->
   wpAny (model X.prog X.w) X.A (setItem ov iv u) (λ_ s'=>∃H',Inv X pins σ H' s'/\Q H') X.xe s
section
variable{X:Cx}{pos:Pos}
def Dq(i:Nat):TG:=λv σ H Q=>Q (σ.set i (some v)) H
def TW{i:Nat}{x:Str}(hN:X.N.Nodup)(hi:X.N[i]?=some x)(hx:Loc X.env.scope x)(hf:X.fn x=true∨X.env.scope.names.lookup x=some .local:=by first|exact .inl rfl|exact .inr rfl|assumption):PG X (.Name x pos) (Dq i):=by
 intro pins s σ H v u Q I r h;exact wpAny_assign_Name (DF I hN hi hx r (λs' I'=>⟨_,H,I',h⟩) hf)
def QM:TGs:=λvs σ H Q=>vs=[]/\Q σ H
def NJ(t:TG)(u:TGs):TGs:=λvs σ H Q=>∃v r,vs=v::r/\t v σ H λσ' H'=>u r σ' H' Q
def TU:PGs X [] QM:=by
 intro pins s σ H vs us Q I r h;obtain⟨e,h⟩:=h;subst e;cases r;exact assignInOrder_nil ⟨σ,H,I,h⟩
def Q3{e:Expr}{es:List Expr}{t:TG}{u:TGs}(h1:PG X e t)(h2:PGs X es u)
 (hs:(assignEach (e::es) X.env).map (·.2)=assign e X.env::(assignEach es X.env).map (·.2):=by rfl):PGs X (e::es) (NJ t u):=by
 intro pins s σ H vs us Q I r h;obtain⟨v,vr,e1,h⟩:=h;subst e1;cases r with
 |cons r rr=>
  rw[hs];refine assignInOrder_cons (thn (h1 pins s σ H _ _ _ I r h) λ_ s1 ⟨σ1,H1,I1,q1⟩=>?_);exact h2 pins s1 σ1 H1 _ _ Q I1 rr q1
def NI(K:PySem.W.Frag)(n:Nat)(t:TGs):TG:=λv σ H Q=>∃a xs,v=.ref a/\SqT K H a xs/\xs.length=n/\t xs σ H Q
def W8{es:List Expr}{k:Nat}{t:TGs}{n:Nat}(hc:X.calm=true)(h:PGs X es t)
 (hn:(assignEach es X.env).length=n:=by rfl) (hst:(assignEach es X.env).findIdx? (·.1)=none:=by rfl):PG X (.Tuple es k pos) (NI X.K n t):=by
 intro pins s σ H v u Q I r hw;obtain⟨a,xs,e1,hq,hl,hw⟩:=hw;subst e1;cases r;obtain⟨its,rv,ht,hz⟩:=I.tuple hq;refine assign_Tuple_tuple (I.ok.hd hc) ht (by simp[hn,<- hl,rv.length]) hst λh' hx=>?_;have I1:Inv X pins σ H { s with heap:=h' }:=I.kept (t':=s.toks) λb o e=>hx b o (ne_of_lt (Heap.lt_size e)) e;exact h pins _ σ H xs _ Q I1 (by simpa using rv) hw
def QL(to ti:TE)(t:Qc):TG:=λv σ H Q=>to σ H λo H1=>ti σ H1 λi H2=>t o i v H2 λH3=>Q σ H3
def W9{o i:Expr}{to ti:TE}{t:Qc}(ho:PE X o to)(hi:PE X i ti)(hs:XV X t)
 (ha:∀v,assign (.Subscript o i pos) X.env v=(do
  let ov <- holding [v] (eval o X.env)
  let iv <- holding [v,ov] (eval i X.env)
  standAt pos
  holding [v,ov,iv] (setItem ov iv v)
  release [v,ov,iv] []):=by intro _;rfl):PG X (.Subscript o i pos) (QL to ti t):=by
 intro pins s σ H v u Q I r h;rw[ha];refine wpAny_bind (wpAny_holding (thn (ho pins s σ H _ I h) λov s1 ⟨x,H1,I1,r1,q1⟩=>?_));refine wpAny_bind (wpAny_holding (thn (hi pins s1 σ H1 _ I1 q1) λiv s2 ⟨y,H2,I2,r2,q2⟩=>?_));refine wpAny_bind (wpAny_standAt (wpAny_bind (wpAny_holding (thn (hs pins s2 σ H2 x y v ov iv u _ I2 r1 r2 r q2) λ_ s3 ⟨H3,I3,q3⟩=>?_))));exact wpAny_release ⟨σ,H3,I3,q3⟩
def EX(te:TE)(g:TG):TS:=λD σ H=>te σ H λx H1=>g x σ H1 D.nx
def O4{tg e:Expr}{te:TE}{g:TG}(he:PE X e te)(hg:PG X tg g)(hs:swapsWithSole [tg] e pos.line X.env=pure false:=by rfl)(hw:swappedStores [tg] e X.env=pure none:=by rfl)
 (h1:(assignEach [tg] X.env).map (·.2)=[assign tg X.env]:=by rfl):PS X (.Assign [tg] e pos) (EX te g):=by
 intro pins s σ H D I h;refine wpAny_Assign_stores (thn (he pins s σ H _ I h) λv s1 ⟨x,H1,I1,r1,q1⟩=>?_) hs hw;rw[h1];exact thn (hg pins s1 σ H1 x v _ I1 r1 q1) λ_ s2 q=>q
def W1{i:Nat}{x:Str}{e:Expr}{te:TE}{pos':Pos}(hN:X.N.Nodup)(hi:X.N[i]?=some x)(hx:Loc X.env.scope x)(he:PE X e te)(hs:swapsWith e (some (.Name x pos')) pos.line X.env=pure false:=by rfl)(hf:X.fn x=true∨X.env.scope.names.lookup x=some .local:=by first|exact .inl rfl|exact .inr rfl|assumption):
 PS X (.Assign [.Name x pos'] e pos) (EX te (Dq i)):=by
 intro pins s σ H D I h;refine wpAny_Assign_Name (thn (he pins s σ H _ I h) λv s1 ⟨y,H1,I1,r1,q1⟩=>?_) hs;exact DF I1 hN hi hx r1 (λs2 I2=>⟨_,H1,I2,q1⟩) hf
def P5(i j:Nat)(ta:TA):TS:=λD σ H=>ta σ H λvs H1=>∃v w,vs=[v,w]/\D.nx ((σ.set i (some v)).set j (some w)) H1
def W3{i j:Nat}{x y:Str}{a b:Expr}{ta:TA}{px py pt:Pos}{kt k2 pt2}(hc:X.calm=true)(hN:X.N.Nodup)(hi:X.N[i]?=some x)(hj:X.N[j]?=some y)(hij:i≠j)
 (hx:X.env.scope.names.lookup x=some .local) (hy:X.env.scope.names.lookup y=some .local) (ha:PA X [a,b] ta)
 (hw:swappedStores [.Tuple [.Name x px,.Name y py] kt pt] (.Tuple [a,b] k2 pt2) X.env=pure (some [x,y]))
 (hs:swapsWithSole [.Tuple [.Name x px,.Name y py] kt pt] (.Tuple [a,b] k2 pt2) pos.line X.env=pure false:=by rfl):
 PS X (.Assign [.Tuple [.Name x px,.Name y py] kt pt] (.Tuple [a,b] k2 pt2) pos) (P5 i j ta):=by
 intro pins s σ H D I h;rw[exec_Assign_arm];refine wpAny_bind (wpAny_standAt ?_);rw[hs];refine wpAny_bind (wpAny_pure ?_);rw[if_neg (by decide)];refine wpAny_bind (Tuple_ (thn (ha _ pins s σ H _ I h) λus s1 ⟨vs,H1,I1,r1,q1⟩=>?_));obtain⟨v,w,e1,q1⟩:=q1;subst e1;obtain⟨u1,u2,rfl,rv,rw'⟩:∃u1 u2,us=[u1,u2]/\RelV v u1/\RelV w u2:=by
  cases r1 with
  |cons p q=>
   cases q with
   |cons p' q'=>
    cases q';exact⟨_,_,rfl,p,p'⟩
 refine wpAny_newObj_type ?_ (by show 2<=sizeLine;decide);have I2:Inv X pins σ H1 { s1 with heap:=s1.heap.push { cls:=.type "tuple",data:=.seq [u1,u2].toArray } }:=I1.kept (t':=s1.toks) λb o e=>Heap.get?_push_of_some _ e;rw[hw];refine wpAny_bind (wpAny_pure ?_);show wpAny (model X.prog X.w) X.A (do rule "assign.swapped-stores";let items <- unpackItems (.ref s1.heap.objs.size) 2 none;assignInOrder [λv=>bindName X.env y v,λv=>bindName X.env x v] items.reverse;pure Flow.next) _ _ _;refine wpAny_bind (wpAny_rule (wpAny_bind (unpackItems_tuple (items:=#[u1,u2]) (I.ok.hd hc) (IsTup.new s1.heap _) λh' hx'=>?_)));have I3:=I2.kept (h':=h') (t':=s1.toks) λb o e=>hx' b o (ne_of_lt (Heap.lt_size e)) e;show wpAny _ _ (assignInOrder [λv=>bindName X.env y v,λv=>bindName X.env x v] [u2,u1] >>= λ_=>pure Flow.next) _ _ _;refine wpAny_bind (assignInOrder_cons (wpAny_bindName (DF I3 hN hj (.inl hy) rw' (λs2 I4=>?_) (.inr hy))));refine assignInOrder_cons (wpAny_bindName (DF I4 hN hi (.inl hx) rv (λs3 I5=>assignInOrder_nil (wpAny_pure ?_)) (.inr hx)));rw[List.set_comm _ _ (Ne.symm hij)]at I5;exact⟨_,H1,I5,q1⟩
end
structure It where
 go:Nat->Hp->Prop
 yld:Nat->Hp->V->Hp->Prop
 stop:Nat->Hp->Prop
def Cn(X:Cx)(pins:List (Addr×Obj))(H:Hp)(b:Addr):Prop:=
 H b=none/\b≠X.env.locals/\b∉X.fs/\(b∈X.ex∨X.s₀.heap.objs.size<=b)/\(∀x c,X.env.cells.lookup x=some c->c≠b)/\∀p∈X.pn++pins,p.1≠b
def Inv.fpOk{X:Cx}{pins:List (Addr×Obj)}{σ:St}{H H':Hp}{s:Shared}{b:Addr}(I:Inv X pins σ H s)(hb:s.heap.objs.size<=b)(hn:H' b=none):Cn X pins H' b:=by
 refine⟨hn,ne_of_gt (lt_of_lt_of_le I.lt hb),I.nofs hb,.inr (le_trans I.sz hb),λx c e z=>?_,λp hp z=>?_⟩
 .obtain⟨v,q⟩:=I.cell x c e;exact absurd (lt_of_lt_of_le q.lt (by rw[z];exact hb)) (lt_irrefl _)
 .exact absurd (lt_of_lt_of_le (Heap.lt_size (I.pin p hp).1) (by rw[z];exact hb)) (lt_irrefl _)
structure Turn(P:Program)(w:World)(K:PySem.W.Frag)(tg:Expr)(J:It)(fp:List Addr)(it:Addr)(tn:Nat->Heap->Prop):Prop where
 mem:it∈fp
 obj:∀i h,tn i h->∀b∈fp,∃o,h.get? b=some o/\∀v,o.data≠.cell v
 keep:∀i h h',tn i h->(∀b∈fp,∀o,h.get? b=some o->h'.get? b=some o)->tn i h'
 item:∀(X:Cx),X.prog=P->X.w=w->X.K=K->X.calm=true->∀(i:Nat) (pins:List (Addr×Obj)) (s:Shared) (σ:St) (H:Hp) (E:Value->Shared->Prop),Inv X pins σ H s->(∀b∈fp,Cn X pins H b)->tn i s.heap->J.go i H ->
  wpAny (model P w) X.A (pyNext (.ref it)) (λr s1=>∃u,r=some u /\
   wpAny (model P w) X.A (letOwnedTupleGo tg (.ref it) u) (λ_ s2=>∃x H',Inv X pins σ H' s2/\RelV x u/\J.yld i H x H'/\tn (i+1) s2.heap/\∀b∈fp,H' b=none) E s1) E s
 done:∀(X:Cx),X.prog=P->X.w=w->X.K=K->X.calm=true->∀(i:Nat) (pins:List (Addr×Obj)) (s:Shared) (σ:St) (H:Hp) (E:Value->Shared->Prop),Inv X pins σ H s->(∀b∈fp,Cn X pins H b)->tn i s.heap->J.stop i H ->
  wpAny (model P w) X.A (pyNext (.ref it)) (λr s1=>r=none/\Inv X pins σ H s1) E s
 self:∀(A:Around) (i:Nat) (s:Shared) (Q:Value->Shared->Prop) (E:Value->Shared->Prop),tn i s.heap->Q (.ref it) s->wpAny (model P w) A (pyIter (.ref it)) Q E s
abbrev TI:=St->Hp->(It->Hp->Prop)->Prop
def PIE(X:Cx)(pins:List (Addr×Obj))(σ:St)(tg:Expr)(R:It->Hp->Prop)(itv:Value)(s2:Shared):Prop:=
 ∃(it:Addr) (fp:List Addr) (tn:Nat->Heap->Prop) (J:It) (H':Hp),itv=.ref it/\Inv X pins σ H' s2/\Turn X.prog X.w X.K tg J fp it tn/\tn 0 s2.heap/\(∀b∈fp,Cn X pins H' b)/\R J H'
def PI(X:Cx)(tg iter:Expr)(wi:TI):Prop:=
 ∀(pins:List (Addr×Obj)) (s:Shared) (σ:St) (H:Hp) (R:It->Hp->Prop),Inv X pins σ H s->wi σ H R ->
   wpAny (model X.prog X.w) X.A (eval iter X.env) (λv s1=>wpAny (model X.prog X.w) X.A (pyIter v) (PIE X pins σ tg R) X.xe s1) X.xe s
def NH{M:Model}{A:Around}{E:Value->Shared->Prop}{s:Shared}{tg:Expr}{it:Addr}{u:Value}{o:Obj}{n:String}{vs:Array Value}{Q:Unit->Shared->Prop}(ho:s.heap.get? it=some o)(hc:o.cls=.type n)(hd:o.data=.fields vs)
 (hn:["enumerate","zip","dict_itemiterator","dict_reverseitemiterator","odict_iterator","itertools.zip_longest","itertools.pairwise"].contains n=false) (hQ:Q () s):wpAny M A (letOwnedTupleGo tg (.ref it) u) Q E s:=by
 unfold letOwnedTupleGo;cases tg<;>first
  |exact wpAny_pure hQ
  | (cases u<;>first
   |exact wpAny_pure hQ
   | (refine wpAny_bind (wpAny_load ho ?_)
      rw[hc,hd];show wpAny M A (if(["enumerate","zip","dict_itemiterator","dict_reverseitemiterator","odict_iterator","itertools.zip_longest","itertools.pairwise"].contains n&&vs[0]?==some (rawInt _))=true then _ else _) Q E s;rw[if_neg (by intro h;rw[hn,Bool.false_and]at h;cases h)];exact wpAny_pure hQ))
def Itl(K:PySem.W.Frag)(a:Addr):It:=
 ⟨λi H=>∃xs x,SqL K H a xs/\xs[i]?=some x,λi H x H'=>H'=H/\∀xs,SqL K H a xs->xs[i]?=some x,λi H=>∃xs,SqL K H a xs/\xs.length<=i⟩
def Itt(K:PySem.W.Frag)(a:Addr):It:=
 ⟨λi H=>∃xs x,SqT K H a xs/\xs[i]?=some x,λi H x H'=>H'=H/\∀xs,SqT K H a xs->xs[i]?=some x,λi H=>∃xs,SqT K H a xs/\xs.length<=i⟩
def Itr(lo:Int)(n:Nat):It:=⟨λi _=>i<n,λi H x H'=>H'=H/\x=.int (lo+i),λi _=>n<=i⟩
def Nd{P:Program}{w:World}{K:PySem.W.Frag}{tg:Expr}(a it:Addr):Turn P w K tg (Itl K a) [it] it (λi h=>h.IsListIter it a i) where
 mem:=by simp
 obj:=λi h st b hb=>by
  have e:b=it:=by simpa using hb
  subst e;obtain⟨o,e,c,d⟩:=st;exact⟨o,e,λv z=>by rw[d]at z;cases z⟩
 keep:=λi h h' st k=>st.at λo e=>k it (by simp) o e
 item:=by
  intro X hP hw hK hc i pins s σ H E I hf st hg;subst hP hw hK;obtain⟨xs,x,hq,hx⟩:=hg;obtain⟨its,rv,p,hz⟩:=I.list hq;obtain⟨u,hu,ru⟩:=rv.get hx;obtain⟨f0,f1,f2,f3,f4,f5⟩:=hf it (by simp);refine wpAny_pyNext_list_item st p.isList (x:=u) (by simpa using hu) λh' st' sb=>?_;have I1:Inv X pins σ H { s with heap:=h' }:=I.turned (t':=s.toks) (λb o hb e=>(sb.2 b hb).trans e) f0 f1 f3 f4 f5;obtain⟨o,e,c,d⟩:=id st';exact⟨u,rfl,NH (s:={ s with heap:=h' }) e c d (by decide) ⟨x,H,I1,ru,⟨rfl,λys hy=>by rw[I.list_inj hy hq];exact hx⟩,st',λb hb=>(hf b hb).1⟩⟩
 done:=by
  intro X hP hw hK hc i pins s σ H E I hf st hg;subst hP hw hK;obtain⟨xs,hq,hx⟩:=hg;obtain⟨its,rv,p,hz⟩:=I.list hq;obtain⟨f0,f1,f2,f3,f4,f5⟩:=hf it (by simp);have hl:=rv.length;exact wpAny_pyNext_list_end (I.ok.hd hc) st p.isList (by simp;omega) λh' eb=>⟨rfl,I.turned (t':=s.toks) (λb o hb e=>eb b o hb e) f0 f1 f3 f4 f5⟩
 self:=λ_ _ _ _ _ st h=>wpAny_pyIter_listiter st h
def ML{P:Program}{w:World}{K:PySem.W.Frag}{tg:Expr}(a it:Addr):Turn P w K tg (Itt K a) [it] it (λi h=>h.IsTupleIter it a i) where
 mem:=by simp
 obj:=λi h st b hb=>by
  have e:b=it:=by simpa using hb
  subst e;obtain⟨o,e,c,d⟩:=st;exact⟨o,e,λv z=>by rw[d]at z;cases z⟩
 keep:=λi h h' st k=>st.at λo e=>k it (by simp) o e
 item:=by
  intro X hP hw hK hc i pins s σ H E I hf st hg;subst hP hw hK;obtain⟨xs,x,hq,hx⟩:=hg;obtain⟨its,rv,p,hz⟩:=I.tuple hq;obtain⟨u,hu,ru⟩:=rv.get hx;obtain⟨f0,f1,f2,f3,f4,f5⟩:=hf it (by simp);refine wpAny_pyNext_tuple_item st (show s.heap.IsTuple a its.toArray from p) (x:=u) (by simpa using hu) λh' st' sb=>?_;have I1:Inv X pins σ H { s with heap:=h' }:=I.turned (t':=s.toks) (λb o hb e=>(sb.2 b hb).trans e) f0 f1 f3 f4 f5;obtain⟨o,e,c,d⟩:=id st';exact⟨u,rfl,NH (s:={ s with heap:=h' }) e c d (by decide) ⟨x,H,I1,ru,⟨rfl,λys hy=>by rw[I.tuple_inj hy hq];exact hx⟩,st',λb hb=>(hf b hb).1⟩⟩
 done:=by
  intro X hP hw hK hc i pins s σ H E I hf st hg;subst hP hw hK;obtain⟨xs,hq,hx⟩:=hg;obtain⟨its,rv,p,hz⟩:=I.tuple hq;obtain⟨f0,f1,f2,f3,f4,f5⟩:=hf it (by simp);have hl:=rv.length;exact wpAny_pyNext_tuple_end (I.ok.hd hc) st (show s.heap.IsTuple a its.toArray from p) (by simp;omega) λh' eb=>⟨rfl,I.turned (t':=s.toks) (λb o hb e=>eb b o hb e) f0 f1 f3 f4 f5⟩
 self:=λ_ _ _ _ _ st h=>wpAny_pyIter_tupleiter st h
def MM{P:Program}{w:World}{K:PySem.W.Frag}{tg:Expr}(it:Addr)(lo:Int)(n:Nat):Turn P w K tg (Itr lo n) [it] it (λi h=>IsRangeIter h it (lo+(i:Nat)*1) ((n:Int)-(i:Nat)) 1) where
 mem:=by simp
 obj:=λi h st b hb=>by
  have e:b=it:=by simpa using hb
  subst e;exact⟨_,st,λv z=>by
   have z':Data.fields _=Data.cell v:=z;cases z'⟩
 keep:=λi h h' st k=>k it (by simp) _ st
 item:=by
  intro X hP hw hK hc i pins s σ H E I hf st hg;subst hP hw hK;obtain⟨f0,f1,f2,f3,f4,f5⟩:=hf it (by simp);have W:=Walks.range (prog:=X.prog) (w:=X.w) (I.ok.hd hc) it lo 1 n;refine W.item i s _ _ hg st λv h' tk hv st' kk=>?_;obtain⟨t,rfl⟩:=hv;have I1:Inv X pins σ H { s with heap:=h',toks:=tk }:=I.turned (λb o hb e=>kk b o (by simpa using hb) e) f0 f1 f3 f4 f5;refine⟨_,rfl,NH (s:={ s with heap:=h',toks:=tk }) (n:="range_iterator") st' rfl rfl (by decide) ⟨.int (lo+i),H,I1,⟨t,?_⟩,⟨rfl,rfl⟩,st',λb hb=>(hf b hb).1⟩⟩;rw[Int.mul_one]
 done:=by
  intro X hP hw hK hc i pins s σ H E I hf st hg;subst hP hw hK;obtain⟨f0,f1,f2,f3,f4,f5⟩:=hf it (by simp);exact wpAny_pyNext_range_end (I.ok.hd hc) st (by have:n<=i:=hg;omega) λh' eb=>⟨rfl,I.turned (t':=s.toks) (λb o hb e=>eb b o hb e) f0 f1 f3 f4 f5⟩
 self:=λ_ _ _ _ _ st h=>wpAny_pyIter_rangeiter st h
section
variable{X:Cx}{tg:Expr}
def Gk(K:PySem.W.Frag)(tl:TE):TI:=λσ H R=>tl σ H λx H1=>∃a,x=.ref a/\(∃xs,SqL K H1 a xs)/\R (Itl K a) H1
def NE(K:PySem.W.Frag)(tl:TE):TI:=λσ H R=>tl σ H λx H1=>∃a,x=.ref a/\(∃xs,SqT K H1 a xs)/\R (Itt K a) H1
def TR{l:Expr}{tl:TE}(hl:PE X l tl):PI X tg l (Gk X.K tl):=by
 intro pins s σ H R I h;refine thn (hl pins s σ H _ I h) λv s1 ⟨x,H1,I1,r1,q1⟩=>?_;obtain⟨a,e,⟨xs,hq⟩,q⟩:=q1;subst e;cases r1;obtain⟨its,rv,p,hz⟩:=I1.list hq;refine wpAny_pyIter_list p.isList ?_;refine⟨s1.heap.objs.size,[s1.heap.objs.size],_,_,H1,rfl,I1.kept (t':=s1.toks) λb o e=>Heap.get?_push_of_some _ e,Nd a _,⟨_,Heap.get?_push_size _ rfl,rfl,rfl⟩,λb hb=>?_,q⟩;have e:b=s1.heap.objs.size:=by simpa using hb
 subst e;exact I1.fpOk (le_refl _) (I1.hok.fresh (le_refl _))
def W7{l:Expr}{tl:TE}(hl:PE X l tl):PI X tg l (NE X.K tl):=by
 intro pins s σ H R I h;refine thn (hl pins s σ H _ I h) λv s1 ⟨x,H1,I1,r1,q1⟩=>?_;obtain⟨a,e,⟨xs,hq⟩,q⟩:=q1;subst e;cases r1;obtain⟨its,rv,p,hz⟩:=I1.tuple hq;refine wpAny_pyIter_tuple (show s1.heap.IsTuple a its.toArray from p) ?_;refine⟨s1.heap.objs.size,[s1.heap.objs.size],_,_,H1,rfl,I1.kept (t':=s1.toks) λb o e=>Heap.get?_push_of_some _ e,ML a _,⟨_,Heap.get?_push_size _ rfl,rfl,rfl⟩,λb hb=>?_,q⟩;have e:b=s1.heap.objs.size:=by simpa using hb
 subst e;exact I1.fpOk (le_refl _) (I1.hok.fresh (le_refl _))
def Pi{pins:List (Addr×Obj)}{σ:St}{H:Hp}{s:Shared}{R:It->Hp->Prop}{E:Value->Shared->Prop}{lo hi:Int}{t u v:Tok}{tk:Nat}(I:Inv X pins σ H s)(h1:-(2^62)<=lo)(h2:lo<2^62)(h3:-(2^62)<=hi)(h4:hi<2^62)
 (q:R (Itr lo (hi-lo).toNat) H):wpAny (model X.prog X.w) X.A (pyIter (.ref s.heap.objs.size)) (PIE X pins σ tg R) E { s with heap:=s.heap.push { cls:=.type "range",data:=.fields #[.int lo t,.int hi u,.int 1 v] },toks:=tk }:=by
 refine wpAny_pyIter_range (IsRange.new ..) (small_one h1 h2 h3 h4) ?_;have I1:Inv X pins σ H { s with heap:=s.heap.push { cls:=.type "range",data:=.fields #[.int lo t,.int hi u,.int 1 v] },toks:=tk }:=I.kept λb o e=>Heap.get?_push_of_some _ e;refine⟨(s.heap.push { cls:=.type "range",data:=.fields #[.int lo t,.int hi u,.int 1 v] }).objs.size,[(s.heap.push { cls:=.type "range",data:=.fields #[.int lo t,.int hi u,.int 1 v] }).objs.size],_,_,H,rfl,
  I1.kept (t':=tk) λb o e=>Heap.get?_push_of_some _ e,MM _ lo (hi-lo).toNat,?_,λb hb=>?_,q⟩
 .have e1:lo+((0:Nat):Int)*1=lo:=by simp
  have e2:(((hi-lo).toNat:Nat):Int)-((0:Nat):Int)=Builtin.Range.rangeSize lo hi 1:=by rw[rangeSize_one];split<;>omega
  show IsRangeIter _ _ (lo+((0:Nat):Int)*1) ((((hi-lo).toNat:Nat):Int)-((0:Nat):Int)) 1;rw[e1,e2];exact Heap.get?_push_size _ rfl
 .have e:b=(s.heap.push { cls:=.type "range",data:=.fields #[.int lo t,.int hi u,.int 1 v] }).objs.size:=by simpa using hb
  subst e;exact I1.fpOk (le_refl _) (I1.hok.fresh (le_refl _))
def NF(ta:TA):TI:=λσ H R=>ta σ H λvs H1=>∃j:Int,vs=[.int j]/\-(2^62)<=j/\j<2^62/\R (Itr 0 j.toNat) H1
def O7{a:Expr}{ta:TA}{p pos:Pos}(hg:Gl X "range")(hm:X.mg "range"=none)(ha:PA X [a] ta)(hs:starEach [a] X.env=[(false,eval a X.env)]:=by rfl):PI X tg (.Call (.Name "range" p) [a] [] pos) (NF ta):=by
 intro pins s σ H R I h;refine Call_ (FO I hg hm boot_range (PyProof.Rows.callWith_type1 (thn (ha pos pins s σ H _ I h) λus s1 ⟨vs,H1,I1,r1,q1⟩=>?_) hs rfl));obtain⟨j,e,q1,q2,q⟩:=q1;subst e;cases r1 with
 |cons r rr=>
  cases rr;obtain⟨t,rfl⟩:=r;exact call_range_1 (Pi I1 (by omega) (by omega) q1 q2 (by simpa using q))
def PJ(wi:TI)(g:TG)(tb:TS):TS:=λD σ H=>wi σ H λJ H1=>∃W:Nat->Nat->St->Hp->Prop,(∃m,W 0 m σ H1)/\∀i m σ H,W i m σ H ->
 (J.stop i H/\D.nx σ H)∨(J.go i H/\∃N:St->Hp->Prop,(∀σ' H',N σ' H'->∃m',m'<m/\W (i+1) m' σ' H')/\∀x H',J.yld i H x H'->g x σ H' λσ2 H2=>tb { D with nx:=N,ct:=N,bk:=D.nx } σ2 H2)
def FH(fp:List Addr)(h:Heap):List (Addr×Obj):=fp.filterMap λb=>(h.get? b).map λo=>(b,o)
def Ck{fp:List Addr}{h:Heap}{b:Addr}{o:Obj}(hb:b∈fp)(e:h.get? b=some o):(b,o)∈FH fp h:=List.mem_filterMap.mpr ⟨b,hb,by rw[e];rfl⟩
def OD{fp:List Addr}{h:Heap}{p:Addr×Obj}(hp:p∈FH fp h):p.1∈fp/\h.get? p.1=some p.2:=by
 obtain⟨b,hb,e⟩:=List.mem_filterMap.mp hp;cases q:h.get? b with
 |none=>rw[q]at e;cases e
 |some o=>
  rw[q]at e;have e':(b,o)=p:=Option.some.inj e;subst e';exact⟨hb,q⟩
def Inv.pinned{pins:List (Addr×Obj)}{σ:St}{H:Hp}{s:Shared}{fp:List Addr}(I:Inv X pins σ H s)(hf:∀b∈fp,Cn X pins H b)(ho:∀b∈fp,∃o,s.heap.get? b=some o/\∀v,o.data≠.cell v):Inv X (pins++FH fp s.heap) σ H s:=
 I.pins_of λp hp=>(mem_append.mp hp).elim (λz=>I.pin p (mem_append_right _ z)) λz=>by
  obtain⟨hb,e⟩:=OD z;obtain⟨f0,f1,f2,_⟩:=hf p.1 hb;obtain⟨o,e',d⟩:=ho p.1 hb;rw[e]at e';cases e';exact⟨e,f0,f1,f2,d⟩
def Inv.unpinned{pins pl:List (Addr×Obj)}{σ:St}{H:Hp}{s:Shared}(I:Inv X (pins++pl) σ H s):Inv X pins σ H s:=I.pins_of λp hp=>I.pin p (mem_append_right _ (mem_append_left _ hp))
def W4{iter:Expr}{body:List Stmt}{wi:TI}{g:TG}{tb:TS}{pos:Pos}(hp:PassesOwn (model X.prog X.w) X.A X.env X.xe)(hc:X.calm=true)(hi:PI X tg iter wi)(hg:PG X tg g)(hb:PSs X body tb)
 (hs:∀x,foldedSetIterable iter X.env x=pure x:=by intro _;rfl):PS X (.For tg iter body [] pos) (PJ wi g tb):=by
 intro pins s σ H D I h;refine wpAny_For (thn (hi pins s σ H _ I h) λv s1 h1=>thn h1 λitv s2 h2=>?_) hs;obtain⟨it,fp,tn,J,H2,e,I2,T,st2,f2,W,⟨m0,w0⟩,turn⟩:=h2;subst e
 -- what stays true of the iterator's objects through the loop
 have stat:∀{H':Hp},(∀b∈fp,H' b=none)->∀b∈fp,Cn X pins H' b:=λhn b hb=>⟨hn b hb,(f2 b hb).2⟩
 refine codeAny_forLoop_any (λn s'=>∃i σ' H',Inv X pins σ' H' s'/\tn i s'.heap/\(∀b∈fp,H' b=none)/\W i n σ' H') ?_ m0 ⟨0,σ,H2,I2,st2,λb hb=>(f2 b hb).1,w0⟩;rintro n s3 ⟨i,σ3,H3,I3,st3,fr3,w3⟩;rcases turn i n σ3 H3 w3 with⟨stop,qn⟩|⟨go,N,hN,step⟩
 .refine wpAny_passesOwn hp (thn (T.done X rfl rfl rfl hc i pins s3 σ3 H3 X.xe I3 (stat fr3) st3 stop) λr s4 ⟨hr,I4⟩=>?_);subst hr;exact wpAny_execs_nil ⟨σ3,H3,I4,qn⟩
 .refine wpAny_passesOwn hp (thn (T.item X rfl rfl rfl hc i pins s3 σ3 H3 X.xe I3 (stat fr3) st3 go) λr s4 ⟨u,hr,h4⟩=>?_);subst hr;refine wpAny_passesOwn hp (thn h4 λ_ s5 ⟨x,H5,I5,r5,y5,st5,fr5⟩=>?_);have I5':=I5.pinned (stat fr5) (T.obj _ _ st5);refine wpAny_passesOwn hp (thn (hg _ s5 σ3 H5 x u _ I5' r5 (step x H5 y5)) λ_ s6 ⟨σ6,H6,I6,q6⟩=>?_);refine wpAny_passesOwn hp (thn (hb _ s6 σ6 H6 _ I6 q6) λf s7 q7=>?_);have again:∀{σ7:St} {H7:Hp},Inv X (pins++FH fp s5.heap) σ7 H7 s7->N σ7 H7->∃m,m<n/\∃i σ' H',Inv X pins σ' H' s7/\tn i s7.heap/\(∀b∈fp,H' b=none)/\W i m σ' H':=λ{σ7 H7} I7 n7=>by
   obtain⟨m',hm,w7⟩:=hN σ7 H7 n7;refine⟨m',hm,i+1,σ7,H7,I7.unpinned,T.keep _ _ _ st5 λb hb o e=>(I7.pin (b,o) (mem_append_right _ (mem_append_right _ (Ck hb e)))).1,λb hb=>?_,w7⟩;obtain⟨o,e,d⟩:=T.obj _ _ st5 b hb;exact(I7.pin (b,o) (mem_append_right _ (mem_append_right _ (Ck hb e)))).2.1
  cases f with
  |next=>obtain⟨σ7,H7,I7,n7⟩:=q7;exact again I7 n7
  |cont=>obtain⟨σ7,H7,I7,n7⟩:=q7;exact again I7 n7
  |brk=>obtain⟨σ7,H7,I7,q7⟩:=q7;exact⟨σ7,H7,I7.unpinned,q7⟩
  |ret v=>obtain⟨x7,σ7,H7,I7,r7,q7⟩:=q7;exact⟨x7,σ7,H7,I7.unpinned,r7,q7⟩
end
abbrev R2:=V->V->Hp->VK->Prop
def OpR(X:Cx)(f:Value->Value->Sem Value)(r:R2):Prop:=
 ∀(pins:List (Addr×Obj)) (s:Shared) (σ:St) (H:Hp) (x y:V) (v u:Value) (Q:VK),Inv X pins σ H s->RelV x v->RelV y u->r x y H Q ->
   wpAny (model X.prog X.w) X.A (f v u) (EP X pins σ Q) X.xe s
def UnR(X:Cx)(f:Value->Sem Value)(r:V->Hp->VK->Prop):Prop:=
 ∀(pins:List (Addr×Obj)) (s:Shared) (σ:St) (H:Hp) (x:V) (v:Value) (Q:VK),Inv X pins σ H s->RelV x v->r x H Q ->
   wpAny (model X.prog X.w) X.A (f v) (EP X pins σ Q) X.xe s
def CallR(X:Cx)(f:Value)(r:List V->Hp->VK->Prop):Prop:=
 ∀(pins:List (Addr×Obj)) (s:Shared) (σ:St) (H:Hp) (xs:List V) (us:List Value) (Q:VK),Inv X pins σ H s->Vals xs us->r xs H Q ->
   wpAny (model X.prog X.w) X.A (call f us) (EP X pins σ Q) X.xe s
def Z5(X:Cx)(r:V->Hp->(Bool->Hp->Prop)->Prop):Prop:=
 ∀(pins:List (Addr×Obj)) (s:Shared) (σ:St) (H:Hp) (x:V) (v:Value) (Q:Bool->Hp->Prop),Inv X pins σ H s->RelV x v->r x H Q ->
   wpAny (model X.prog X.w) X.A (truthy v) (TP X pins σ Q) X.xe s
def tOp(r:R2)(ta tb:TE):TE:=λσ H Q=>ta σ H λx H1=>tb σ H1 λy H2=>r x y H2 Q
def tUn(r:V->Hp->VK->Prop)(ta:TE):TE:=λσ H Q=>ta σ H λx H1=>r x H1 Q
def rI(C:Int->Int->Prop)(g:Int->Int->V):R2:=λx y H Q=>∃i j,x=.int i/\y=.int j/\C i j/\Q (g i j) H
def rI0(g:Int->Int->V):R2:=λx y H Q=>∃i j,x=.int i/\y=.int j/\Q (g i j) H
def rU(g:Int->V):V->Hp->VK->Prop:=λx H Q=>∃i,x=.int i/\Q (g i) H
section
variable{X:Cx}{a b c:Expr}{ta tb tc:TE}{pos:Pos}
def Qb(ha:PE X a ta)(hb:PE X b tb){pins:List (Addr×Obj)}{s:Shared}{σ:St}{H:Hp}{R:V->V->Hp->Prop}(I:Inv X pins σ H s)
 (h:ta σ H λx H1=>tb σ H1 λy H2=>R x y H2) {Q:Value->Shared->Prop} {f:Value->Value->Sem Value}
 (hf:∀v u s2 x y H2,Inv X pins σ H2 s2->RelV x v->RelV y u->R x y H2->wpAny (model X.prog X.w) X.A (f v u) Q X.xe s2):
 wpAny (model X.prog X.w) X.A (eval a X.env) (λv s₁=>wpAny (model X.prog X.w) X.A (eval b X.env) (λu s₂=>wpAny (model X.prog X.w) X.A (f v u) Q X.xe s₂) X.xe s₁) X.xe s:=by
 refine thn (ha pins s σ H _ I h) λv s1 ⟨x,H1,I1,r1,q1⟩=>?_;refine thn (hb pins s1 σ H1 _ I1 q1) λu s2 ⟨y,H2,I2,r2,q2⟩=>?_;exact hf v u s2 x y H2 I2 r1 r2 q2
def Jz{op:Operator}{r:R2}(ho:OpR X (binaryOp op) r)(ha:PE X a ta)(hb:PE X b tb):PE X (.BinOp a op b pos) (tOp r ta tb):=by
 intro pins s σ H Q I h;exact wpAny_BinOp (Qb ha hb I h λv u s2 x y H2 I2 rx ry q=>ho pins s2 σ H2 x y v u Q I2 rx ry q)
def Xx{op:UnaryOp}{r:V->Hp->VK->Prop}(ho:UnR X (unaryOp op) r)(ha:PE X a ta):PE X (.UnaryOp op a pos) (tUn r ta):=by
 intro pins s σ H Q I h;exact UnaryOp_ (thn (ha pins s σ H _ I h) λv s1 ⟨x,H1,I1,r1,q1⟩=>ho pins s1 σ H1 x v Q I1 r1 q1)
def opI{f:Value->Value->Sem Value}{C:Int->Int->Prop}{g:Int->Int->Int}
 (rule:∀(i j:Int) (t u:Tok) (s:Shared) (Q:Value->Shared->Prop) (E:Value->Shared->Prop),C i j->Q (.int (g i j) s.toks) { s with toks:=s.toks+1 }->wpAny (model X.prog X.w) X.A (f (.int i t) (.int j u)) Q E s):
 OpR X f (rI C λi j=>.int (g i j)):=by
 intro pins s σ H x y v u Q I rx ry h;obtain⟨i,j,rfl,rfl,hc,q⟩:=h;obtain⟨t,rfl⟩:=rx;obtain⟨t',rfl⟩:=ry;exact rule i j t t' s _ _ hc ⟨.int (g i j),H,I.tok _,⟨_,rfl⟩,q⟩
def Wh{f:Value->Value->Sem Value}{g:Int->Int->Int}
 (rule:∀(i j:Int) (t u:Tok) (s:Shared) (Q:Value->Shared->Prop) (E:Value->Shared->Prop),Q (.int (g i j) s.toks) { s with toks:=s.toks+1 }->wpAny (model X.prog X.w) X.A (f (.int i t) (.int j u)) Q E s):
 OpR X f (rI0 λi j=>.int (g i j)):=by
 intro pins s σ H x y v u Q I rx ry h;obtain⟨i,j,rfl,rfl,q⟩:=h;obtain⟨t,rfl⟩:=rx;obtain⟨t',rfl⟩:=ry;exact rule i j t t' s _ _ ⟨.int (g i j),H,I.tok _,⟨_,rfl⟩,q⟩
def Mz{f:Value->Value->Sem Value}{g:Int->Int->Bool}
 (rule:∀(i j:Int) (t u:Tok) (s:Shared) (Q:Value->Shared->Prop) (E:Value->Shared->Prop),Q (.bool (g i j)) s->wpAny (model X.prog X.w) X.A (f (.int i t) (.int j u)) Q E s):
 OpR X f (rI0 λi j=>.bl (g i j)):=by
 intro pins s σ H x y v u Q I rx ry h;obtain⟨i,j,rfl,rfl,q⟩:=h;obtain⟨t,rfl⟩:=rx;obtain⟨t',rfl⟩:=ry;exact rule i j t t' s _ _ ⟨.bl (g i j),H,I,rfl,q⟩
def XX(i j:Int):Prop:=0<j/\j<1073741824
def XW(i j:Int):Prop:=0<=j/\j<=1000000/\i.natAbs<2^64
def CMul(i j:Int):Prop:=(-(2^64)<i/\i<2^64)∨(-(2^64)<j/\j<2^64)
def CMul.ok{i j:Int}(h:CMul i j):IntMulOk i j:=by
 rcases h with⟨h1,h2⟩|⟨h1,h2⟩
 .exact .of_left (intBits_le_64 h1 h2)
 .exact .of_right (intBits_le_64 h1 h2)
def OA:OpR X (binaryOp .Add) (rI0 λi j=>.int (i+j)):=Wh λ_ _ _ _ _ _ _ q=>add_int q
def WY:OpR X (binaryOp .Sub) (rI0 λi j=>.int (i-j)):=Wh λ_ _ _ _ _ _ _ q=>sub_int q
def Wd:OpR X (binaryOp .Mult) (rI CMul λi j=>.int (i*j)):=opI λ_ _ _ _ _ _ _ hc q=>mul_int q hc.ok
def Tg:OpR X (binaryOp .FloorDiv) (rI XX λi j=>.int (i/j)):=opI λi j _ _ _ _ _ hc q=>by
 have h1:(0:Int)<j:=hc.1;have h2:j<1073741824:=hc.2;exact floordiv_int (by omega) (by rw[Int.fdiv_eq_ediv_of_nonneg i (by omega)];exact q) (.inl (PyProof.noPylong_small (by omega)))
def We:OpR X (binaryOp .Mod) (rI (λ_ j=>0<j) λi j=>.int (i%j)):=opI λi j _ _ _ _ _ hc q=>by
 have h1:(0:Int)<j:=hc;exact mod_int' (by omega) (by rw[Int.fmod_eq_emod_of_nonneg i (by omega)];exact q)
def Wa:OpR X (binaryOp .Pow) (rI XW λi j=>.int (i^j.toNat)):=opI λ_ _ _ _ _ _ _ hc q=>pow_int_small hc.1 hc.2.1 hc.2.2 q
def unI{f:Value->Sem Value}{g:Int->Int}
 (rule:∀(i:Int) (t:Tok) (s:Shared) (Q:Value->Shared->Prop) (E:Value->Shared->Prop),Q (.int (g i) s.toks) { s with toks:=s.toks+1 }->wpAny (model X.prog X.w) X.A (f (.int i t)) Q E s):
 UnR X f (rU λi=>.int (g i)):=by
 intro pins s σ H x v Q I rx h;obtain⟨i,rfl,q⟩:=h;obtain⟨t,rfl⟩:=rx;exact rule i t s _ _ ⟨.int (g i),H,I.tok _,⟨_,rfl⟩,q⟩
def UU:UnR X (unaryOp .USub) (rU λi=>.int (-i)):=unI λ_ _ _ _ _ q=>neg_int q
end
def KL:V->V->Bool
 |.non,.non=>true|.non,.int _=>true|.int _,.non=>true|.non,.bl _=>true|.bl _,.non=>true|.non,.str _=>true|.str _,.non=>true
 |.int _,.int _=>true|.bl _,.bl _=>true|.str _,.str _=>true|.byt _,.byt _=>true
 |.int _,.str _=>true|.str _,.int _=>true|.bl _,.str _=>true|.str _,.bl _=>true
 |_,_=>false
def rEq:R2:=λx y H Q=>KL x y=true/\Q (.bl (decide (x=y))) H
def rNe:R2:=λx y H Q=>KL x y=true/\Q (.bl (!decide (x=y))) H
def Lz{i j:Int}:decide (V.int i=V.int j)=(i==j):=by
 rw[Bool.eq_iff_iff];simp
def OT{i j:Bool}:decide (V.bl i=V.bl j)=(i==j):=by
 rw[Bool.eq_iff_iff];simp
def Ly{i j:Str}:decide (V.str i=V.str j)=(i==j):=by
 rw[Bool.eq_iff_iff];simp
def M0{i j:Array UInt8}:decide (V.byt i=V.byt j)=(i.toList==j.toList):=by
 rw[Bool.eq_iff_iff];cases i;cases j;simp
section
variable{X:Cx}{a b c:Expr}{ta tb tc:TE}{pos:Pos}
def As{pins:List (Addr×Obj)}{σ:St}{H:Hp}{s:Shared}{Q:VK}{k k':Bool}(I:Inv X pins σ H s)(q:Q (.bl k) H)(e:k=k'):EP X pins σ Q (.bool k') s:=by
 subst e;exact⟨.bl k,H,I,rfl,q⟩
def RO:OpR X (compareOp .Eq) rEq:=by
 intro pins s σ H x y v u Q I rx ry h;obtain⟨hs,q⟩:=h;cases x with
 |non=>
  cases rx;cases y with
  |non=>cases ry;exact PySem.EqNone.eq_none_none (As I q (by simp))
  |bl j=>cases ry;exact PySem.EqNone.eq_none_bool (As I q (by simp))
  |int j=>obtain⟨t',rfl⟩:=ry;exact PySem.EqNone.eq_none_int (As I q (by simp))
  |str j=>obtain⟨t',rfl⟩:=ry;exact PySem.EqNone.eq_none_str (As I q (by simp))
  |_=>exact absurd (show false=true from hs) Bool.false_ne_true
 |bl i=>
  cases rx;cases y with
  |non=>cases ry;exact PySem.EqNone.eq_bool_none (As I q (by simp))
  |bl j=>cases ry;exact eq_bool (As I q OT)
  |str j=>obtain⟨t',rfl⟩:=ry;exact PySem.EqMixed.eq_bool_str (As I q (by simp))
  |_=>exact absurd (show false=true from hs) Bool.false_ne_true
 |int i=>
  obtain⟨t,rfl⟩:=rx;cases y with
  |non=>cases ry;exact PySem.EqNone.eq_int_none (As I q (by simp))
  |int j=>obtain⟨t',rfl⟩:=ry;exact eq_int (As I q Lz)
  |str j=>obtain⟨t',rfl⟩:=ry;exact PySem.EqMixed.eq_int_str (As I q (by simp))
  |_=>exact absurd (show false=true from hs) Bool.false_ne_true
 |str i=>
  obtain⟨t,rfl⟩:=rx;cases y with
  |non=>cases ry;exact PySem.EqNone.eq_str_none (As I q (by simp))
  |bl j=>cases ry;exact PySem.EqMixed.eq_str_bool (As I q (by simp))
  |int j=>obtain⟨t',rfl⟩:=ry;exact PySem.EqMixed.eq_str_int (As I q (by simp))
  |str j=>obtain⟨t',rfl⟩:=ry;exact eq_str (As I q Ly)
  |_=>exact absurd (show false=true from hs) Bool.false_ne_true
 |byt i=>
  obtain⟨t,rfl⟩:=rx;cases y with
  |byt j=>obtain⟨t',rfl⟩:=ry;exact PySem.W.eq_bytes (As I q M0)
  |_=>exact absurd (show false=true from hs) Bool.false_ne_true
 |_=>cases y<;>exact absurd (show false=true from hs) Bool.false_ne_true
def Y4:OpR X (compareOp .NotEq) rNe:=by
 intro pins s σ H x y v u Q I rx ry h;obtain⟨hs,q⟩:=h;cases x with
 |non=>
  cases rx;cases y with
  |non=>cases ry;exact PySem.EqNone.ne_none_none (As I q (by simp))
  |bl j=>cases ry;exact PySem.EqNone.ne_none_bool (As I q (by simp))
  |int j=>obtain⟨t',rfl⟩:=ry;exact PySem.EqNone.ne_none_int (As I q (by simp))
  |str j=>obtain⟨t',rfl⟩:=ry;exact PySem.EqNone.ne_none_str (As I q (by simp))
  |_=>exact absurd (show false=true from hs) Bool.false_ne_true
 |bl i=>
  cases rx;cases y with
  |non=>cases ry;exact PySem.EqNone.ne_bool_none (As I q (by simp))
  |bl j=>cases ry;exact ne_bool (As I q (congrArg not OT))
  |str j=>obtain⟨t',rfl⟩:=ry;exact PySem.EqMixed.ne_bool_str (As I q (by simp))
  |_=>exact absurd (show false=true from hs) Bool.false_ne_true
 |int i=>
  obtain⟨t,rfl⟩:=rx;cases y with
  |non=>cases ry;exact PySem.EqNone.ne_int_none (As I q (by simp))
  |int j=>obtain⟨t',rfl⟩:=ry;exact ne_int (As I q (congrArg not Lz))
  |str j=>obtain⟨t',rfl⟩:=ry;exact PySem.EqMixed.ne_int_str (As I q (by simp))
  |_=>exact absurd (show false=true from hs) Bool.false_ne_true
 |str i=>
  obtain⟨t,rfl⟩:=rx;cases y with
  |non=>cases ry;exact PySem.EqNone.ne_str_none (As I q (by simp))
  |bl j=>cases ry;exact PySem.EqMixed.ne_str_bool (As I q (by simp))
  |int j=>obtain⟨t',rfl⟩:=ry;exact PySem.EqMixed.ne_str_int (As I q (by simp))
  |str j=>obtain⟨t',rfl⟩:=ry;exact ne_str (As I q (congrArg not Ly))
  |_=>exact absurd (show false=true from hs) Bool.false_ne_true
 |byt i=>
  obtain⟨t,rfl⟩:=rx;cases y with
  |byt j=>obtain⟨t',rfl⟩:=ry;exact PySem.W.ne_bytes (As I q (congrArg not M0))
  |_=>exact absurd (show false=true from hs) Bool.false_ne_true
 |_=>cases y<;>exact absurd (show false=true from hs) Bool.false_ne_true
def R9:OpR X (compareOp .Lt) (rI0 λi j=>.bl (decide (i<j))):=Mz λ_ _ _ _ _ _ _ q=>lt_int q
def Y5:OpR X (compareOp .LtE) (rI0 λi j=>.bl (decide (i<=j))):=Mz λ_ _ _ _ _ _ _ q=>le_int q
def RJ:OpR X (compareOp .Gt) (rI0 λi j=>.bl (decide (j<i))):=Mz λ_ _ _ _ _ _ _ q=>gt_int q
def RK:OpR X (compareOp .GtE) (rI0 λi j=>.bl (decide (j<=i))):=Mz λ_ _ _ _ _ _ _ q=>ge_int q
def OpR.or{f:Value->Value->Sem Value}{r r':R2}(h:OpR X f r)(h':OpR X f r'):OpR X f (λx y H Q=>r x y H Q∨r' x y H Q):=by
 intro pins s σ H x y v u Q I rx ry q;rcases q with q|q
 .exact h pins s σ H x y v u Q I rx ry q
 .exact h' pins s σ H x y v u Q I rx ry q
def GG(b:Expr){op:CmpOp}(h:op≠.In:=by decide)(h2:op≠.NotIn:=by decide):behindInMarks op b=false:=by
 have e1:(op==CmpOp.In)=false:=by cases op<;>first|rfl|exact absurd rfl h
 have e2:(op==CmpOp.NotIn)=false:=by cases op<;>first|rfl|exact absurd rfl h2
 cases b<;>simp[behindInMarks,e1,e2]
def Iv{op:CmpOp}{r:R2}(ho:OpR X (compareOp op) r)(ha:PE X a ta)(hb:PE X b tb)(hm:behindInMarks op b=false):PE X (.Compare a [op] [b] pos) (tOp r ta tb):=by
 intro pins s σ H Q I h;exact wpAny_Compare1 (Qb ha hb I h λv u s2 x y H2 I2 rx ry q=>ho pins s2 σ H2 x y v u Q I2 rx ry q) hm
def Jt(t:TE):TT:=λσ H Q=>t σ H λx H'=>∃k,x=.bl k/\Q k H'
def Lo{op:CmpOp}{r:R2}(ho:OpR X (compareOp op) r)(ha:PE X a ta)(hb:PE X b tb)(hm:behindInMarks op b=false):PT X (.Compare a [op] [b] pos) (Jt (tOp r ta tb)):=by
 intro pins s σ H Q I h;refine wpAny_isTrue_Compare1 (thn (ha pins s σ H _ I h) λv s1 ⟨x,H1,I1,r1,q1⟩=>thn (hb pins s1 σ H1 _ I1 q1) λu s2 ⟨y,H2,I2,r2,q2⟩=>
  thn (ho pins s2 σ H2 x y v u _ I2 r1 r2 q2) λc s3 ⟨z,H3,I3,r3,k,e,q3⟩=>?_) hm
 subst e;cases r3;exact wpAny_truthy_bool ⟨H3,I3,q3⟩
def LF(K:PySem.W.Frag)(x:V)(H:Hp)(k:Bool):Prop:=
 match x with
 |.non=>k=false
 |.bl b=>k=b
 |.int i=>k=(i != 0)
 |.str y=>y.length<=sizeLine/\k=((y.length:Int) != 0)
 |.byt y=>y.size<=sizeLine/\k=((y.size:Int) != 0)
 |.ref p=>(∃xs,SqL K H p xs/\k=!xs.isEmpty)∨(∃xs,SqT K H p xs/\k=!xs.isEmpty)∨∃kvs,H p=some (.dK kvs)/\k=!kvs.isEmpty
 |_=>False
def NC{κ:Type}{kvs:List (κ×V)}{vs:List (κ×Value)}(r:KV kvs vs):(!vs.isEmpty)=!kvs.isEmpty:=by
 cases r<;>rfl
def IP{xs:List V}{its:List Value}(r:Vals xs its):(!its.toArray.isEmpty)=!xs.isEmpty:=by
 cases r<;>simp
def GK:(sizeLine:Nat)<2^63:=by rw[sizeLine_eq];decide
def UX:Z5 X (λx H Q=>∃k,LF X.K x H k/\Q k H):=by
 intro pins s σ H x v Q I rx h;obtain⟨k,e,q⟩:=h;have hl:=GK;have hs:sizeLine=16777216:=sizeLine_eq;cases x with
 |non=>
  cases rx;have e':k=false:=e;subst e';exact truthy_none ⟨H,I,q⟩
 |bl b=>
  cases rx;have e':k=b:=e;subst e';exact wpAny_truthy_bool ⟨H,I,q⟩
 |int i=>
  obtain⟨t,rfl⟩:=rx;have e':k=(i != 0):=e;subst e';exact PySem.P.truthy_int ⟨H,I,q⟩
 |str y=>
  obtain⟨t,rfl⟩:=rx;obtain⟨hy,e'⟩:y.length<=sizeLine/\k=((y.length:Int) != 0):=e;subst e';exact PySem.P.truthy_str (by omega) ⟨H,I.tok _,q⟩
 |byt y=>
  obtain⟨t,rfl⟩:=rx;obtain⟨hy,e'⟩:y.size<=sizeLine/\k=((y.size:Int) != 0):=e;subst e';exact PySem.W.truthy_bytes (by omega) ⟨H,I.tok _,q⟩
 |ref p=>
  cases rx;have e':(∃xs,SqL X.K H p xs/\k=!xs.isEmpty)∨(∃xs,SqT X.K H p xs/\k=!xs.isEmpty)∨∃kvs,H p=some (.dK kvs)/\k=!kvs.isEmpty:=e;rcases e' with⟨xs,hx,e'⟩|⟨xs,hx,e'⟩|⟨kvs,hx,e'⟩
  .subst e';obtain⟨its,r,pl,hz⟩:=I.list hx;have hlen:=r.length;exact wpAny_truthy_list pl.isList (by simp only[size_toArray];omega) ⟨H,I.tok _,by rw[IP r];exact q⟩
  .subst e';obtain⟨its,r,pl,hz⟩:=I.tuple hx;have hlen:=r.length;exact truthy_tuple pl (by simp only[size_toArray];omega) ⟨H,I.tok _,by rw[IP r];exact q⟩
  .subst e';obtain⟨hz,hS,vs,r,m⟩:kvs.length<=sizeLine/\(p==sysModules)=false/\∃vs,KV kvs vs/\s.heap.DictOf (BD X.prog X.w) p vs:=I.hok p _ hx;have hlen:kvs.length=vs.length:=Paired.length r;exact wpAny_truthy_dict hS m (by omega) ⟨H,I.tok _,by rw[NC r];exact q⟩
 |_=>exact(show False from e).elim
def Pz(ha:PE X a ta)(he:∀whole,isTrue a X.env whole=(do let v <- whole;standAt a.pos;holding [v] (truthy v))):
 PT X a (λσ H Q=>ta σ H λx H'=>∃k,LF X.K x H' k/\Q k H'):=by
 intro pins s σ H Q I h;exact isTrue_plain (thn (ha pins s σ H _ I h) λv s1 ⟨x,H1,I1,r1,q1⟩=>UX pins s1 σ H1 x v Q I1 r1 q1) (he _)
def C1{x:V}{us:List Value}(r:Vals [x] us):∃u,us=[u]/\RelV x u:=by
 cases r with
 |cons r1 r2=>cases r2;exact⟨_,rfl,r1⟩
def Qg{x y:V}{us:List Value}(r:Vals [x,y] us):∃u w',us=[u,w']/\RelV x u/\RelV y w':=by
 cases r with
 |cons r1 r2=>
  cases r2 with
  |cons r3 r4=>cases r4;exact⟨_,_,rfl,r1,r3⟩
def Oa(hc:X.calm=true):CallR X (.builtin "min") (λxs H Q=>∃i j,xs=[.int i,.int j]/\Q (.int (if j<i then j else i)) H):=by
 intro pins s σ H xs us Q I r h;obtain⟨i,j,rfl,q⟩:=h;obtain⟨u,w',rfl,⟨t,rfl⟩,⟨t',rfl⟩⟩:=Qg r;refine min_two_ints (I.ok.hd hc) λh' tk k=>⟨_,H,I.kept k,?_,q⟩
 by_cases hj:j<i
 .rw[if_pos hj,if_pos hj];exact⟨_,rfl⟩
 .rw[if_neg hj,if_neg hj];exact⟨_,rfl⟩
def Ob:CallR X (.type "int") (λxs H Q=>(∃i,xs=[.int i]/\Q (.int i) H)∨∃k,xs=[.bl k]/\Q (.int (if k then 1 else 0)) H):=by
 intro pins s σ H xs us Q I r h;rcases h with⟨i,rfl,q⟩|⟨k,rfl,q⟩
 .obtain⟨u,rfl,t,rfl⟩:=C1 r;exact call_int_int ⟨.int i,H,I,⟨_,rfl⟩,q⟩
 .obtain⟨u,rfl,r1⟩:=C1 r;cases r1;exact call_int_bool ⟨.int (if k then 1 else 0),H,I.tok _,⟨_,rfl⟩,q⟩
end
def RelO.some_of{v:V}{o:Option Value}(r:RelO (some v) o):∃u,o=some u/\RelV v u:=by
 cases o with
 |none=>exact(show False from r).elim
 |some u=>exact⟨u,rfl,r⟩
structure Room(k:Nat)(A:Around):Prop where
 hd:A.handled=none
 dp:A.depth+3*k+5<recursionLimit
 un:A.units+16*k+200<cLine
 gd:A.guards=some []
def Room.mono{j k:Nat}{A:Around}(r:Room k A)(h:j<=k):Room j A:=⟨r.hd,by have:=r.dp;omega,by have:=r.un;omega,r.gd⟩
def Room.deeper{k:Nat}{A:Around}(r:Room (k+1) A)(env:Env):Room k (A.deeper env):=
 ⟨r.hd,by have:=r.dp;show A.depth+1+3*k+5<_;omega,by have:=r.un;show A.units+3+16*k+200<_;omega,by first|exact r.gd|(simpa [Around.deeper,Around.under,Code.guards,Code.isGuard,pushGuards]using r.gd)⟩
def Room.depth{k:Nat}{A:Around}(r:Room k A):A.depth<recursionLimit:=by have:=r.dp;omega
def Room.units{k:Nat}{A:Around}(r:Room k A):A.units+64<cLine:=by have:=r.un;omega
def DP:TA:=λ_ H Q=>Q [] H
def C8(ta:TE)(tr:TA):TA:=λσ H Q=>ta σ H λx H1=>tr σ H1 λxs H2=>Q (x::xs) H2
section
variable{X:Cx}{e:Expr}{es:List Expr}{te:TE}{t:TA}{pos:Pos}
def Ed:PA X [] DP:=λ_ _ _ _ H Q I h=>Calls.spliced_nil ⟨[],H,I,.nil,h⟩
def DL(ha:PE X e te)(hr:PA X es t)(hs:starEach (e::es) X.env=(false,eval e X.env)::starEach es X.env:=by rfl):PA X (e::es) (C8 te t):=by
 intro pos pins s σ H Q I h;rw[hs];show wpAny _ _ (spliced ((false,eval e X.env)::backTo pos (starEach es X.env))) _ _ s;refine Calls.spliced_cons (thn (ha pins s σ H _ I h) λu s1 ⟨x,H1,I1,r1,q1⟩=>?_);exact thn (hr pos pins s1 σ H1 _ I1 q1) λus s2 ⟨xs,H2,I2,r2,q2⟩=>⟨x::xs,H2,I2,.cons r1 r2,q2⟩
def P2(t:TA):TE:=λσ H Q=>t σ H λxs H1=>xs.length<=sizeLine/\∀p,H1 p=none->Q (.ref p) (upd H1 p (.tup xs))
def P8(t:TA):TE:=λσ H Q=>t σ H λxs H1=>xs.length<=sizeLine/\∀p,H1 p=none->Q (.ref p) (upd H1 p (.lst xs))
def WG{x1}(h:PA X es t):PE X (.Tuple es x1 pos) (P2 t):=by
 intro pins s σ H Q I hq;refine wpAny_Tuple_spliced (thn (h pos pins s σ H _ I hq) λus s1 ⟨xs,H1,I1,r,z,q⟩=>⟨by rw[<- r.length];exact z,?_⟩);have hf:H1 s1.heap.objs.size=none:=I1.hok.fresh (le_refl _);refine⟨.ref s1.heap.objs.size,upd H1 s1.heap.objs.size (.tup xs),I1.laid (t':=s1.toks) (λb u e=>Heap.get?_push_of_some _ e) (le_refl _) ?_,rfl,q _ hf⟩;exact⟨z,us,r,⟨_,Heap.get?_push_size _ rfl,rfl,⟨_,rfl⟩,rfl⟩⟩
def WN(h:PA X es t):PE X (.List es pos) (P8 t):=by
 intro pins s σ H Q I hq;refine wpAny_List_spliced (thn (h pos pins s σ H _ I hq) λus s1 ⟨xs,H1,I1,r,z,q⟩=>⟨by rw[<- r.length];exact z,?_⟩);have hf:H1 s1.heap.objs.size=none:=I1.hok.fresh (le_refl _);refine⟨.ref s1.heap.objs.size,upd H1 s1.heap.objs.size (.lst xs),I1.laid (t':=s1.toks) (λb u e=>Heap.get?_push_of_some _ e) (le_refl _) ?_,rfl,q _ hf⟩;exact⟨z,us,0,r,Heap.get?_push_size _ rfl⟩
end
abbrev Sp:=List V->Hp->VK->XK->Prop
abbrev CXT:=List Env->Hp->Shared->XK->Value->Shared->Prop
structure Env0(P:Program)(w:World)(K:PySem.W.Frag)(mg:Str->Option Value)(base:Heap)(A:Around)(outer:List Env)(s:Shared)(H:Hp):Prop where
 frames:A.frames=some outer
 mod:Mod K mg base
 bs:∀b o,base.get? b=some o->s.heap.get? b=some o/\H b=none
 bsz:base.objs.size<=s.heap.objs.size
 funs:s.heap.FunFrames base outer
 frf:∀b∈frs outer,H b=none
 hok:HOk P w H s.heap
 bare:AllBare s.gens
def CE(outer:List Env)(P:Program)(w:World)(H:Hp)(s:Shared)(Q:VK)(u:Value)(s':Shared):Prop:=
 ∃v H',s'.os=s.os/\AllBare s'.gens/\Un (frs outer) [] H H' s.heap s'.heap/\HOk P w H' s'.heap/\RelV v u/\Q v H'
def CR(CX:CXT)(outer:List Env)(P:Program)(w:World)(H:Hp)(s:Shared)(Q:VK)(E:XK)(r:Result)(s':Shared):Prop:=
 match r with
 |.ok (.ret u)=>CE outer P w H s Q u s'
 |.ok _=>False
 |.error e=>CX outer H s E e s'
structure FnOk(P:Program)(w:World)(K:PySem.W.Frag)(mg:Str->Option Value)(base:Heap)(CX:CXT)(k:Nat)(f:Addr)(fd:FuncData)(ps:List Str)(sp:Sp):Prop where
 len:∀vs H Q E,sp vs H Q E->vs.length=ps.length
 run:∀(A:Around) (outer:List Env) (s:Shared) (H:Hp) (args:Args) (us:List Value) (vs:List V) (Q:VK) (E:XK),Room k A->Env0 P w K mg base A outer s H->BindsTo s fd args (ps.zip us)->Vals vs us->sp vs H Q E ->
  codeAny (model P w) A (.call (.ref f) args) (CR CX outer P w H s Q E) s
def FnOk.mono{P:Program}{w:World}{K:PySem.W.Frag}{mg:Str->Option Value}{base:Heap}{CX:CXT}{j k:Nat}{f:Addr}{fd:FuncData}{ps:List Str}{sp:Sp}(F:FnOk P w K mg base CX j f fd ps sp)(h:j<=k):
 FnOk P w K mg base CX k f fd ps sp:=⟨F.len,λA outer s H args us vs Q E hr=>F.run A outer s H args us vs Q E (hr.mono h)⟩
section
variable{X:Cx}{pins:List (Addr×Obj)}{σ:St}{H:Hp}{s s':Shared}
def Inv.env0(I:Inv X pins σ H s):Env0 X.prog X.w X.K X.mg X.base X.A X.stack s H:=
 ⟨I.ok.frames,I.ok.mod,I.bs,le_trans I.ok.bsz I.sz,I.stack,I.stkFree,I.hok,I.bare⟩
def Inv.after{Q:VK}{u:Value}(I:Inv X pins σ H s)(h:CE X.stack X.prog X.w H s Q u s'):EP X pins σ Q u s':=by
 obtain⟨v,H',os,bare,un,hok,r,q⟩:=h;obtain⟨hh,g,d,t,os'⟩:=s';obtain rfl:os'=s.os:=os;exact⟨v,H',I.call (h':=hh) (g':=g) (d':=d) (t':=t) (ch:=[]) un hok bare (λb z=>absurd z (by simp)),r,q⟩
end
def Et(sp:Sp)(dvs:List V)(E:XK)(t:TA):TE:=λσ H Q=>t σ H λvs H1=>sp (vs++dvs) H1 Q E
def Binds(K:PySem.W.Frag)(fd:FuncData)(ps:List Str)(ds:List Value):Prop:=
 ∀(s:Shared) (us:List Value),K.In s.heap->(us++ds).length=ps.length->BindsTo s fd ⟨us,[]⟩ (ps.zip (us++ds))
def Binds.all{K:PySem.W.Frag}{fd:FuncData}{ps:List Str}(h:∀us:List Value,us.length=ps.length->bindArgs fd ⟨us,[]⟩=pure (ps.zip us)):Binds K fd ps []:=λs us _ hl=>by
 rw[append_nil]at hl ⊢;exact .of_eq (h us hl)
def LH(CX:CXT)(X:Cx)(E:XK):Prop:=∀(pins:List (Addr×Obj)) (σ:St) (H:Hp) (s:Shared) (e:Value) (s':Shared),Inv X pins σ H s->CX X.stack H s E e s'->X.xe e s'
section
variable{X:Cx}{CX:CXT}{k:Nat}{f C:Addr}{fd:FuncData}{ps:List Str}{sp:Sp}{dvs:List V}{ds:List Value}{E:XK}{x m:Str}{p pos apos:Pos}{e o:Expr}{es:List Expr}{ta:TE}{t:TA}
def Uf{pins:List (Addr×Obj)}{σ:St}{H:Hp}{s:Shared}{Q:VK}{us:List Value}{vs:List V}(F:FnOk X.prog X.w X.K X.mg X.base CX k f fd ps sp)(hr:Room k X.A)(hb:Binds X.K fd ps ds)(hd:Vals dvs ds)(hx:LH CX X E)
 (I:Inv X pins σ H s) (r:Vals vs us) (h:sp (vs++dvs) H Q E):wpAny (model X.prog X.w) X.A (call (.ref f) us) (EP X pins σ Q) X.xe s:=by
 have r2:Vals (vs++dvs) (us++ds):=r.append hd;have hl:(us++ds).length=ps.length:=by rw[<- r2.length];exact F.len _ _ _ _ h
 refine wpAny_call (codeAny_mono (F.run X.A X.stack s H ⟨us,[]⟩ (us++ds) (vs++dvs) Q E hr I.env0 (hb s us I.kIn hl) r2 h) λr s' hq=>?_);cases r with
 |error e=>exact hx pins σ H s e s' I hq
 |ok fl=>
  cases fl with
  |ret u=>exact I.after hq
  |next=>exact False.elim hq
  |brk=>exact False.elim hq
  |cont=>exact False.elim hq
def Td(F:FnOk X.prog X.w X.K X.mg X.base CX k f fd ps sp)(hr:Room k X.A)(hg:Gl X x)(hm:X.mg x=some (.ref f))(hk:PySem.W.keepIn X.K (.ref f)=true)(hb:Binds X.K fd ps ds)(hd:Vals dvs ds)(hx:LH CX X E)
 (ha:PA X (e::es) t) (hdb:(x==("__debug__":Str))=false:=by decide) (he:starEach (e::es) X.env=(false,eval e X.env)::starEach es X.env:=by rfl) (hpl:(backTo pos (starEach es X.env)).any (·.1)=false:=by rfl):
 PE X (.Call (.Name x p) (e::es) [] pos) (Et sp dvs E t):=by
 intro pins s σ H Q I h;refine wpAny_Call_Name_kw (U2 I hg hm ?_ hdb);refine PySem.W.callWith_K (h₀:=X.base) I.ok.mod.kin hk (thn (ha pos pins s σ H _ I h) λus s1 ⟨vs,H1,I1,r,q⟩=>⟨I1.kIn,?_⟩) he hpl;exact Uf F hr hb hd hx I1 r q
end
structure FnScope(N P:List Str)(sc:Scope):Prop where
 kind:sc.kind=.function
 co:sc.isCoroutine=false
 gen:sc.isGenerator=false
 nd:N.Nodup
 pre:N.take P.length=P
 par:∀x∈P,sc.names.lookup x=some .local∨sc.names.lookup x=some .cell
 nofree:∀y∈sc.names,y.2≠.free
def Ja{kindOf:Str->Option NameKind}{x:Str}:∀{binds:List (Str×Value)} {m:Str->Option Value},(∀v,(x,v)∉binds)->bindL kindOf binds m x=m x
 |[],_,_=>rfl
 |(n,v)::r,m,h=>by
   unfold bindL;rw[Ja λw hw=>h w (mem_cons_of_mem _ hw)];split
   .have:x≠n:=by rintro rfl;exact h v mem_cons_self
    simp[this]
   .rfl
def Jc{kindOf:Str->Option NameKind}{x:Str}:∀{binds:List (Str×Value)} {m:Str->Option Value},(∀v,(x,v)∉binds)->bindC kindOf binds m x=m x
 |[],_,_=>rfl
 |(n,v)::r,m,h=>by
   unfold bindC;rw[Jc λw hw=>h w (mem_cons_of_mem _ hw)];split
   .rfl
   .have:x≠n:=by rintro rfl;exact h v mem_cons_self
    simp[this]
def Jb{kindOf:Str->Option NameKind}{x:Str}{v:Value}:∀{P:List Str} {vs:List Value} {i:Nat} {m:Str->Option Value},P.Nodup->P[i]?=some x->vs[i]?=some v->kindOf x=some .local ->
 bindL kindOf (P.zip vs) m x=some v
 |[],_,_,_,_,h,_,_=>by simp at h
 |_::_,[],_,_,_,_,h,_=>by simp at h
 |p::P,w::vs,0,m,nd,h1,h2,hk=>by
  simp at h1 h2;subst h1;subst h2;show bindL kindOf ((p,w)::P.zip vs) m p=_;unfold bindL;rw[Ja λv hv=>(nodup_cons.mp nd).1 (List.of_mem_zip hv).1,if_pos hk];simp
 |p::P,w::vs,i+1,m,nd,h1,h2,hk=>by
  show bindL kindOf ((p,w)::P.zip vs) m x=_;unfold bindL;exact Jb (i:=i) (nodup_cons.mp nd).2 (by simpa using h1) (by simpa using h2) hk
def Jd{kindOf:Str->Option NameKind}{x:Str}{v:Value}:∀{P:List Str} {vs:List Value} {i:Nat} {m:Str->Option Value},P.Nodup->P[i]?=some x->vs[i]?=some v->kindOf x≠some .local ->
 bindC kindOf (P.zip vs) m x=some v
 |[],_,_,_,_,h,_,_=>by simp at h
 |_::_,[],_,_,_,_,h,_=>by simp at h
 |p::P,w::vs,0,m,nd,h1,h2,hk=>by
  simp at h1 h2;subst h1;subst h2;show bindC kindOf ((p,w)::P.zip vs) m p=_;unfold bindC;rw[Jc λv hv=>(nodup_cons.mp nd).1 (List.of_mem_zip hv).1,if_neg hk];simp
 |p::P,w::vs,i+1,m,nd,h1,h2,hk=>by
  show bindC kindOf ((p,w)::P.zip vs) m x=_;unfold bindC;exact Jd (i:=i) (nodup_cons.mp nd).2 (by simpa using h1) (by simpa using h2) hk
def D8(N:List Str)(vs:List V):St:=vs.map some++List.replicate (N.length-vs.length) none
def GS(CX:CXT)(P:Program)(w:World)(K:PySem.W.Frag)(mg:Str->Option Value)(base:Heap)(N:List Str)(qual:Str)(scope:Scope)(f:Addr)(cd:Value)(A:Around)(outer:List Env)(s:Shared)(H:Hp)(E:XK):Cx where
 prog:=P
 w:=w
 K:=K
 mg:=mg
 base:=base
 A:=A.deeper (envOfC qual scope s.heap.objs.size f cd)
 N:=N
 s₀:=s
 H₀:=H
 env:=envOfC qual scope s.heap.objs.size f cd
 outer:=outer
 stack:=envOfC qual scope s.heap.objs.size f cd::outer
 ex:=[]
 calm:=true
 fn:=λ_=>true
 pn:=[]
 xe:=λe s'=>wpAny (model P w) (A.deeper (envOfC qual scope s.heap.objs.size f cd)) (leaving (envOfC qual scope s.heap.objs.size f cd) e) (λ_ s''=>CX outer H s E e s'') (λe' s''=>CX outer H s E e' s'') s'
def L9{sc:Scope}{n:Nat}{x:Str}(h:sc.names.lookup x=some .cell):∃c,(cellsFrom n sc.names []).lookup x=some c:=by
 have q:=PySem.W.cellsFrom_some sc.names n [] (.inl h);exact isSome_iff_exists.mp q
def OP{CX:CXT}{P:Program}{w:World}{K:PySem.W.Frag}{mg:Str->Option Value}{base:Heap}{N ps:List Str}{qual:Str}{scope:Scope}{f:Addr}{cd:Value}{A:Around}{outer:List Env}{s s1:Shared}{H:Hp}{E:XK}{us:List Value}{vs:List V}
 (S:FnScope N ps scope) (hd:A.handled=none) (e0:Env0 P w K mg base A outer s H) (hl:vs.length=ps.length) (r:Vals vs us)
 (x:InCallC s s.heap.objs.size (bindL (envOfC qual scope s.heap.objs.size f cd).kindOf (ps.zip us) λ_=>none) (cellsFrom (s.heap.objs.size+1) scope.names []) (bindC (envOfC qual scope s.heap.objs.size f cd).kindOf (ps.zip us) λ_=>none) s1):
 Inv (GS CX P w K mg base N qual scope f cd A outer s H E) [] (D8 N vs) H s1:=by
 have hpl:ps.length<=N.length:=by have:=congrArg List.length S.pre;rw[length_take]at this;omega
 obtain⟨h1,tk,rfl,hk⟩:=x.done;have noA:∀b:Addr,b∉(GS CX P w K mg base N qual scope f cd A outer s H E).ex:=λb z=>absurd (show b∈([]:List Addr)from z) (by simp);refine⟨⟨e0.mod,S.kind,rfl,rfl,le_refl _,λy z c h1 h2=>?_,λy hy=>?_,λy c _ h=>?_,λ_=>hd,Around.frames_deeper e0.frames,.inr ⟨rfl,rfl⟩,λb z=>absurd z (noA b),e0.bs,e0.bsz,λb _ _=>noA b,λb z=>absurd z (noA b),e0.funs,e0.frf⟩,
  rfl,e0.bare,Un.kept hk,⟨_,x.toInCall.ns,λi y v h1 h2 h3=>?_⟩,λy c h=>⟨_,x.cell y c h⟩,e0.hok.fresh (le_refl _),λy c h=>?_,λp hp=>absurd (show p∈([]:List (Addr×Obj))from hp) (by simp),e0.hok.kept hk,?_⟩
 .exact name_of_addr x.apart (PySem.mem_of_lookup h1) (PySem.mem_of_lookup h2)
 .have hy:scope.names.lookup y=some .cell∨scope.names.lookup y=some .free:=hy;rcases hy with hy|hy
  .exact L9 hy
  .exact absurd rfl (S.nofree _ (PySem.mem_of_lookup hy))
 .exact le_of_lt (x.above y c (PySem.mem_of_lookup h))
 .have hi:i<vs.length:=by
   unfold D8 at h2;by_cases hi:i<vs.length
   .exact hi
   .rw[List.getElem?_append_right (by simpa using hi)]at h2;rw[List.getElem?_replicate]at h2;split at h2<;>cases h2
  have ha:vs[i]?=some v:=by
   unfold D8 at h2;rw[List.getElem?_append_left (by simpa using hi),List.getElem?_map]at h2;cases e:vs[i]? with
   |none=>rw[e]at h2;cases h2
   |some a=>rw[e]at h2;cases h2;rfl
  obtain⟨u,hu,rv⟩:=r.get ha;have hp:ps[i]?=some y:=by
   rw[<- S.pre,List.getElem?_take_of_lt (by omega)];exact h1
  have ndP:ps.Nodup:=by rw[<- S.pre];exact S.nd.sublist (List.take_sublist _ _)
  refine⟨u,rv,?_⟩;rcases S.par y (mem_of_getElem? hp)with k|k
  .exact .inl ⟨k,Jb ndP hp hu k⟩
  .obtain⟨c,e⟩:=L9 (n:=s.heap.objs.size+1) k;refine .inr ⟨.inl k,c,e,?_⟩;have q:=x.cell y c e;rw[Jd ndP hp hu (by show scope.names.lookup y≠_;rw[k];decide)]at q;exact q
 .exact e0.hok.fresh (le_of_lt (x.above y c (PySem.mem_of_lookup h)))
 .unfold D8;show _=N.length;rw[length_append,length_map,List.length_replicate];omega
def YF{CX:CXT}{P:Program}{w:World}{K:PySem.W.Frag}{mg:Str->Option Value}{base:Heap}{k:Nat}{f:Addr}{name qual:Str}{params:Arguments}{body:List Stmt}{scope:Scope}{dV kV doc pm cdv ct oc:Value}{an od:Option Addr}
 {osl:Array (Option Value)} {N ps:List Str} {sp:Sp} (lk:K.lookup f=some ⟨oc,od,.func (PySem.W.fnOf name qual params body scope dV kV doc pm an cdv ct),osl⟩) (hcd:PySem.W.codeIn K cdv qual=true) (S:FnScope N ps scope)
 (len:∀vs H Q E,sp vs H Q E->vs.length=ps.length)
 (hbody:∀(A:Around) (outer:List Env) (s:Shared) (H:Hp) (vs:List V) (Q:VK) (E:XK),Room k (A.deeper (envOfC qual scope s.heap.objs.size f cdv))->sp vs H Q E ->
  ∃t,PSs (GS CX P w K mg base N qual scope f cdv A outer s H E) body t/\t { nx:=λ_ H'=>Q .non H',rt:=Q } (D8 N vs) H):
 FnOk P w K mg base CX (k+1) f (PySem.W.fnOf name qual params body scope dV kV doc pm an cdv ct) ps sp:=by
 refine⟨len,λA outer s H args us vs Q E hr e0 hb r hsp=>?_⟩;have hl:=len _ _ _ _ hsp;have KX:K.In s.heap:=e0.mod.kin.keeps λb o e=>(e0.bs b o e).1;have lim:s.heap.NoLimit:=e0.mod.nolimit.keeps λb o e=>(e0.bs b o e).1;have hkind:∀y∈ps.zip us,scope.names.lookup y.1=some .local∨(scope.names.lookup y.1=some .cell/\((cellsFrom (s.heap.objs.size+1) scope.names []).lookup y.1).isSome=true):=λ⟨n,v⟩ hy=>by
  rcases S.par n (List.of_mem_zip hy).1 with q|q
  .exact .inl q
  .exact .inr ⟨q,PySem.W.cellsFrom_some _ _ _ (.inl q)⟩
 refine codeAny_call_function hr.depth (KX _ _ lk) rfl S.co S.gen rfl (PySem.W.codeRec_of KX hcd) (hb _ _ _ _ ?_);refine wpAny_newFunctionEnv_cells S.kind hkind λenv he s1 x=>?_;subst he;refine⟨lim.keeps x.toInCall.keep,codeAny_func ?_⟩;obtain⟨t,ht,hq⟩:=hbody A outer s H vs Q E (hr.deeper _) hsp;have I:Inv (GS CX P w K mg base N qual scope f cdv A outer s H E) [] (D8 N vs) H s1:=OP S hr.hd e0 hl r x;refine wpAny_mono (ht [] s1 (D8 N vs) H _ I hq) (λfl s' hs=>?_) λe s' hs=>hs;have fin:∀{σ':St} {H':Hp} {v:V} {u:Value},Inv (GS CX P w K mg base N qual scope f cdv A outer s H E) [] σ' H' s'->RelV v u->Q v H'->CE outer P w H s Q u s':=
  λ{σ' H' v u} J rv q=>⟨v,H',J.os,J.bare,J.base,J.hok,rv,q⟩
 cases fl with
 |ret u=>
  obtain⟨v,σ',H',J,rv,q⟩:=hs;exact fin J rv q
 |next=>
  obtain⟨σ',H',J,q⟩:=hs;exact fin (v:=V.non) (u:=Value.none) J rfl q
 |brk=>
  obtain⟨_,_,_,q⟩:=hs;exact False.elim q
 |cont=>
  obtain⟨_,_,_,q⟩:=hs;exact False.elim q
section
variable{X:Cx}{x:Str}{p pos:Pos}{e:Expr}{es:List Expr}{t:TA}{id T:String}{r:List V->Hp->VK->Prop}
def tCB(r:List V->Hp->VK->Prop)(t:TA):TE:=λσ H Q=>t σ H λvs H1=>r vs H1 Q
def HL(hc:CallR X (.builtin id) r)(hg:Gl X x)(hm:X.mg x=none)(hv:bootBuiltins x=some (.builtin id))(ha:PA X (e::es) t)(hn:x≠"__name__":=by decide)(hdb:(x==("__debug__":Str))=false:=by decide)
 (he:starEach (e::es) X.env=(false,eval e X.env)::starEach es X.env:=by rfl) (hpl:(backTo pos (starEach es X.env)).any (·.1)=false:=by rfl):PE X (.Call (.Name x p) (e::es) [] pos) (tCB r t):=by
 intro pins s σ H Q I h;refine wpAny_Call_Name_kw (FO I hg hm hv ?_ hn hdb);exact PyProof.Rows.callWith_builtin1 (thn (ha pos pins s σ H _ I h) λus s1 ⟨vs,H1,I1,r1,q1⟩=>hc pins s1 σ H1 vs us Q I1 r1 q1) he hpl
def Ew(hc:CallR X (.type T) r)(hg:Gl X x)(hm:X.mg x=none)(hv:bootBuiltins x=some (.type T))(ha:PA X (e::es) t)(hn:x≠"__name__":=by decide)(hdb:(x==("__debug__":Str))=false:=by decide)
 (he:starEach (e::es) X.env=(false,eval e X.env)::starEach es X.env:=by rfl) (hpl:(backTo pos (starEach es X.env)).any (·.1)=false:=by rfl):PE X (.Call (.Name x p) (e::es) [] pos) (tCB r t):=by
 intro pins s σ H Q I h;refine wpAny_Call_Name_kw (FO I hg hm hv ?_ hn hdb);exact PyProof.Rows.callWith_type1 (thn (ha pos pins s σ H _ I h) λus s1 ⟨vs,H1,I1,r1,q1⟩=>hc pins s1 σ H1 vs us Q I1 r1 q1) he hpl
end
end L2
namespace HT
open PySem PyProof.Rows
section
variable{prog:Program}{w:World}{A:Around}{E:Value->Shared->Prop}{s:Shared}
def cat_tup{t b:Addr}{vs ws:List Value}{Q:Value->Shared->Prop}(ht:IsTup s.heap t vs.toArray)(hb:IsTup s.heap b ws.toArray)(hv:vs≠[])
 (h1:ws=[]->Q (.ref t) s) (h2:ws≠[]->Q (.ref s.heap.objs.size) { s with heap:=s.heap.push { cls:=.type "tuple",data:=.seq (vs++ws).toArray } })
 (hsz:vs.length+ws.length<=sizeLine):wpAny (model prog w) A (binaryOp .Add (.ref t) (.ref b)) Q E s:=by
 obtain⟨⟨cls,dd,data,sl⟩,ho,hc,n,hd⟩:=id ht;obtain⟨⟨cls2,dd2,data2,sl2⟩,ho2,hc2,n2,hd2⟩:=id hb;simp only at hc hd hc2 hd2;subst hc hd hc2 hd2;have e:vs.toArray++ws.toArray=(vs++ws).toArray:=by simp
 by_cases hw:ws=[]
 .exact concat_meets ⟨_,ho,rfl⟩ ⟨_,ho2,rfl⟩ noFill_tuple_add seq_tuple_add PySem.F.slot_tuple_add PySem.F.entry_tuple_add (PySem.F.args_tuple_add_2 _ _)
   (tuple_addW1 t b vs.toArray ws.toArray n n2 dd dd2 sl sl2 (by simpa using hv) (by simp[hw])) ⟨ho,ho2,h1 hw⟩
 .refine concat_meets ⟨_,ho,rfl⟩ ⟨_,ho2,rfl⟩ noFill_tuple_add seq_tuple_add PySem.F.slot_tuple_add PySem.F.entry_tuple_add (PySem.F.args_tuple_add_2 _ _)
   (tuple_addW2 t b vs.toArray ws.toArray n n2 dd dd2 sl sl2 (by simpa using hv) (by simpa using hw) (by rw[size_toArray,size_toArray];exact hsz)) ⟨ho,ho2,?_⟩
  rw[e];exact h2 hw
def sIx(n d:Nat):Option Int->Nat
 |none=>d
 |some v=>if v<0 then(v+(n:Int)).toNat else min v.toNat n
def Ud(n d:Nat)(hd:d<=n)(o:Option Int):sIx n d o<=n:=by
 cases o with
 |none=>exact hd
 |some v=>
  show(if v<0 then(v+(n:Int)).toNat else min v.toNat n)<=n;by_cases hv:v<0
  .rw[if_pos hv];omega
  .rw[if_neg hv];exact Nat.min_le_right _ _
def M4(v:Int)(n d:Nat):(if v<0 then max (v+(n:Int)) 0 else min v (n:Int))=((sIx n d (some v):Nat):Int):=by
 show(if v<0 then max (v+(n:Int)) 0 else min v (n:Int))=(((if v<0 then(v+(n:Int)).toNat else min v.toNat n):Nat):Int);by_cases hv:v<0
 .simp only[if_pos hv];omega
 .simp only[if_neg hv];omega
def NU(lo hi:Option Int)(n:Nat):Builtin.Slice.sliceAdjust lo hi 1 (n:Int)=(((sIx n 0 lo:Nat):Int),((sIx n n hi:Nat):Int)):=by
 have h1:¬ ((1:Int)<0):=by omega
 unfold Builtin.Slice.sliceAdjust;simp only[h1,if_false];refine Prod.ext ?_ ?_
 .cases lo with
  |none=>rfl
  |some v=>exact M4 v n 0
 .cases hi with
  |none=>rfl
  |some v=>exact M4 v n n
def My(i j:Nat):Builtin.Slice.slicePlaces (i:Int) (j:Int) 1=j-i:=by
 unfold Builtin.Slice.slicePlaces;have h1:(1:Int)>0:=by omega
 simp only[h1,if_true,Int.ediv_one];split<;>omega
def Hv{v:Value}{o:Option Int}{Q:Option Int->Shared->Prop}(p:IsPart v o)(h:Q o s):wpAny (model prog w) A (Builtin.Slice.slicePartIndex v) Q E s:=by
 cases p with
 |none=>exact slicePart_none h
 |int i t=>exact slicePart_int h
def EZ{sl:Addr}{vl vu:Value}{lo hi:Option Int}{n:Nat}{Q:Int×Int×Nat->Shared->Prop}(hs:s.heap.IsSliceOf sl vl vu .none)(pl:IsPart vl lo)(pu:IsPart vu hi)
 (h:Q (((sIx n 0 lo:Nat):Int),1,sIx n n hi-sIx n 0 lo) s):wpAny (model prog w) A (Builtin.Slice.sliceApplied (.ref sl) (pure (n:Int))) Q E s:=by
 obtain⟨os,hos,hcs,hds⟩:=id hs;unfold Builtin.Slice.sliceApplied Builtin.Slice.sliceFields;refine wpAny_bind (wpAny_bind (wpAny_field hos hds (x:=vl) rfl (wpAny_bind (wpAny_field hos hds (x:=vu) rfl (wpAny_bind (wpAny_field hos hds (x:=.none) rfl (wpAny_pure ?_)))))));refine wpAny_bind (slicePart_none ?_);show wpAny _ _ (if((1:Int)==0)=true then _ else _) _ _ s;rw[if_neg (by decide)];refine wpAny_bind (Hv pl (wpAny_bind (Hv pu (wpAny_bind (wpAny_pure ?_)))));show wpAny _ _ (match Builtin.Slice.sliceAdjust lo hi 1 (n:Int)with|(lo,hi)=>pure (lo,(1:Int),Builtin.Slice.slicePlaces lo hi 1)) _ _ s;rw[NU lo hi n];show wpAny _ _ (pure (((sIx n 0 lo:Nat):Int),(1:Int),Builtin.Slice.slicePlaces ((sIx n 0 lo:Nat):Int) ((sIx n n hi:Nat):Int) 1)) _ _ s;rw[My];exact wpAny_pure h
def Q2(xs:Array Value)(i k:Nat):((List.range k).filterMap λ(m:Nat)=>xs[((i:Int)+(m:Int)*1).toNat]?).toArray=((xs.toList.drop i).take k).toArray:=by
 have e:(λ(m:Nat)=>xs[((i:Int)+(m:Int)*1).toNat]?)=λm=>xs[i+m]? := by
  funext m
  have:((i:Int)+(m:Int)*1).toNat=i+m:=by omega
  rw[this]
 rw[e];have:=pick_run xs i k;rw[List.filterMap_map]at this;have e2:((λx=>xs[x]?) ∘ λx=>i+x)=λm=>xs[i+m]? := rfl;rw[e2]at this;rw[this]
def getItem_tuple_cut{t sl:Addr}{items:Array Value}{vl vu:Value}{lo hi:Option Int}{Q:Value->Shared->Prop}(ht:IsTup s.heap t items)(hs:s.heap.IsSliceOf sl vl vu .none)(pl:IsPart vl lo)(pu:IsPart vu hi)
 (hw:¬ (sIx items.size 0 lo=0/\sIx items.size items.size hi=items.size))
 (h:Q (.ref s.heap.objs.size) { s with heap:=s.heap.push { cls:=.type "tuple",data:=.seq ((items.toList.drop (sIx items.size 0 lo)).take (sIx items.size items.size hi-sIx items.size 0 lo)).toArray } })
 (hsz:items.size<=sizeLine):wpAny (model prog w) A (getItem (.ref t) (.ref sl)) Q E s:=by
 have htake:sizeOk (.seq ((items.toList.drop (sIx items.size 0 lo)).take (sIx items.size items.size hi-sIx items.size 0 lo)).toArray):=by
  show((items.toList.drop (sIx items.size 0 lo)).take (sIx items.size items.size hi-sIx items.size 0 lo)).toArray.size<=sizeLine;rw[size_toArray,length_take,length_drop,Array.length_toList];omega
 have hj:sIx items.size items.size hi<=items.size:=Ud _ _ (le_refl _) hi;obtain⟨os,hos,hcs,hds⟩:=id hs;have hTs:s.TypeIs (.ref sl) "slice":=⟨os,hos,hcs⟩
 unfold getItem
 try with_reducible refine wpAny_holding ?_
 first|refine wpAny_bind (wpAny_pure ?_)|skip
 refine wpAny_bind (wpAny_sequenceKey ht.typeIs (by decide) ?_);refine wpAny_bind (wpAny_callSpecial?_slot (name:=Str.ofString "__getitem__") ht.typeIs PyProof.Rows.slot_tuple_getitem
  (wpAny_call_entry PyProof.Rows.slot_tuple_getitem ht.typeIs entry_tuple_getitem ?_ (args_tuple_getitem _ _)))
 show wpAny _ _ (Builtin.Tuple.tupleItemsOf (.ref t) >>= _) _ _ s;refine wpAny_bind (tupleItemsOf_ ht ?_);refine wpAny_bind (wpAny_typeOf hTs ?_);rw[if_pos (by decide)];refine wpAny_bind (EZ hs pl pu ?_);have hno:¬ ((((sIx items.size 0 lo:Nat):Int)==0&&(1:Int)==1&&(sIx items.size items.size hi-sIx items.size 0 lo)==items.size)=true):=by
  intro q;rw[Bool.and_eq_true,Bool.and_eq_true]at q;have q1:((sIx items.size 0 lo:Nat):Int)=0:=eq_of_beq q.1.1;have q2:sIx items.size items.size hi-sIx items.size 0 lo=items.size:=eq_of_beq q.2;exact hw ⟨by omega,by omega⟩
 show wpAny _ _ (if(((sIx items.size 0 lo:Nat):Int)==0&&(1:Int)==1&&(sIx items.size items.size hi-sIx items.size 0 lo)==items.size)=true then _ else _) _ _ s;rw[if_neg hno,Q2]
 first
  |exact wpAny_bind (m:=Builtin.Tuple.tupleExact _) (wpAny_newObj_type (wpAny_pure ⟨_,rfl,wpAny_pure h⟩) htake)
  |exact wpAny_bind (m:=Builtin.Tuple.tupleExact _) (wpAny_newObj_type (wpAny_bind (wpAny_pure (wpAny_pure ⟨_,rfl,wpAny_pure h⟩))) htake)
  |exact wpAny_bind (wpAny_bind (m:=Builtin.Tuple.tupleExact _) (wpAny_newObj_type (wpAny_pure (wpAny_pure ⟨_,rfl,wpAny_pure h⟩)) htake))
  |exact wpAny_bind (wpAny_bind (m:=Builtin.Tuple.tupleExact _) (wpAny_newObj_type (wpAny_pure ⟨_,rfl,wpAny_pure h⟩) htake))
end
end HT
namespace L2
open PySem PySem.Spec PyProof.Rows
abbrev TO:=St->Hp->(Option Int->Hp->Prop)->Prop
def PO(X:Cx)(e:Option Expr)(t:TO):Prop:=
 ∀(pins:List (Addr×Obj)) (s:Shared) (σ:St) (H:Hp) (Q:Option Int->Hp->Prop),Inv X pins σ H s->t σ H Q ->
   wpAny (model X.prog X.w) X.A (evalPart e X.env) (λu s'=>∃o H',Inv X pins σ H' s'/\IsPart u o/\Q o H') X.xe s
def Ii:TO:=λ_ H Q=>Q none H
def MV(t:TE):TO:=λσ H Q=>t σ H λx H1=>∃i,x=.int i/\Q (some i) H1
section
variable{X:Cx}{e:Expr}{te:TE}{lo hi:Option Expr}{tl th:TO}{pos p2:Pos}
def TL:PO X none Ii:=by
 intro pins s σ H Q I h;rw[evalPart_none];exact wpAny_pure ⟨none,H,I,.none,h⟩
def TK(h:PE X e te):PO X (some e) (MV te):=by
 intro pins s σ H Q I hw;rw[evalPart_some];refine thn (h pins s σ H _ I hw) λu s1 ⟨x,H1,I1,r1,q1⟩=>?_;obtain⟨i,rfl,q⟩:=q1;obtain⟨t,rfl⟩:=r1;exact⟨some i,H1,I1,.int i t,q⟩
def SlR(X:Cx)(r:V->Option Int->Option Int->Hp->VK->Prop):Prop:=
 ∀(pins:List (Addr×Obj)) (s:Shared) (σ:St) (H:Hp) (x:V) (v vl vu:Value) (lo hi:Option Int) (sl:Addr) (Q:VK),Inv X pins σ H s->RelV x v->s.heap.IsSliceOf sl vl vu .none->IsPart vl lo->IsPart vu hi->r x lo hi H Q ->
   ∃T id,typeLookup (.type T) "__getitem__"=pure (some (.builtin id))/\s.TypeIs v T/\wpAny (model X.prog X.w) X.A (getItem v (.ref sl)) (EP X pins σ Q) X.xe s
def tSl(r:V->Option Int->Option Int->Hp->VK->Prop)(te:TE)(tl th:TO):TE:=λσ H Q=>te σ H λx H1=>tl σ H1 λl H2=>th σ H2 λu H3=>r x l u H3 Q
def FZ{r:V->Option Int->Option Int->Hp->VK->Prop}(hr:SlR X r)(he:PE X e te)(hl:PO X lo tl)(hu:PO X hi th):PE X (.Subscript e (.Slice lo hi none p2) pos) (tSl r te tl th):=by
 intro pins s σ H Q I h;refine Subscript_ (thn (he pins s σ H _ I h) λv s1 ⟨x,H1,I1,r1,q1⟩=>?_);refine wpAny_Slice (thn (hl pins s1 σ H1 _ I1 q1) λvl s2 ⟨l,H2,I2,pl,q2⟩=>thn (hu pins s2 σ H2 _ I2 q2) λvu s3 ⟨u,H3,I3,pu,q3⟩=>?_);rw[evalPart_none];refine wpAny_pure ?_;have I4:Inv X pins σ H3 { s3 with heap:=s3.heap.push { cls:=.type "slice",data:=.fields #[vl,vu,.none] } }:=I3.kept (t':=s3.toks) λb ob q=>Heap.get?_push_of_some _ q;obtain⟨T,id,hT,ht,hg⟩:=hr pins { s3 with heap:=s3.heap.push { cls:=.type "slice",data:=.fields #[vl,vu,.none] } } σ H3 x v vl vu l u s3.heap.objs.size Q I4 r1 (Heap.IsSliceOf.new ..) pl pu q3;show wpAny (model X.prog X.w) X.A (subscriptTail e (.Slice lo hi none p2) v (.ref s3.heap.objs.size)) (EP X pins σ Q) X.xe { s3 with heap:=s3.heap.push { cls:=.type "slice",data:=.fields #[vl,vu,.none] } };exact tail_any (ops:=[.ref s3.heap.objs.size,v]) ht hT hg (by with_unfolding_all rfl)
def Er(xs:List V)(lo hi:Option Int):List V:=(xs.drop (HT.sIx xs.length 0 lo)).take (HT.sIx xs.length xs.length hi-HT.sIx xs.length 0 lo)
def Gz(xs:List V)(lo hi:Option Int):(Er xs lo hi).length<=xs.length:=by
 unfold Er;rw[length_take,length_drop];omega
def Ka(K:PySem.W.Frag):V->Option Int->Option Int->Hp->VK->Prop:=λx lo hi H Q=>∃a xs,x=.ref a/\SqT K H a xs /\
 ¬ (HT.sIx xs.length 0 lo=0/\HT.sIx xs.length xs.length hi=xs.length)/\∀p,H p=none->Q (.ref p) (upd H p (.tup (Er xs lo hi)))
def Nk:SlR X (Ka X.K):=by
 intro pins s σ H x v vl vu lo hi sl Q I rx hs pl pu h;obtain⟨a,xs,rfl,hx,hw,q⟩:=h;cases rx;obtain⟨its,r,ht,hz⟩:=I.tuple hx;have hlen:its.toArray.size=xs.length:=by rw[size_toArray];exact r.length.symm
 refine⟨"tuple",_,PyProof.Rows.slot_tuple_getitem.lookup,ht.typeIs,?_⟩;refine HT.getItem_tuple_cut ht hs pl pu (by rw[hlen];exact hw) ?_ (by rw[hlen];exact hz);rw[hlen];refine⟨.ref s.heap.objs.size,_,I.laid (t':=s.toks) (o:=.tup (Er xs lo hi)) (λb ob q=>Heap.get?_push_of_some _ q) (le_refl _) ?_,rfl,q _ (I.hok.fresh (le_refl _))⟩;exact⟨le_trans (Gz xs lo hi) hz,_,(r.drop (HT.sIx xs.length 0 lo)).take (HT.sIx xs.length xs.length hi-HT.sIx xs.length 0 lo),IsTupD.new _ _⟩
def Mu(K:PySem.W.Frag):R2:=λx y H Q=>∃a b xs ys,x=.ref a/\y=.ref b/\SqT K H a xs/\SqT K H b ys/\xs≠[]/\xs.length+ys.length<=sizeLine /\
 (ys=[]->Q (.ref a) H)/\(ys≠[]->∀p,H p=none->Q (.ref p) (upd H p (.tup (xs++ys))))
def Vals.nil_iff{xs:List V}{us:List Value}(r:Vals xs us):us=[]↔xs=[]:=by
 cases r with
 |nil=>simp
 |cons _ _=>simp
def Ti:OpR X (binaryOp .Add) (Mu X.K):=by
 intro pins s σ H x y v u Q I rx ry h;obtain⟨a,b,xs,ys,rfl,rfl,ha,hb,hx,hz,q1,q2⟩:=h;cases rx;cases ry;obtain⟨its,r1,p1,_⟩:=I.tuple ha;obtain⟨its2,r2,p2,_⟩:=I.tuple hb;refine HT.cat_tup p1 p2 (λz=>hx (r1.nil_iff.mp z)) (λz=>⟨.ref a,H,I,rfl,q1 (r2.nil_iff.mp z)⟩) (λz=>?_) (by rw[<- r1.length,<- r2.length];exact hz);refine⟨.ref s.heap.objs.size,_,I.laid (t':=s.toks) (o:=.tup (xs++ys)) (λb ob q=>Heap.get?_push_of_some _ q) (le_refl _) ?_,rfl,q2 (λw=>z (r2.nil_iff.mpr w)) _ (I.hok.fresh (le_refl _))⟩;exact⟨by rw[length_append];exact hz,_,r1.append r2,IsTupD.new _ _⟩
end
def ixN(n:Nat)(i:Int):Option Nat:=if 0<=i then(if i<n then some i.toNat else none)else if -(n:Int)<=i then some (i+n).toNat else none
def atI{α:Type}(xs:List α)(i:Int):Option α:=(ixN xs.length i).bind λj=>xs[j]?
def Lv{n:Nat}{i:Int}{j:Nat}(h:ixN n i=some j):seqIndex? i n=some j/\j<n/\-(n:Int)<=i/\i<n:=by
 unfold ixN at h;by_cases h0:0<=i
 .rw[if_pos h0]at h;by_cases h1:i<n
  .rw[if_pos h1]at h;have e:i.toNat=j:=Option.some.inj h;exact⟨by rw[seqIndex_of h0 h1,e],by omega,by omega,h1⟩
  .rw[if_neg h1]at h;cases h
 .rw[if_neg h0]at h;by_cases h1:-(n:Int)<=i
  .rw[if_pos h1]at h;have e:(i+n).toNat=j:=Option.some.inj h;exact⟨by rw[seqIndex_neg (by omega) h1,e],by omega,h1,by omega⟩
  .rw[if_neg h1]at h;cases h
def M9{α:Type}{xs:List α}{i:Int}{v:α}(h:atI xs i=some v):∃j,seqIndex? i xs.length=some j/\xs[j]?=some v/\j<xs.length/\-(xs.length:Int)<=i/\i<xs.length:=by
 unfold atI at h;cases e:ixN xs.length i with
 |none=>rw[e]at h;cases h
 |some j=>
  rw[e]at h;obtain⟨h1,h2,h3,h4⟩:=Lv e;exact⟨j,h1,h,h2,h3,h4⟩
def FW{α:Type}{xs:List α}{j:Nat}{v:α}(h:xs[j]?=some v):atI xs (j:Int)=some v:=by
 have hj:j<xs.length:=(List.getElem?_eq_some_iff.mp h).1;have e:ixN xs.length (j:Int)=some j:=by
  unfold ixN;rw[if_pos (by omega),if_pos (by omega)];simp
 unfold atI;rw[e];exact h
def JC(b:Expr):Prop:=∀o i,subscripted b false o i=operate [o,i] (getItem o i)
def IxR(X:Cx)(r:R2):Prop:=
 ∀(value slice:Expr) (pins:List (Addr×Obj)) (s:Shared) (σ:St) (H:Hp) (x y:V) (v u:Value) (Q:VK),Inv X pins σ H s->RelV x v->RelV y u->r x y H Q ->
   subscripted slice false v u=operate [v,u] (getItem v u)->wpAny (model X.prog X.w) X.A (subscriptTail value slice v u) (EP X pins σ Q) X.xe s
def MtR(X:Cx)(id:String)(r:V->List V->Hp->VK->Prop):Prop:=
 ∀(pins:List (Addr×Obj)) (s:Shared) (σ:St) (H:Hp) (x:V) (xs:List V) (v:Value) (us:List Value) (Q:VK),Inv X pins σ H s->RelV x v->Vals xs us->r x xs H Q ->
   wpAny (model X.prog X.w) X.A (call (.builtin id) (v::us)) (EP X pins σ Q) X.xe s
section
variable{X:Cx}{a b:Expr}{ta tb:TE}{pos:Pos}
def IxR.or{r r':R2}(h:IxR X r)(h':IxR X r'):IxR X (λx y H Q=>r x y H Q∨r' x y H Q):=by
 intro value slice pins s σ H x y v u Q I rx ry q hs;rcases q with q|q
 .exact h value slice pins s σ H x y v u Q I rx ry q hs
 .exact h' value slice pins s σ H x y v u Q I rx ry q hs
def Qy{r:R2}(hr:IxR X r)(ha:PE X a ta)(hb:PE X b tb)(hs:JC b):PE X (.Subscript a b pos) (tOp r ta tb):=by
 intro pins s σ H Q I h;exact Subscript_ (Qb ha hb I h λv u s2 x y H2 I2 rx ry q=>hr a b pins s2 σ H2 x y v u Q I2 rx ry q (hs _ _))
def Po(K:PySem.W.Frag):R2:=λx y H Q=>∃p xs i v,x=.ref p/\y=.int i/\SqL K H p xs/\atI xs i=some v/\Q v H
def Pn(K:PySem.W.Frag):R2:=λx y H Q=>∃p xs i v,x=.ref p/\y=.int i/\SqT K H p xs/\atI xs i=some v/\Q v H
def U3:IxR X (Po X.K):=by
 intro value slice pins s σ H x y v u Q I rx ry h hs;obtain⟨p,xs,i,z,rfl,rfl,hq,he,q⟩:=h;cases rx;obtain⟨t,rfl⟩:=ry;obtain⟨its,r,pl,hz⟩:=I.list hq;obtain⟨j,h1,h2,h3,h4,h5⟩:=M9 he;obtain⟨w,ew,rw'⟩:=r.get h2;have hl:=r.length;have hn:=GK;have fin:EP X pins σ Q w s:=⟨z,H,I,rw',q⟩
 by_cases h0:0<=i
 .have hj:i.toNat=j:=by
   rw[seqIndex_of h0 h5]at h1;exact Option.some.inj h1
  exact item_listR pl.isList h0 (by omega) (by rw[hj];simpa using ew) fin hs
 .have hj:(i+(its.toArray.size:Int)).toNat=j:=by
   rw[seqIndex_neg (by omega) h4]at h1;rw[size_toArray,<- hl];exact Option.some.inj h1
  exact subscriptTail_builtinR (x:=w) pl.isList.typeIs slot_list_getitem.lookup
   (wpAny_getItem_list_neg (Q:=λr s'=>r=w/\EP X pins σ Q r s') pl.isList (by omega) (by rw[size_toArray]<;>omega) (by omega) (by rw[hj];simpa using ew) ⟨rfl,fin⟩) hs
def Wv:IxR X (Pn X.K):=by
 intro value slice pins s σ H x y v u Q I rx ry h hs;obtain⟨p,xs,i,z,rfl,rfl,hq,he,q⟩:=h;cases rx;obtain⟨t,rfl⟩:=ry;obtain⟨its,r,pl,hz⟩:=I.tuple hq;obtain⟨j,h1,h2,h3,h4,h5⟩:=M9 he;obtain⟨w,ew,rw'⟩:=r.get h2;have hl:=r.length;have hn:=GK;have fin:EP X pins σ Q w s:=⟨z,H,I,rw',q⟩
 exact subscriptTail_builtinR (x:=w) pl.typeIs slot_tuple_getitem.lookup
  (getItem_tuple (j:=j) (Q:=λr s'=>r=w/\EP X pins σ Q r s') pl (by omega) (by omega) (by rw[size_toArray,<- hl];exact h1) (by simpa using ew) ⟨rfl,fin⟩) hs
def N2(its:List Value)(n j:Nat)(u:Value):Obj.mapSeq (·.setIfInBounds j u) { cls:=.type "list",data:=.seq its.toArray n }={ cls:=.type "list",data:=.seq (its.set j u).toArray n }:=by
 simp[Obj.mapSeq]
def Inv.lst{pins:List (Addr×Obj)}{σ:St}{H:Hp}{s:Shared}{p:Addr}{xs:List V}(I:Inv X pins σ H s)(h:H p=some (.lst xs)):
 ∃(its:List Value) (n:Nat),Vals xs its/\s.heap.get? p=some { cls:=.type "list",data:=.seq its.toArray n }/\xs.length<=sizeLine:=by
 obtain⟨z,its,n,r,e⟩:=I.hok p _ h;exact⟨its,n,r,e,z⟩
def Inv.lstUpd{pins:List (Addr×Obj)}{σ:St}{H:Hp}{s:Shared}{p:Addr}{xs ys:List V}{its its':List Value}{n n':Nat}{f:Obj->Obj}(I:Inv X pins σ H s)(h:H p=some (.lst xs))
 (ho:s.heap.get? p=some { cls:=.type "list",data:=.seq its.toArray n }) (hf:f { cls:=.type "list",data:=.seq its.toArray n }={ cls:=.type "list",data:=.seq its'.toArray n' }) (r:Vals ys its') (hz:ys.length<=sizeLine) (t:Nat):
 Inv X pins σ (upd H p (.lst ys)) { s with heap:=s.heap.update p f,toks:=t }:=by
 have e:(s.heap.update p f).get? p=some { cls:=.type "list",data:=.seq its'.toArray n' }:=by
  rw[Heap.get?_update_self f ho (by rw[hf]<;>rfl),hf]
 refine I.write (x:=p) (e:=p) (by rw[h];trivial) (.inl rfl) (λb u hb q=>(Heap.get?_update_other _ _ (Ne.symm hb)).trans q) ⟨_,e⟩ ?_;exact⟨hz,its',n',r,e⟩
def Mq:V->V->V->Hp->(Hp->Prop)->Prop:=λo i v H Q=>∃p xs k j,o=.ref p/\i=.int k/\H p=some (.lst xs)/\ixN xs.length k=some j/\Q (upd H p (.lst (xs.set j v)))
def PQ:XV X Mq:=by
 intro pins s σ H o i v ov iv u Q I ro ri rv h;obtain⟨p,xs,k,j,rfl,rfl,hp,hj,q⟩:=h;cases ro;obtain⟨t,rfl⟩:=ri;obtain⟨its,n,r,ho,hz⟩:=I.lst hp;obtain⟨h1,h2,h3,h4⟩:=Lv hj;have hl:=r.length;have hn:=GK;have I':Inv X pins σ (upd H p (.lst (xs.set j v))) { s with heap:=s.heap.update p (Obj.mapSeq (·.setIfInBounds j u)) }:=
  I.lstUpd hp ho (N2 its n j u) (r.set rv j) (by rw[List.length_set];exact hz) s.toks
 by_cases h0:0<=k
 .have hk:k.toNat=j:=by
   rw[seqIndex_of h0 h4]at h1;exact Option.some.inj h1
  exact PySem.W.ki_setAt ho h0 (by omega) (by rw[size_toArray,<- hl];exact h4) (by rw[hk];exact⟨_,I',q⟩)
 .have hk:(k+(its.toArray.size:Int)).toNat=j:=by
   rw[seqIndex_neg (by omega) h3]at h1;rw[size_toArray,<- hl];exact Option.some.inj h1
  exact PySem.W.ki_setBack ho (by omega) (by rw[size_toArray,<- hl];exact h3) (by omega) (by rw[hk];exact⟨_,I',q⟩)
def KI(lo hi:Option Int)(n:Nat):(sliceBounds lo hi none n).1=((HT.sIx n 0 lo:Nat):Int)/\(sliceBounds lo hi none n).2.1=((HT.sIx n n hi:Nat):Int)/\(sliceBounds lo hi none n).2.2=1:=by
 refine⟨?_,?_,rfl⟩
 .cases lo with
  |none=>simp[sliceBounds,HT.sIx]
  |some i=>
   simp only[sliceBounds,HT.sIx,Option.getD_none,show(1:Int)>0 by decide,if_true];by_cases h:i<0
   .simp only[h,if_true]<;>omega
   .simp only[h,if_false]<;>omega
 .cases hi with
  |none=>simp[sliceBounds,HT.sIx]
  |some i=>
   simp only[sliceBounds,HT.sIx,Option.getD_none,show(1:Int)>0 by decide,if_true];by_cases h:i<0
   .simp only[h,if_true]<;>omega
   .simp only[h,if_false]<;>omega
def Jg(its:List Value)(lo hi:Option Int):slicePick its.toArray lo hi none=((its.drop (HT.sIx its.length 0 lo)).take (HT.sIx its.length its.length hi-HT.sIx its.length 0 lo)).toArray:=by
 obtain⟨h1,h2,h3⟩:=KI lo hi its.toArray.size;unfold slicePick;rw[h1,h2,h3];simp only[sliceRange_one,pick_run,size_toArray]<;>rfl
def Mp(K:PySem.W.Frag):V->Option Int->Option Int->Hp->VK->Prop:=λx lo hi H Q=>∃a xs,x=.ref a/\SqL K H a xs/\∀p,H p=none->Q (.ref p) (upd H p (.lst (Er xs lo hi)))
def Rt:SlR X (Mp X.K):=by
 intro pins s σ H x v vl vu lo hi sl Q I rx hs pl pu h;obtain⟨a,xs,rfl,hx,q⟩:=h;cases rx;obtain⟨its,r,ht,hz⟩:=I.list hx;have hlen:=r.length;refine⟨"list",_,slot_list_getitem.lookup,ht.isList.typeIs,?_⟩;refine wpAny_getItem_list_slice ht.isList hs pl pu .none (by simp) ?_ (by rw[size_toArray]<;>omega);rw[Jg,<- hlen];refine⟨.ref s.heap.objs.size,_,I.laid (t':=s.toks) (o:=.lst (Er xs lo hi)) (λb ob q=>Heap.get?_push_of_some _ q) (le_refl _) ?_,rfl,q _ (I.hok.fresh (le_refl _))⟩;exact⟨le_trans (Gz xs lo hi) hz,_,0,(r.drop (HT.sIx xs.length 0 lo)).take (HT.sIx xs.length xs.length hi-HT.sIx xs.length 0 lo),Heap.get?_push_size _ rfl⟩
def Dr:V->Bool
 |.non=>true
 |.bl _=>true
 |.int _=>true
 |.str _=>true
 |_=>false
def eqV:V->V->Bool
 |.non,.non=>true
 |.bl a,.bl b=>a==b
 |.bl a,.int b=>(if a then 1 else 0)==b
 |.int a,.bl b=>a==(if b then 1 else 0)
 |.int a,.int b=>a==b
 |.str a,.str b=>a==b
 |_,_=>false
def XI{A:Around}{s:Shared}{y x:V}{u v:Value}(ry:RelV y u)(rx:RelV x v)(fy:Dr y=true)(fx:Dr x=true):SeqAt.EqAt A s u v (eqV y x):=by
 cases y with
 |non=>
  cases ry;cases x with
  |non=>cases rx;exact SeqAt.EqAt.same _
  |bl b=>cases rx;exact SeqAt.EqAt.none_bool b
  |int b=>obtain⟨t,rfl⟩:=rx;exact SeqAt.EqAt.none_int b t
  |str b=>obtain⟨t,rfl⟩:=rx;exact SeqAt.EqAt.none_str b t
  |_=>exact absurd (show false=true from fx) Bool.false_ne_true
 |bl a=>
  cases ry;cases x with
  |non=>cases rx;exact SeqAt.EqAt.bool_none a
  |bl b=>cases rx;exact SeqAt.EqAt.bool_bool a b
  |int b=>obtain⟨t,rfl⟩:=rx;exact SeqAt.EqAt.bool_int a b t
  |str b=>obtain⟨t,rfl⟩:=rx;exact SeqAt.EqAt.bool_str a b t
  |_=>exact absurd (show false=true from fx) Bool.false_ne_true
 |int a=>
  obtain⟨t',rfl⟩:=ry;cases x with
  |non=>cases rx;exact SeqAt.EqAt.int_none a t'
  |bl b=>cases rx;exact SeqAt.EqAt.int_bool a t' b
  |int b=>obtain⟨t,rfl⟩:=rx;exact SeqAt.EqAt.int_int a t' b t
  |str b=>obtain⟨t,rfl⟩:=rx;exact SeqAt.EqAt.int_str a t' b t
  |_=>exact absurd (show false=true from fx) Bool.false_ne_true
 |str a=>
  obtain⟨t',rfl⟩:=ry;cases x with
  |non=>cases rx;exact SeqAt.EqAt.str_none a t'
  |bl b=>cases rx;exact SeqAt.EqAt.str_bool a t' b
  |int b=>obtain⟨t,rfl⟩:=rx;exact SeqAt.EqAt.str_int a t' b t
  |str b=>obtain⟨t,rfl⟩:=rx;exact SeqAt.EqAt.str_str a t' b t
  |_=>exact absurd (show false=true from fx) Bool.false_ne_true
 |_=>exact absurd (show false=true from fy) Bool.false_ne_true
def eqU(x:V)(u:Value):Bool:=match u with
 |.none=>eqV .non x
 |.bool b=>eqV (.bl b) x
 |.int i _=>eqV (.int i) x
 |.str z _=>eqV (.str z) x
 |_=>false
def OR{x y:V}{u:Value}(r:RelV y u)(f:Dr y=true):eqU x u=eqV y x:=by
 cases y with
 |non=>cases r;rfl
 |bl b=>cases r;rfl
 |int i=>obtain⟨t,rfl⟩:=r;rfl
 |str z=>obtain⟨t,rfl⟩:=r;rfl
 |_=>exact absurd (show false=true from f) Bool.false_ne_true
def JB{x:V}:∀{xs:List V} {us:List Value},Vals xs us->xs.all Dr=true->us.any (eqU x)=xs.any λy=>eqV y x
 |_,_,.nil,_=>rfl
 |y::xs,u::us,.cons r t,f=>by
  rw[all_cons,Bool.and_eq_true]at f;rw[any_cons,any_cons,OR r f.1,JB t f.2]
def HQ{A:Around}{s:Shared}{x:V}{v:Value}(rx:RelV x v)(fx:Dr x=true):∀{xs:List V} {us:List Value},Vals xs us->xs.all Dr=true->∀u∈us,SeqAt.EqAt A s u v (eqU x u)
 |_,_,.nil,_=>λu hu=>by cases hu
 |y::xs,u::us,.cons r t,f=>λu' hu=>by
  rw[all_cons,Bool.and_eq_true]at f;rcases mem_cons.mp hu with rfl|hu
  .rw[OR r f.1];exact XI r rx f.1 fx
  .exact HQ rx fx t f.2 u' hu
def inV(x:V)(xs:List V):Bool:=xs.any λy=>eqV y x
def rIn(K:PySem.W.Frag)(neg:Bool):R2:=λx y H Q=>∃p xs,y=.ref p/\(SqL K H p xs∨SqT K H p xs)/\Dr x=true/\xs.all Dr=true/\Q (.bl (if neg then !inV x xs else inV x xs)) H
def Kf:OpR X (compareOp .NotIn) (rIn X.K true):=by
 intro pins s σ H x y v u Q I rx ry h;obtain⟨p,xs,rfl,hq,fx,fs,q⟩:=h;cases ry;rcases hq with hq|hq
 .obtain⟨its,r,pl,hz⟩:=I.list hq;refine SeqAt.notIn_listAt (eqU x) pl.isList (λw hw=>HQ rx fx r fs w (by simpa using hw)) ⟨.bl _,H,I,rfl,?_⟩;rw[show its.toArray.any (eqU x)=its.any (eqU x) by simp,JB r fs];exact q
 .obtain⟨its,r,pl,hz⟩:=I.tuple hq;refine SeqAt.notIn_tupleAt (eqU x) pl (λw hw=>HQ rx fx r fs w (by simpa using hw)) ⟨.bl _,H,I,rfl,?_⟩;rw[show its.toArray.any (eqU x)=its.any (eqU x) by simp,JB r fs];exact q
def LC:CallR X (.builtin "len") (λxs H Q=>∃p ys,xs=[.ref p]/\(SqL X.K H p ys∨SqT X.K H p ys)/\Q (.int ys.length) H):=by
 intro pins s σ H xs us Q I r h;obtain⟨p,ys,rfl,hq,q⟩:=h;obtain⟨u,rfl,rx⟩:=C1 r;cases rx;have hn:=GK;rcases hq with hq|hq
 .obtain⟨its,r',pl,hz⟩:=I.list hq;have hlen:=r'.length;exact Calls.call_len_list pl.isList (by simp only[size_toArray]<;>omega) ⟨.int ys.length,H,I.tok _,⟨s.toks+1,by rw[size_toArray,hlen]⟩,q⟩
 .obtain⟨its,r',pl,hz⟩:=I.tuple hq;have hlen:=r'.length;exact len_tuple pl (by simp only[size_toArray]<;>omega) ⟨.int ys.length,H,I.tok _,⟨s.toks+1,by rw[size_toArray,hlen]⟩,q⟩
def CallR.or{f:Value}{r r':List V->Hp->VK->Prop}(h:CallR X f r)(h':CallR X f r'):CallR X f (λxs H Q=>r xs H Q∨r' xs H Q):=by
 intro pins s σ H xs us Q I rs q;rcases q with q|q
 .exact h pins s σ H xs us Q I rs q
 .exact h' pins s σ H xs us Q I rs q
def LB:CallR X (.type "list") (λxs H Q=>∃p ys,xs=[.ref p]/\(SqL X.K H p ys∨SqT X.K H p ys)/\∀l,H l=none->Q (.ref l) (upd H l (.lst ys))):=by
 intro pins s σ H xs us Q I r h;obtain⟨p,ys,rfl,hq,q⟩:=h;obtain⟨u,rfl,rx⟩:=C1 r;cases rx;have fin:∀(its:List Value),Vals ys its->ys.length<=sizeLine->∀(h':Heap) (c':Nat),(∀b o',s.heap.get? b=some o'->h'.get? b=some o') ->
  h'.get? s.heap.objs.size=some { cls:=.type "list",dict:=none,data:=.seq its.toArray c',slots:=#[] }->EP X pins σ Q (.ref s.heap.objs.size) { s with heap:=h' }:=λits r' hz h' c' kp e=>
  ⟨.ref s.heap.objs.size,_,I.laid (t':=s.toks) kp (le_refl _) (show ObjOk X.prog X.w _ h' _ (.lst ys)from⟨hz,its,c',r',e⟩),rfl,q _ (I.hok.fresh (le_refl _))⟩
 rcases hq with hq|hq
 .obtain⟨its,r',pl,hz⟩:=I.list hq;have hlen:=r'.length;obtain⟨o,ho,hc,n,hd⟩:=pl.isList;exact call_list_seq p (.inl rfl) ho hc hd (λh' c' kp e=>fin its r' hz h' c' kp e) (by simp only[size_toArray]<;>omega)
 .obtain⟨its,r',pl,hz⟩:=I.tuple hq;have hlen:=r'.length;obtain⟨o,ho,hc,n,hd⟩:=pl;exact call_list_seq p (.inr rfl) ho hc hd (λh' c' kp e=>fin its r' hz h' c' kp e) (by simp only[size_toArray]<;>omega)
def Jp:CallR X (.type "tuple") (λxs H Q=>∃p ys,xs=[.ref p]/\((SqL X.K H p ys/\∀l,H l=none->Q (.ref l) (upd H l (.tup ys)))∨(SqT X.K H p ys/\Q (.ref p) H))):=by
 intro pins s σ H xs us Q I r h;obtain⟨p,ys,rfl,h⟩:=h;obtain⟨u,rfl,rx⟩:=C1 r;cases rx;rcases h with⟨hq,q⟩|⟨hq,q⟩
 .obtain⟨its,r',pl,hz⟩:=I.list hq;have hlen:=r'.length;refine call_tuple_list pl.isList (λh' kp=>?_) (by simp only[size_toArray]<;>omega);have I1:Inv X pins σ H { s with heap:=h' }:=I.kept (t':=s.toks) kp;have I2:Inv X pins σ (upd H h'.objs.size (.tup ys)) { s with heap:=h'.push { cls:=.type "tuple",data:=.seq its.toArray } }:=
   I1.laid (t':=s.toks) (λb o e=>Heap.get?_push_of_some _ e) (le_refl _) (show ObjOk X.prog X.w _ _ _ (.tup ys)from⟨hz,its,r',IsTupD.new _ _⟩)
  exact⟨.ref h'.objs.size,_,I2,rfl,q _ (I1.hok.fresh (le_refl _))⟩
 .obtain⟨its,r',pl,hz⟩:=I.tuple hq;exact call_tuple_same pl ⟨.ref p,H,I,rfl,q⟩
def tyV(K:PySem.W.Frag)(T:String)(x:V)(H:Hp):Prop:=match x with
 |.str _=>T="str"
 |.int _=>T="int"
 |.ref p=>(T="list"/\∃xs,SqL K H p xs)∨(T="tuple"/\∃o,K.lookup p=some o/\o.cls=.type "tuple"/\o.dict=none) ∨
  (T="dict"/\((∃kvs,H p=some (.dK kvs))∨∃kvs,H p=some (.dT kvs)))∨(T="set"/\∃S n,H p=some (.set S n))
 |_=>False
def Nc{pins:List (Addr×Obj)}{σ:St}{H:Hp}{s:Shared}{T:String}{x:V}{v:Value}(I:Inv X pins σ H s)(r:RelV x v)(ty:tyV X.K T x H):
 s.TypeIs v T/\∀a,v=.ref a->∃ob,s.heap.get? a=some ob/\ob.dict=none:=by
 cases x with
 |str z=>
  obtain⟨t,rfl⟩:=r;cases(show T="str" from ty);exact⟨typeIs_str s z t,λ_ e=>nomatch e⟩
 |int i=>
  obtain⟨t,rfl⟩:=r;cases(show T="int" from ty);exact⟨typeIs_int s i t,λ_ e=>nomatch e⟩
 |ref p=>
  cases r;rcases ty with⟨rfl,xs,hq⟩|⟨rfl,o,hk,hc,hd⟩|⟨rfl,hk⟩|⟨rfl,S,n,hk⟩
  .obtain⟨its,_,pl,_⟩:=I.list hq;refine⟨pl.isList.typeIs,λa e=>?_⟩;cases e;obtain⟨o,n,e,c,hd,_⟩:=pl;exact⟨o,e,hd⟩
  .refine⟨⟨o,I.kIn p o hk,hc⟩,λa e=>?_⟩;cases e;exact⟨o,I.kIn _ o hk,hd⟩
  .have z:∃o,s.heap.get? p=some o/\o.ExactDict:=by
    rcases hk with⟨kvs,hk⟩|⟨kvs,hk⟩
    .obtain⟨_,_,_,_,o,_,_,e,ex,_⟩:=I.hok p _ hk;exact⟨o,e,ex⟩
    .obtain⟨_,_,_,_,o,_,_,e,ex,_⟩:=I.hok p _ hk;exact⟨o,e,ex⟩
   obtain⟨o,e,ex⟩:=z;refine⟨⟨o,e,ex.1⟩,λa e2=>?_⟩;cases e2;exact⟨o,e,ex.2.1⟩
  .obtain⟨o,_,_,_,e,ex,_⟩:=I.hok p _ hk;refine⟨⟨o,e,ex.1⟩,λa e2=>?_⟩;cases e2;exact⟨o,e,ex.2.1⟩
 |_=>exact False.elim ty
def PK(K:PySem.W.Frag)(T:String)(r:V->List V->Hp->VK->Prop)(to:TE):TE:=λσ H Q=>to σ H λx H1=>tyV K T x H1/\r x [] H1 Q
def tBM(K:PySem.W.Frag)(T:String)(r:V->List V->Hp->VK->Prop)(to:TE)(t:TA):TE:=λσ H Q=>to σ H λx H1=>tyV K T x H1/\t σ H1 λxs H2=>r x xs H2 Q
variable{o e:Expr}{es:List Expr}{to:TE}{t:TA}{name:Str}{apos cpos:Pos}{T id:String}{r:V->List V->Hp->VK->Prop}
def WV(pa:PlainAttrs T)(slot:Slot T name id)(hty:typeOf (.builtin id)=pure (.type "method_descriptor"))(hm:MtR X id r)(ho:PE X o to)
 (hbase:attributeBase o name X.env (eval o X.env)=eval o X.env:=by rfl) (hline:(apos.endLine==cpos.line)=true:=by rfl):PE X (.Call (.Attribute o name apos) [] [] cpos) (PK X.K T r to):=by
 intro pins s σ H Q I h;refine wpAny_Call_method0_late hbase hline (thn (ho pins s σ H _ I h) λv s1 ⟨x,H1,I1,r1,ty,q1⟩=>?_);obtain⟨h1,h2⟩:=Nc I1 r1 ty;exact⟨T,id,pa,slot,hty,h1,h2,Calls.callWith_builtin rfl (PySem.evalArgs_none (hm pins s1 σ H1 x [] v [] Q I1 r1 .nil q1))⟩
def Xz(pa:PlainAttrs T)(slot:Slot T name id)(hty:typeOf (.builtin id)=pure (.type "method_descriptor"))(hm:MtR X id r)(ho:PE X o to)(ha:PA X (e::es) t)
 (hbase:attributeBase o name X.env (eval o X.env)=eval o X.env:=by rfl)
 (hfew:((backTo cpos (starEach (e::es) X.env)).all (λx=>!x.1)&&(backToKw cpos (keywordEach [] X.env)).all (λx=>x.1.isSome)
  && decide ((e::es).length+([]:List Keyword).length+(if([]:List Keyword).isEmpty then 0 else 1)<30))=true:=by rfl)
 (hline:(apos.endLine==cpos.line)=true:=by rfl) (hs:starEach (e::es) X.env=(false,eval e X.env)::starEach es X.env:=by rfl) (hplain:(backTo cpos (starEach es X.env)).any (·.1)=false:=by rfl):
 PE X (.Call (.Attribute o name apos) (e::es) [] cpos) (tBM X.K T r to t):=by
 intro pins s σ H Q I h;refine wpAny_Call_method_late hbase hfew hline rfl (thn (ho pins s σ H _ I h) λv s1 ⟨x,H1,I1,r1,ty,q1⟩=>?_);obtain⟨h1,h2⟩:=Nc I1 r1 ty;refine⟨T,id,pa,slot,hty,h1,h2,?_⟩;have hA:=ha cpos pins s1 σ H1 _ I1 q1;rw[hs]at hA ⊢;refine Calls.callWith_builtin (by show(false||(backTo cpos (starEach es X.env)).any (·.1))=false;rw[hplain]<;>rfl) (Calls.evalArgs_plain ?_);exact thn hA λus s2 ⟨vs,H2,I2,r2,q2⟩=>hm pins s2 σ H2 x vs v us Q I2 r1 r2 q2
end
def MtM(X:Cx)(id:String)(r:V->List V->Hp->VK->Prop):Prop:=
 ∀(pins:List (Addr×Obj)) (s:Shared) (σ:St) (H:Hp) (x:V) (xs:List V) (v:Value) (us:List Value) (Q:VK),Inv X pins σ H s->RelV x v->Vals xs us->r x xs H Q ->
   wpAny (model X.prog X.w) X.A (call (.builtin id) (v::us)) (EP X pins σ Q) X.xe s
def Vals.one:∀{x:V} {us:List Value},Vals [x] us->∃u,us=[u]/\RelV x u
 |_,_,.cons r .nil=>⟨_,rfl,r⟩
def Vals.rep{xs:List V}{us:List Value}(h:Vals xs us):∀k:Nat,Vals (List.replicate k xs).flatten (List.replicate k us).flatten
 |0=>.nil
 |k+1=>by
  rw[replicate_succ,replicate_succ,flatten_cons,flatten_cons];exact Vals.append h (Vals.rep h k)
def GO(its:List Value):∀(k:Nat) (acc:List Value),
 List.foldl (λx1 x2=>x1++x2) acc.toArray (List.replicate k its.toArray)=(acc++(List.replicate k its).flatten).toArray
 |0,acc=>by simp
 |k+1,acc=>by
  have e:acc.toArray++its.toArray=(acc++its).toArray:=by simp
  have e2:(acc++its)++(List.replicate k its).flatten=acc++(List.replicate (k+1) its).flatten:=by
   rw[replicate_succ,flatten_cons,append_assoc]
  rw[<- e2,<- GO its k (acc++its),<- e,replicate_succ,List.foldl_cons]
section
variable{X:Cx}{pins:List (Addr×Obj)}{σ:St}{H:Hp}{s:Shared}{l b:Addr}{xs ys zs:List V}
def Inv.lset{its its':List Value}{n:Nat}{f:Array Value->Array Value}{t':Nat}(I:Inv X pins σ H s)(hH:H l=some (.lst xs))
 (e:s.heap.get? l=some { cls:=.type "list",data:=.seq its.toArray n }) (hf:f its.toArray=its'.toArray) (hv:Vals ys its') (hz:ys.length<=sizeLine):
 Inv X pins σ (upd H l (.lst ys)) { s with heap:=s.heap.update l (Obj.mapSeq f),toks:=t' }:=by
 have q:=PySem.IsL.update e f;rw[hf]at q;refine I.write (x:=l) (e:=l) (by rw[hH];exact trivial) (.inl rfl) (λb' u hb hu=>(Heap.get?_update_other s.heap (Obj.mapSeq f) (Ne.symm hb)).trans hu) ⟨_,q⟩ ?_;exact⟨hz,its',_,hv,q⟩
def Inv.lnew{its:List Value}{t':Nat}(I:Inv X pins σ H s)(hv:Vals ys its)(hz:ys.length<=sizeLine):
 Inv X pins σ (upd H s.heap.objs.size (.lst ys)) { s with heap:=s.heap.push { cls:=.type "list",data:=.seq its.toArray },toks:=t' }:=
 I.laid (λ_ _ q=>Heap.get?_push_of_some _ q) (le_refl _) ⟨hz,its,0,hv,Heap.get?_push_size _ rfl⟩
def Inv.fresh(I:Inv X pins σ H s):H s.heap.objs.size=none:=I.hok.fresh (le_refl _)
def Inv.lstM(I:Inv X pins σ H s)(hH:H l=some (.lst xs)):xs.length<=sizeLine/\∃(its:List Value) (n:Nat),Vals xs its/\xs.length=its.length/\s.heap.get? l=some { cls:=.type "list",data:=.seq its.toArray n }:=by
 obtain⟨z,its,n,r,e⟩:=I.hok l _ hH;exact⟨z,its,n,r,r.length,e⟩
def Kh{n:Nat}(h:n<=sizeLine):Builtin.List.listTooLong n=false:=by
 unfold Builtin.List.listTooLong;exact decide_eq_false (by omega)
end
section
variable{X:Cx}
def Ll:V->List V->Hp->VK->Prop:=λx vs H Q=>∃l xs y,x=.ref l/\vs=[y]/\H l=some (.lst xs)/\xs.length<sizeLine/\Q .non (upd H l (.lst (xs++[y])))
def JM:MtM X "list.append" Ll:=by
 intro pins s σ H x vs v us Q I rx rv h;obtain⟨l,xs,y,rfl,rfl,hH,hz,q⟩:=h;cases rx;obtain⟨u,rfl,ru⟩:=rv.one;obtain⟨z,its,n,r,hl,e⟩:=I.lstM hH;refine call_meets F.slot_list_append ⟨_,e,rfl⟩ F.entry_list_append (F.args_list_append_2 _ _) (PySem.list_append l its.toArray n u (by rw[size_toArray];omega)) ⟨e,?_⟩;refine⟨.non,_,I.lset (its':=its++[u]) hH e (by simp) (r.append (.cons ru .nil)) ?_,rfl,q⟩;rw[length_append,length_singleton];omega
def SY:V->List V->Hp->VK->Prop:=λx vs H Q=>∃l b xs zs,x=.ref l/\vs=[.ref b]/\H l=some (.lst xs)/\H b=some (.lst zs)/\xs.length+zs.length<=sizeLine/\Q .non (upd H l (.lst (xs++zs)))
def YU:MtM X "list.extend" SY:=by
 intro pins s σ H x vs v us Q I rx rv h;obtain⟨l,b,xs,zs,rfl,rfl,hH,hB,hz,q⟩:=h;cases rx;obtain⟨u,rfl,ru⟩:=rv.one;cases ru;obtain⟨z,its,n,r,hl,e⟩:=I.lstM hH;obtain⟨z2,its2,n2,r2,hl2,e2⟩:=I.lstM hB;have hsz:its.toArray.size+its2.toArray.size<=sizeLine:=by rw[size_toArray,size_toArray];omega
 have hlong:¬ (!its.toArray.isEmpty&&Builtin.List.listTooLong (its.toArray.size+its2.toArray.size))=true:=by
  rw[Kh hsz,Bool.and_false];exact Bool.false_ne_true
 refine call_meets F.slot_list_extend ⟨_,e,rfl⟩ F.entry_list_extend (F.args_list_extend_2 _ _)
  (AutoSeq1.list_extend_list_list_0 l its.toArray n b its2.toArray n2 hlong (by rw[size_toArray];omega) (by omega)) ⟨e,e2,?_⟩
 refine⟨.non,_,I.lset (its':=its++its2) hH e (by simp) (r.append r2) ?_,rfl,q⟩;rw[length_append];omega
def Pp:R2:=λx y H Q=>∃l b xs zs,x=.ref l/\y=.ref b/\H l=some (.lst xs)/\H b=some (.lst zs)/\xs.length+zs.length<=sizeLine/\∀p,H p=none->Q (.ref p) (upd H p (.lst (xs++zs)))
def Wg:OpR X (binaryOp .Add) Pp:=by
 intro pins s σ H x y v u Q I rx ry h;obtain⟨l,b,xs,zs,rfl,rfl,hH,hB,hz,q⟩:=h;cases rx;cases ry;obtain⟨z,its,n,r,hl,e⟩:=I.lstM hH;obtain⟨z2,its2,n2,r2,hl2,e2⟩:=I.lstM hB;refine PySem.P.add_list e e2 ?_ (by rw[size_toArray,size_toArray];omega);have ea:its.toArray++its2.toArray=(its++its2).toArray:=by simp
 rw[ea];exact⟨.ref _,_,I.lnew (t':=s.toks) (r.append r2) (by rw[length_append];omega),rfl,q _ I.fresh⟩
def Pm:R2:=λx y H Q=>∃l k xs,x=.ref l/\y=.int k/\H l=some (.lst xs)/\-(2^63)<=k/\k<2^63/\xs.length*k.toNat<=sizeLine /\
 ∀p,H p=none->Q (.ref p) (upd H p (.lst (List.replicate k.toNat xs).flatten))
def Lq{α:Type}(xs:List α)(k:Nat):(List.replicate k xs).flatten.length=k*xs.length:=by
 induction k with
 |zero=>simp
 |succ k ih=>rw[replicate_succ,flatten_cons,length_append,ih,Nat.succ_mul,Nat.add_comm]
def WZ:OpR X (binaryOp .Mult) Pm:=by
 intro pins s σ H x y v u Q I rx ry h;obtain⟨l,k,xs,rfl,rfl,hH,h1,h2,hz,q⟩:=h;cases rx;obtain⟨t,rfl⟩:=ry;obtain⟨z,its,n,r,hl,e⟩:=I.lstM hH;have hlen:its.toArray.size*k.toNat<=sizeLine:=by rw[size_toArray,<- hl];exact hz
 have hcap:¬ its.toArray.size*k.toNat>(2^63-1)/8:=by
  have:(sizeLine:Nat)<=(2^63-1)/8:=by decide
  omega
 have hfit:¬ (!Builtin.List.listFitsIndex k)=true:=by
  rw[fitsIndex_both h1 h2];exact Bool.false_ne_true
 have hlong:¬ Builtin.List.listTooLong (its.toArray.size*k.toNat)=true:=by
  rw[Kh hlen];exact Bool.false_ne_true
 have hnew:List.foldl (λx1 x2=>x1++x2) #[] (List.replicate (if its.toArray.isEmpty=true then 0 else k.toNat) its.toArray)=(List.replicate k.toNat its).flatten.toArray:=by
  have f0:∀m:Nat,List.foldl (λx1 x2=>x1++x2) #[] (List.replicate m its.toArray)=(List.replicate m its).flatten.toArray:=λm=>by
   have:=GO its m [];rw[nil_append]at this;exact this
  rw[f0];cases its with
  |nil=>simp
  |cons a r'=>rw[if_neg (by simp)]
 refine wpAny_binaryOp_repeat_ref (T:="list") (U:="int") (by decide) ⟨_,e,rfl⟩ (λs'=>typeIs_int s' k t) noFill_list_mul F.fills_int_mul F.slot_int_rmul repeat_list F.slot_int_index.lookup
  (call_meets F.slot_int_rmul (typeIs_int s k t) F.entry_int_rmul (F.args_int_rmul_2 _ _) (int___rmul___int_list k t l its.toArray n)
   ⟨e,rfl,⟨_,e,rfl⟩,call_meets F.slot_list_mul ⟨_,e,rfl⟩ F.entry_list_mul (F.args_list_mul_2 _ _) (AutoListH.list___mul___list_int_3 l its.toArray n k t hfit hcap hlong) ⟨e,?_⟩⟩)
 rw[hnew];exact⟨.ref _,_,I.lnew (t':=s.toks) (r.rep k.toNat) (by rw[Lq,Nat.mul_comm];exact hz),rfl,q _ I.fresh⟩
end
end L2
namespace Att
open PySem PySem.W PySem.Calls PyProof.Rows
def IQ{P:Params}{h:Heap}:∀(ns:List Int) (vs:List Value),WellAll P h vs (ns.map WData.int)->IntsAre vs ns:=by
 intro ns
 induction ns with
 |nil=>
  intro vs w;rw[map_nil]at w;cases w;exact .nil
 |cons n ns ih=>
  intro vs w;rw[map_cons]at w;cases w with
  |cons a b=>
   cases a;exact .cons _ _ (ih _ b)
def Nl{l:OpenLaw}{n:Nat}(hn:l.most=some n){P:Params}{h:Heap}{args:List WData}{vals:List Value}
 (hpre:l.row.toRowW.claim.pre args=true) (hwl:WellAll P h vals args):
 ∃a vs ns,vals=[Value.ref a]/\args=[WData.list (ns.map WData.int)]/\h.get? a=some { cls:=.type "list",data:=.seq vs.toArray }/\IntsAre vs ns/\ns.length<=n:=by
 have hsh:WShape.hasAll [] args [.list .int]=true:=(pre_splitW hpre).1;have hc:l.pre.holds [] { args:=args }=true:=(pre_splitW hpre).2;obtain⟨d,r,rfl,h1,h2⟩:=hasAllW_cons hsh;obtain rfl:=hasAllW_nil h2;obtain⟨xs,rfl,h3⟩:=hasW_list h1;obtain⟨ns,rfl⟩:=items_int h3;have hlen:ns.length<=n:=by
  unfold OpenLaw.pre at hc;have h4:(WTm.not (.lt (.lit (.int (n:Int))) (.len (.arg 0)))).holds [] { args:=[.list (ns.map .int)] }=true:=by
   have h4:=(holds_andW hc).1;rw[hn]at h4;exact h4
  have h5:=condW_of h4 (w_not (w_lt w_lit (w_len_list (w_arg rfl))));rw[length_map]at h5;refine Nat.le_of_not_lt λq=>?_;have q':(n:Int)<((ns.length:Nat):Int):=by omega
  first
   |(rw[decide_eq_true q']at h5;exact absurd h5 (by decide))
   |(simp at h5;omega)
 cases hwl with
 |cons w1 w2=>
  cases w2;cases w1 with
  |list ho hall=>exact⟨_,_,ns,rfl,rfl,ho,IQ ns _ hall,hlen⟩
def O5(l:OpenLaw)(args:List WData):l.row.toRowW.claim.post args (.bool true) args=true:=
 postW_of (r:=l.row.toRowW) (X:=(true==true))
  (show WShape.has [] (.bool true) .bool=true by first|rfl|decide|simp[WShape.has,WShape.arms,WShape.armsAll])
  (show(WTm.eq .res (.lit (.bool true))).value [] { args:=args,res:=some (.bool true),after:=args }=some (.bool (true==true))from w_eq_bool (w_res rfl) w_lit) rfl
def attach_call{l:OpenLaw}{n:Nat}{q:Program}{loose:List Str}{XP:(Str->Option Value)->Heap->Prop}{YP:World->Heap->Prop}{d:DefRec}
 (hn:l.most=some n) (hdf:d.params.defaults=[])
 (call:∀(w:World) (s₀ s₁:Shared) (mg mb:Str->Option Value) (fa:Addr) (o:Obj) (pm cd doc:Value) (a:Addr) (vs:List Value) (ns:List Int),
  Ground q loose [] XP w s₀ mg mb s₁.heap->YP w s₁.heap ->
  s₁.heap.get? fa=some o->o.data=.func (docDef d.name d.params d.body d.scope pm cd doc)->s₁.heap.CodeRec cd d.name->mg d.name=some (.ref fa) ->
  s₁.heap.get? a=some { cls:=.type "list",data:=.seq vs.toArray }->IntsAre vs ns->ns.length<=n->s₁.gens=#[] ->
  codeAny (model l.prog w) callerA (.call (.ref fa) ⟨[.ref a],[]⟩) (λr s'=>r=.ok (.ret (.bool true))/\OldK s₁.heap s'.heap/\s'.os=s₁.os/\AllBare s'.gens) s₁):
 WalkO q loose XP YP l.row.toRowW d [] (λf vs=>PySem.call f vs):=by
 intro w s₀ s₁ mg mb G Y fa o pm cd doc dV kV ho hd hcd hD hmg hg args vals as hpre hlay hrd hwl hlo;obtain rfl:dV=.none:=Dflts.none hD hdf;obtain rfl:kV=.none:=Dflts.noKw hD;obtain⟨a,vs,ns,rfl,rfl,hobj,hints,hlen⟩:=Nl hn hpre hwl;refine enter_call (codeAny_mono (call w s₀ s₁ mg mb fa o pm cd doc a vs ns G Y ho (fd_plain hd) hcd hmg hobj hints hlen hg) λr s' hq=>?_);obtain⟨rfl,h2,h3,h4⟩:=hq;exact⟨.inl ⟨.bool true,.bool true,[],rfl,λ_=>rfl,.bool true,O5 l _,λ_=>⟨List.Pairwise.nil,λ_ hm=>(nomatch hm)⟩⟩,h2,h3,h4⟩
end Att
namespace L2
open PySem PySem.Spec PyProof.Rows
def JD:∀{vs:List Value} {ns:List Int},IntsAre vs ns->Vals (ns.map V.int) vs
 |_,_,.nil=>.nil
 |_,_,.cons n t h=>.cons ⟨t,rfl⟩ (JD h)
def CP(s:Stmt):Arguments:=match s with
 |.FunctionDef _ a _ _ _ _ _ _ _ _=>a
 |_=>{ posonlyargs:=[],args:=[],vararg:=none,kwonlyargs:=[],kw_defaults:=[],kwarg:=none,defaults:=[] }
def Bl(s:Stmt):List Stmt:=match s with
 |.FunctionDef _ _ b _ _ _ _ _ _ _=>b
 |_=>[]
def AH(s:Stmt):Scope:=match s with
 |.FunctionDef _ _ _ _ _ _ sc _ _ _=>sc
 |_=>{ kind:=.function,names:=[],isGenerator:=false,isCoroutine:=false }
abbrev CX0:CXT:=λ_ _ _ _ _ _=>False
abbrev E0:XK:=λ_ _ _=>False
def Y3{X:Cx}:LH CX0 X E0:=λ_ _ _ _ _ _ _ h=>h.elim
structure Fun(K:PySem.W.Frag)(x qual:Str)(st:Stmt)(f:Addr)(fd:FuncData):Prop where
 ex:∃(oc:Value) (od:Option Addr) (kV doc pm:Value) (an:Option Addr) (cdv ct:Value) (osl:Array (Option Value)),
  fd=PySem.W.fnOf x qual (CP st) (Bl st) (AH st) .none kV doc pm an cdv ct/\K.lookup f=some ⟨oc,od,.func fd,osl⟩/\PySem.W.codeIn K cdv qual=true
 kp:PySem.W.keepIn K (.ref f)=true
section
variable{P:Program}{w:World}{K:PySem.W.Frag}{mg:Str->Option Value}{base:Heap}
def Fun.ok{x qual:Str}{st:Stmt}{f:Addr}{fd:FuncData}{N ps:List Str}{k:Nat}{sp:Sp}(F:Fun K x qual st f fd)(S:FnScope N ps (AH st))(len:∀vs H Q E,sp vs H Q E->vs.length=ps.length)
 (hbody:∀(cdv:Value) (A:Around) (outer:List Env) (s:Shared) (H:Hp) (vs:List V) (Q:VK) (E:XK),Room k (A.deeper (envOfC qual (AH st) s.heap.objs.size f cdv))->sp vs H Q E ->
  ∃t,PSs (GS CX0 P w K mg base N qual (AH st) f cdv A outer s H E).nox (Bl st) t/\t { nx:=λ_ H'=>Q .non H',rt:=Q } (D8 N vs) H):FnOk P w K mg base CX0 (k+1) f fd ps sp:=by
 obtain⟨oc,od,kV,doc,pm,an,cdv,ct,osl,rfl,lk,hcd⟩:=F.ex;refine YF lk hcd S len λA outer s H vs Q E hr hsp=>?_;obtain⟨t,h,q⟩:=hbody cdv A outer s H vs Q E hr hsp;exact⟨t,h.nox,q⟩
def Fun.binds{x qual:Str}{st:Stmt}{f:Addr}{fd:FuncData}{ps:List Str}(F:Fun K x qual st f fd)
 (h:∀(kV doc pm:Value) (an:Option Addr) (cdv ct:Value) (us:List Value),us.length=ps.length->bindArgs (PySem.W.fnOf x qual (CP st) (Bl st) (AH st) .none kV doc pm an cdv ct) ⟨us,[]⟩=pure (ps.zip us)):Binds K fd ps []:=by
 obtain⟨oc,od,kV,doc,pm,an,cdv,ct,osl,rfl,lk,hcd⟩:=F.ex;exact .all (h kV doc pm an cdv ct)
def Wz{x qual:Str}{st:Stmt}{f:Addr}{oc:Value}{od an:Option Addr}{osl:Array (Option Value)}{kV doc pm cdv ct:Value}(l:K.lookup f=some ⟨oc,od,.func (PySem.W.fnOf x qual (CP st) (Bl st) (AH st) .none kV doc pm an cdv ct),osl⟩)
 (c:PySem.W.codeIn K cdv qual=true) (k:PySem.W.keepIn K (.ref f)=true):Fun K x qual st f (PySem.W.fnOf x qual (CP st) (Bl st) (AH st) .none kV doc pm an cdv ct):=⟨⟨oc,od,kV,doc,pm,an,cdv,ct,osl,rfl,l,c⟩,k⟩
end
def NG{A:Around}{k:Nat}(hr:Room k A):A.units+1<cLine:=lt_of_le_of_lt (Nat.add_le_add_left (by decide:1<=64) _) hr.units
def Nj{n:Nat}(h:n<=1000):n<sizeLine:=lt_of_le_of_lt h (by decide)
section
variable{κ:Type}[DecidableEq κ]
def DO(kvs:List (κ×V))(k:κ):Option V:=(kvs.find? λkv=>decide (kv.1=k)).map (·.2)
def CD(kvs:List (κ×V))(k:κ)(v:V):List (κ×V):=
 if(kvs.any λkv=>decide (kv.1=k))=true then kvs.map (λkv=>if kv.1=k then(kv.1,v)else kv)else kvs++[(k,v)]
def EU{p:κ×V}{r:List (κ×V)}{k:κ}(e:p.1=k):DO (p::r) k=some p.2:=by simp[DO,find?_cons,e]
def EV{p:κ×V}{r:List (κ×V)}{k:κ}(e:¬ p.1=k):DO (p::r) k=DO r k:=by simp[DO,find?_cons,e]
def KD(k:κ):∀kvs:List (κ×V),(kvs.any λkv=>decide (kv.1=k))=(DO kvs k).isSome
 |[]=>rfl
 |p::r=>by
  rw[any_cons];by_cases e:p.1=k
  .simp only[EU e,decide_eq_true e,Bool.true_or,Option.isSome_some]
  .rw[EV e,decide_eq_false e,Bool.false_or];exact KD k r
def F9(kvs:List (κ×V))(k:κ)(v:V):(CD kvs k v).length<=kvs.length+1:=by
 unfold CD;split
 .rw[length_map];omega
 .rw[length_append,length_cons,length_nil];omega
def RelO.isSome_eq{o:Option V}{u:Option Value}(r:RelO o u):o.isSome=u.isSome:=by
 cases o with
 |none=>cases u with
  |none=>rfl
  |some _=>exact(show False from r).elim
 |some _=>cases u with
  |none=>exact(show False from r).elim
  |some _=>rfl
def RelO.getD{o:Option V}{u:Option Value}{d:V}{d':Value}(r:RelO o u)(rd:RelV d d'):RelV (o.getD d) (u.getD d'):=by
 cases o with
 |none=>cases u with
  |none=>exact rd
  |some _=>exact(show False from r).elim
 |some _=>cases u with
  |none=>exact(show False from r).elim
  |some _=>exact r
def KV.val{kvs:List (κ×V)}{vs:List (κ×Value)}(r:KV kvs vs)(k:κ):RelO (DO kvs k) (valueAt vs k):=by
 unfold KV at r
 induction r with
 |nil=>exact True.intro
 |@cons p q ps qs h t ih=>
  obtain⟨h1,h2⟩:=h;by_cases e:p.1=k
  .have e':q.1=k:=h1.symm.trans e;have b:valueAt (q::qs) k=some q.2:=by simp[valueAt,find?_cons,e']
   rw[EU e,b];exact h2
  .have e':¬ q.1=k:=λz=>e (h1.trans z);have b:valueAt (q::qs) k=valueAt qs k:=by simp[valueAt,find?_cons,e']
   rw[EV e,b];exact ih
def KV.any{kvs:List (κ×V)}{vs:List (κ×Value)}(r:KV kvs vs)(k:κ):(kvs.any λkv=>decide (kv.1=k))=vs.any λkv=>decide (kv.1=k):=by
 unfold KV at r
 induction r with
 |nil=>rfl
 |cons h t ih=>rw[any_cons,any_cons,ih,h.1]
def KV.repl{kvs:List (κ×V)}{vs:List (κ×Value)}(r:KV kvs vs)(k:κ){y:V}{u:Value}(ry:RelV y u):
 KV (kvs.map λkv=>if kv.1=k then(kv.1,y)else kv) (vs.map λkv=>if kv.1=k then(kv.1,u)else kv):=by
 unfold KV at r ⊢
 induction r with
 |nil=>exact .nil
 |@cons p q ps qs h t ih=>
  rw[map_cons,map_cons];refine .cons ?_ ih;obtain⟨h1,h2⟩:=h;by_cases e:p.1=k
  .rw[if_pos e,if_pos (h1.symm.trans e)];exact⟨h1,ry⟩
  .rw[if_neg e,if_neg (λz=>e (h1.trans z))];exact⟨h1,h2⟩
def KV.put{kvs:List (κ×V)}{vs:List (κ×Value)}(r:KV kvs vs)(k:κ){y:V}{u:Value}(ry:RelV y u):KV (CD kvs k y) (stored vs k u):=by
 unfold CD stored;rw[r.any k];by_cases e:(vs.any λkv=>decide (kv.1=k))=true
 .rw[if_pos e,if_pos e];exact r.repl k ry
 .rw[if_neg e,if_neg e];exact Paired.snoc r ⟨rfl,ry⟩
def KV.length{kvs:List (κ×V)}{vs:List (κ×Value)}(r:KV kvs vs):kvs.length=vs.length:=Paired.length r
end
def IM{P:Program}{w:World}{k:Key}{u:Value}(r:RelV (kV k) u):(BD P w).is k u=true:=by
 cases k with
 |inl i=>obtain⟨t,e⟩:=(show ∃t,u=Value.int i t from r);subst e;exact LN P w i t
 |inr x=>obtain⟨t,e⟩:=(show ∃t,u=Value.str x t from r);subst e;exact LM P w x t
def JP{P:Program}{w:World}:∀{ks:List Key} {us:List Value},Vals (ks.map kV) us->ItemsAre (BD P w) ks us
 |[],_,r=>by rw[map_nil]at r;cases r;exact .nil
 |k::ks,_,r=>by
  rw[map_cons]at r;cases r with
  |cons h t=>exact .cons (IM h) (JP t)
abbrev KT(H:Hp):List (List Key×V)->List (List Key×Addr×Value)->Prop:=Paired λp q=>p.1=q.1/\H q.2.1=some (.tup (p.1.map kV))/\RelV p.2 q.2.2
def KT.val{H:Hp}{kvs:List (List Key×V)}{xs:List (List Key×Addr×Value)}(r:KT H kvs xs)(k:List Key):RelO (DO kvs k) ((atKey xs k).map (·.2)):=by
 induction r with
 |nil=>exact True.intro
 |@cons p q ps qs h t ih=>
  obtain⟨h1,_,h2⟩:=h;by_cases e:p.1=k
  .have e':q.1=k:=h1.symm.trans e;have b:atKey (q::qs) k=some q.2:=by simp[atKey,find?_cons,e']
   rw[EU e,b];exact h2
  .have e':¬ q.1=k:=λz=>e (h1.trans z);have b:atKey (q::qs) k=atKey qs k:=by simp[atKey,find?_cons,e']
   rw[EV e,b];exact ih
def KT.repl{H:Hp}{kvs:List (List Key×V)}{xs:List (List Key×Addr×Value)}(r:KT H kvs xs)(k:List Key){y:V}{u:Value}(ry:RelV y u):
 KT H (kvs.map λkv=>if kv.1=k then(kv.1,y)else kv) (xs.map (putAt k u)):=by
 induction r with
 |nil=>exact .nil
 |@cons p q ps qs h t ih=>
  rw[map_cons,map_cons];refine .cons ?_ ih;obtain⟨h1,h2,h3⟩:=h;unfold putAt;by_cases e:p.1=k
  .rw[if_pos e,if_pos (h1.symm.trans e)];exact⟨h1,h2,ry⟩
  .rw[if_neg e,if_neg (λz=>e (h1.trans z))];exact⟨h1,h2,h3⟩
def KT.put{H:Hp}{kvs:List (List Key×V)}{xs:List (List Key×Addr×Value)}(r:KT H kvs xs)(k:List Key){b:Addr}{y:V}{u:Value}(hb:H b=some (.tup (k.map kV)))(ry:RelV y u):
 KT H (CD kvs k y) (storedH xs k b u):=by
 have e:(kvs.any λkv=>decide (kv.1=k))=(atKey xs k).isSome:=by
  rw[KD,(r.val k).isSome_eq,Option.isSome_map]
 unfold CD storedH;rw[e];by_cases q:(atKey xs k).isSome=true
 .rw[if_pos q,if_pos q];exact r.repl k ry
 .rw[if_neg q,if_neg q];exact Paired.snoc r ⟨rfl,hb,ry⟩
def KT.keeps{H H':Hp}{kvs:List (List Key×V)}{xs:List (List Key×Addr×Value)}(r:KT H kvs xs)(ht:∀b ys,H b=some (.tup ys)->H' b=some (.tup ys)):KT H' kvs xs:=
 Paired.mapP r λ_ _ z=>⟨z.1,ht _ _ z.2.1,z.2.2⟩
section
variable{P:Program}{w:World}{H:Hp}{h:Heap}{a:Addr}
def Qq{u:HO}(ok:HOk P w H h)(e:Rd H a u):ObjOk P w H h a u:=e.ok ok
def IS{kvs:List (Key×V)}(ok:HOk P w H h)(e:Rd H a (.dK kvs)):kvs.length<=sizeLine/\(a==sysModules)=false/\∃vs,KV kvs vs/\h.DictOf (BD P w) a vs:=
 show ObjOk P w H h a (.dK kvs)from Qq ok e
def RQ{kvs:List (Key×V)}(ok:HOk P w H h)(e:H a=some (.dK kvs)):kvs.length<=sizeLine/\(a==sysModules)=false/\∃vs,KV kvs vs/\h.DictOf (BD P w) a vs:=IS ok (.inl e)
def IL{ks:List Key}(ok:HOk P w H h)(e:H a=some (.tup (ks.map kV))):(tupleKind (BD P w)).is h ks a:=by
 obtain⟨_,its,r,o,h1,h2,⟨n,h3⟩,_⟩:=(show ObjOk P w H h a (.tup (ks.map kV))from ok a _ e)
 exact⟨o,its.toArray,n,h1,h2,h3,by simpa using JP r⟩
def IR{kvs:List (List Key×V)}(ok:HOk P w H h)(e:Rd H a (.dT kvs)):kvs.length<=sizeLine/\(a==sysModules)=false /\
 ∃xs,KT H kvs xs/\h.DictOfH (tupleKind (BD P w)) a xs:=by
 obtain⟨z,y,xs,r,o,es,ep,h1,h2,h3,h4,h5⟩:=(show ObjOk P w H h a (.dT kvs)from Qq ok e)
 refine⟨z,y,xs,r,o,es,ep,h1,h2,h3,h4,λx hx=>?_,h5⟩;have all:∀{l:List (List Key×V)} {m:List (List Key×Addr×Value)},KT H l m->∀x∈m,(tupleKind (BD P w)).is h x.1 x.2.1:=by
  intro l m q
  induction q with
  |nil=>intro x hx;exact nomatch hx
  |@cons p q ps qs hq t ih=>
   intro x hx;rcases mem_cons.mp hx with e|hx
   .subst e;exact IL ok (by rw[<- hq.1];exact hq.2.1)
   .exact ih x hx
 exact all r x hx
def YM{kvs:List (List Key×V)}(ok:HOk P w H h)(e:H a=some (.dT kvs)):kvs.length<=sizeLine/\(a==sysModules)=false /\
 ∃xs,KT H kvs xs/\h.DictOfH (tupleKind (BD P w)) a xs:=IR ok (.inl e)
end
def DGet(H:Hp)(a:Addr)(y:V)(r:Option V):Prop:=
 (∃kvs k,Rd H a (.dK kvs)/\y=kV k/\r=DO kvs k)∨∃kvs k b,Rd H a (.dT kvs)/\y=.ref b/\H b=some (.tup (k.map kV))/\r=DO kvs k
def DPut(H:Hp)(a:Addr)(y v:V)(H':Hp):Prop:=
 (∃kvs k,H a=some (.dK kvs)/\y=kV k/\kvs.length<sizeLine/\H'=upd H a (.dK (CD kvs k v))) ∨
 ∃kvs k b,H a=some (.dT kvs)/\y=.ref b/\H b=some (.tup (k.map kV))/\kvs.length<sizeLine/\H'=upd H a (.dT (CD kvs k v))
def DGet.k{H:Hp}{a:Addr}{kvs:List (Key×V)}{k:Key}(e:H a=some (.dK kvs)):DGet H a (kV k) (DO kvs k):=.inl ⟨kvs,k,.inl e,rfl,rfl⟩
def DPut.k{H:Hp}{a:Addr}{kvs:List (Key×V)}{k:Key}{v:V}(e:H a=some (.dK kvs))(hl:kvs.length<sizeLine):DPut H a (kV k) v (upd H a (.dK (CD kvs k v))):=.inl ⟨kvs,k,e,rfl,hl,rfl⟩
section
variable{X:Cx}{pins:List (Addr×Obj)}{σ:St}{H:Hp}{s:Shared}{a:Addr}{y v:V}{u r:Value}{o:Option V}{A:Around}{E:Value->Shared->Prop}
def Inv.big(I:Inv X pins σ H s):sysModules<s.heap.objs.size:=by
 have h:mainGlobals<s.heap.objs.size:=(I.mod.glob.keeps I.bk).lt;exact lt_trans (by decide) h
def OV{Q:Value->Shared->Prop}(hu:A.units+1<cLine)(I:Inv X pins σ H s)(g:DGet H a y (some v))(ry:RelV y u)(h:∀w' s',Inv X pins σ H s'->RelV v w'->Q w' s'):
 wpAny (model X.prog X.w) A (getItem (.ref a) u) Q E s:=by
 rcases g with⟨kvs,k,e,ey,l⟩|⟨kvs,k,b,e,ey,eb,l⟩
 .subst ey;obtain⟨z,hd,vs,rel,dd⟩:=IS I.hok e;obtain⟨w',hw,rw'⟩:=RelO.some_of (v:=v) (o:=valueAt vs k) (by rw[l];exact rel.val k);exact wpAny_getItem_of (IM ry) dd.mapOf hw (h w' _ (I.tok _) rw')
 .subst ey;cases(show u=Value.ref b from ry);obtain⟨z,hd,xs,rel,dd⟩:=IR I.hok e;obtain⟨w',hw,rw'⟩:=RelO.some_of (v:=v) (o:=(atKey xs k).map (·.2)) (by rw[l];exact rel.val k);obtain⟨p,hp,hp2⟩:=ad hw;refine wpAny_getItem_heap (tupleKind_room_in1 hu) (IL I.hok eb) dd hp ?_;rw[hp2];exact h w' _ (I.tok _) rw'
def J8{h':Heap}{t':Nat}{ob:HO}(I:Inv X pins σ H s)(mu:Mut (H a))(hs:Heap.SameBut a s.heap h')(he:∃q,h'.get? a=some q)(new:ObjOk X.prog X.w (upd H a ob) h' a ob):
 Inv X pins σ (upd H a ob) { s with heap:=h',toks:=t' }:=
 I.write (x:=a) (e:=a) mu (.inl rfl) (λb q hb z=>(hs.2 b hb).trans z) he new
def OS{P:Program}{w:World}{H':Hp}{h':Heap}{kvs:List (Key×V)}{vs:List (Key×Value)}(z:kvs.length<=sizeLine)(hd:(a==sysModules)=false)(rel:KV kvs vs)(dd:h'.DictOf (BD P w) a vs):
 ObjOk P w H' h' a (.dK kvs):=⟨z,hd,vs,rel,dd⟩
def OU{H':Hp}{Q:Unit->Shared->Prop}(hu:A.units+1<cLine)(I:Inv X pins σ H s)(g:DPut H a y v H')(ry:RelV y u)(rv:RelV v r)(h:∀s',Inv X pins σ H' s'->Q () s'):
 wpAny (model X.prog X.w) A (setItem (.ref a) u r) Q E s:=by
 rcases g with⟨kvs,k,e,ey,l,eH⟩|⟨kvs,k,b,e,ey,eb,l,eH⟩
 .subst ey eH;obtain⟨z,hd,vs,rel,dd⟩:=RQ I.hok e;have hz:vs.length<=sizeLine:=by rw[<- rel.length];exact z
  have hl:(CD kvs k v).length<=sizeLine:=by have:=F9 kvs k v;omega
  refine wpAny_setItem_pairs (hsz:=hz) (IM ry) dd λh' dd' hs=>h _ ?_;have he:∃q,h'.get? a=some q:=let ⟨q,_,_,hq,_⟩:=dd';⟨q,hq⟩
  exact J8 I (by rw[e];exact True.intro) hs he (OS hl hd (rel.put k rv) dd')
 .subst ey eH;cases(show u=Value.ref b from ry);obtain⟨z,hd,xs,rel,dd⟩:=YM I.hok e;have hz:xs.length<=sizeLine:=by rw[<- Paired.length rel];exact z
  have hl:(CD kvs k v).length<=sizeLine:=by have:=F9 kvs k v;omega
  refine wpAny_setItem_heap (hsz:=hz) (tupleKind_room_in1 hu) (IL I.hok eb) dd λh' dd' hs=>h _ ?_;obtain⟨q,es,ep,hq,h2,h3,h4,_,h5⟩:=dd';refine J8 I (by rw[e];exact True.intro) hs ⟨q,hq⟩ ⟨hl,hd,_,(rel.put k eb rv).keeps λc ys ec=>?_,q,es,ep,hq,h2,h3,h4,h5⟩;rw[AZ (Y6 ec e (λz=>nomatch z))];exact ec
end
def Qd(i:Expr):Prop:=∀ov iv,subscripted i false ov iv=operate [ov,iv] (getItem ov iv)
def Rp{prog:Program}{w:World}{A:Around}{E:Value->Shared->Prop}{s:Shared}{env:Env}{value slice:Expr}{pos:Pos}{T id:String}{Q:Value->Shared->Prop}
 (hl:typeLookup (.type T) "__getitem__"=pure (some (.builtin id))) (hs:Qd slice)
 (h:wpAny (model prog w) A (eval value env) (λo s₁=>wpAny (model prog w) A (eval slice env) (λi s₂=>s₂.TypeIs o T/\wpAny (model prog w) A (getItem o i) Q E s₂) E s₁) E s):
 wpAny (model prog w) A (eval (.Subscript value slice pos) env) Q E s:=by
 refine Subscript_ (wpAny_mono h (λo s₁ h₁=>wpAny_mono h₁ (λi s₂ h₂=>?_) λ_ _ x=>x) λ_ _ x=>x);obtain⟨hT,h₂⟩:=h₂;unfold subscriptTail;refine wpAny_bind ?_;rw[getitemInPython_of_ne hT.not_modules];refine wpAny_bind (wpAny_specialOf hT hl ?_);have fin:wpAny (model prog w) A (subscripted slice false o i) (λr s₃=>wpAny (model prog w) A (letTemporaryGo value o r >>= λ_=>pure r) Q E s₃) E s₂:=by
  rw[hs o i];exact wpAny_operating (wpAny_mono h₂ (λr s₃ h₃=>wpAny_bind (wpAny_letTemporaryGo (wpAny_pure h₃))) λ_ _ x=>x)
 first
  |exact wpAny_pure (wpAny_bind fin)
  |exact wpAny_bind (wpAny_pure (wpAny_bind fin))
  |exact wpAny_bind fin
def LR{X:Cx}{pins:List (Addr×Obj)}{σ:St}{H:Hp}{s:Shared}{a:Addr}{y:V}{o:Option V}(I:Inv X pins σ H s)(g:DGet H a y o):s.TypeIs (.ref a) "dict":=by
 rcases g with⟨kvs,k,e,_,_⟩|⟨kvs,k,b,e,_,_,_⟩
 .obtain⟨_,_,vs,_,dd⟩:=IS I.hok e;exact dd.typeIs
 .obtain⟨_,_,xs,_,dd⟩:=IR I.hok e;exact dd.typeIs
def Mb(td ty:TE):TE:=λσ H Q=>td σ H λx H1=>ty σ H1 λy H2=>∃a v,x=.ref a/\DGet H2 a y (some v)/\Q v H2
def Mi(td ty tv:TE):TS:=λD σ H=>tv σ H λv H1=>td σ H1 λx H2=>ty σ H2 λy H3=>∃a H4,x=.ref a/\DPut H3 a y v H4/\D.nx σ H4
section
variable{X:Cx}{o i e value:Expr}{pos pos' tpos:Pos}{td ty tv:TE}
def Ta(hu:X.A.units+1<cLine)(ho:PE X o td)(hi:PE X i ty)(hs:Qd i):PE X (.Subscript o i pos) (Mb td ty):=by
 intro pins s σ H Q I h;refine Rp PySem.F.slot_dict_getitem.lookup hs (thn (ho pins s σ H _ I h) λu s1 ⟨x,H1,I1,rx,q1⟩=>thn (hi pins s1 σ H1 _ I1 q1) λiv s2 ⟨y,H2,I2,ry,a,v,ex,g,q2⟩=>?_);subst ex;obtain rfl:u=Value.ref a:=rx;exact⟨LR I2 g,OV hu I2 g ry λw' s3 I3 rw'=>⟨v,H2,I3,rw',q2⟩⟩
def TH(hu:X.A.units+1<cLine)(ho:PE X o td)(hi:PE X i ty)(hv:PE X value tv)(hs:swapsWith value (some (.Subscript o i pos')) pos.line X.env=pure false):
 PS X (.Assign [.Subscript o i pos'] value pos) (Mi td ty tv):=by
 intro pins s σ H D I h;refine wpAny_Assign_Subscript (thn (hv pins s σ H _ I h) λr s1 ⟨v,H1,I1,rv,q1⟩=>thn (ho pins s1 σ H1 _ I1 q1) λu s2 ⟨x,H2,I2,rx,q2⟩=>thn (hi pins s2 σ H2 _ I2 q2) λiv s3 ⟨y,H3,I3,ry,a,H4,ex,g,q3⟩=>?_) hs;subst ex;obtain rfl:u=Value.ref a:=rx;exact OU hu I3 g ry rv λs4 I4=>⟨σ,H4,I4,q3⟩
end
def QP{P:Program}{w:World}{H:Hp}(h:Heap)(hb:sysModules<h.objs.size):ObjOk P w H (h.push { cls:=.type "dict",data:=.dict #[] }) h.objs.size (.dK []):=
 ⟨zero_le _,beq_eq_false_iff_ne.mpr (Ne.symm (ne_of_lt hb)),[],.nil,Heap.DictOf.new h⟩
def G8:List (TE×TE)->St->Hp->(List (V×V)->Hp->Prop)->Prop
 |[],_,H,Q=>Q [] H
 |(tk,tv)::r,σ,H,Q=>tk σ H λx H1=>tv σ H1 λy H2=>G8 r σ H2 λps H3=>Q ((x,y)::ps) H3
abbrev VV:List (V×V)->List (Value×Value)->Prop:=Paired λp q=>RelV p.1 q.1/\RelV p.2 q.2
def PPs(X:Cx)(pos:Pos)(keys:List (Option Expr))(values:List Expr)(trs:List (TE×TE)):Prop:=
 ∀(pins:List (Addr×Obj)) (s:Shared) (σ:St) (H:Hp) (Q:List (V×V)->Hp->Prop),Inv X pins σ H s->G8 trs σ H Q ->
   wpAny (model X.prog X.w) X.A (evalPairs (pairTrees keys values X.env pos)) (λvs s'=>∃ps H',Inv X pins σ H' s'/\VV ps vs/\Q ps H') X.xe s
def TJ{X:Cx}{pos:Pos}:PPs X pos [] [] []:=λpins s σ H Q I h=>pairTrees_nil_walk ⟨[],H,I,.nil,h⟩
def Q1{X:Cx}{pos:Pos}{k v:Expr}{ks:List (Option Expr)}{vs:List Expr}{tk tv:TE}{trs:List (TE×TE)}(hk:PE X k tk)(hv:PE X v tv)(hr:PPs X pos ks vs trs):
 PPs X pos (some k::ks) (v::vs) ((tk,tv)::trs):=λpins s σ H Q I h=>
 pairTrees_cons_walk (thn (hk pins s σ H _ I h) λu s1 ⟨x,H1,I1,rx,q1⟩=>thn (hv pins s1 σ H1 _ I1 q1) λw2 s2 ⟨y,H2,I2,ry,q2⟩=>
  thn (hr pins s2 σ H2 _ I2 q2) λws s3 ⟨ps,H3,I3,rel,q3⟩=>⟨(x,y)::ps,H3,I3,.cons ⟨rx,ry⟩ rel,q3⟩)
def Dv(kvs more:List (Key×V)):List (Key×V):=more.foldl (λacc kv=>CD acc kv.1 kv.2) kvs
def KV.merge:∀{more:List (Key×V)} {rs:List (Key×Value)} {kvs:List (Key×V)} {vs:List (Key×Value)},KV more rs->KV kvs vs->KV (Dv kvs more) (merged vs rs):=by
 intro more rs kvs vs r;unfold KV at r
 induction r generalizing kvs vs with
 |nil=>intro q;exact q
 |@cons p q ps qs h t ih=>
  intro r0;have e:KV (CD kvs p.1 p.2) (stored vs q.1 q.2):=by
   have:=r0.put p.1 h.2;rw[<- h.1];exact this
  exact ih e
def Fy:∀(more kvs:List (Key×V)),(Dv kvs more).length<=kvs.length+more.length
 |[],kvs=>by show kvs.length<=kvs.length+0;omega
 |p::r,kvs=>by
  have h1:=Fy r (CD kvs p.1 p.2);have h2:=F9 kvs p.1 p.2;show(Dv (CD kvs p.1 p.2) r).length<=_;rw[length_cons];omega
def IU{P:Program}{w:World}:∀{kvs:List (Key×V)} {ws:List (Value×Value)},VV (kvs.map λkv=>(kV kv.1,kv.2)) ws->∃rs,Carries (BD P w) ws rs/\KV kvs rs
 |[],_,r=>by rw[map_nil]at r;cases r;exact⟨[],True.intro,.nil⟩
 |p::kvs,_,r=>by
  rw[map_cons]at r;cases r with
  |@cons a b as bs h t=>
   obtain⟨rs,c,q⟩:=IU (P:=P) (w:=w) t;obtain⟨b1,b2⟩:=b;exact⟨(p.1,b2)::rs,⟨IM h.1,rfl,c⟩,.cons ⟨rfl,h.2⟩ q⟩
def Ma(trs:List (TE×TE)):TE:=λσ H Q=>∀p,H p=none->G8 trs σ (upd H p (.dK [])) λps H2=>H2 p=some (.dK [])/\∃kvs:List (Key×V),ps=kvs.map (λkv=>(kV kv.1,kv.2))/\kvs.length<=15/\Q (.ref p) (upd H2 p (.dK (Dv [] kvs)))
def TZ{X:Cx}{pos:Pos}{keys:List (Option Expr)}{values:List Expr}{trs:List (TE×TE)}(h:PPs X pos keys values trs)(hall:keys.all (·.isSome)=true)(hl:keys.length=values.length)(h0:keys≠[])
 (h15:keys.length<=15):PE X (.Dict keys values pos) (Ma trs):=by
 intro pins s σ H Q I q;have hn:=I.hok.fresh (le_refl s.heap.objs.size);have I1:=I.laid (a:=s.heap.objs.size) (o:=.dK []) (h':=s.heap.push { cls:=.type "dict",data:=.dict #[] }) (t':=s.toks) (λ_ _ q=>Heap.get?_push_of_some _ q) (le_refl _) (QP s.heap I.big);refine wpAny_Dict_walk (knd:=BD X.prog X.w) hall hl h0 h15 (thn (h pins _ σ _ _ I1 (q _ hn)) λws s2 ⟨ps,H2,I2,rel,e,kvs,ep,lk,q2⟩=>?_);subst ep;obtain⟨rs,c,rk⟩:=IU (P:=X.prog) (w:=X.w) rel;obtain⟨z,hd,vs0,r0,dd⟩:=RQ I2.hok e;cases r0;refine⟨rs,c,dd,λh' dd' hs=>⟨.ref s.heap.objs.size,_,?_,rfl,q2⟩⟩;have hz:(Dv [] kvs).length<=sizeLine:=by
  have h1:=Fy kvs [];rw[length_nil]at h1;rw[sizeLine_eq];omega
 have he:∃q,h'.get? s.heap.objs.size=some q:=let ⟨q,_,_,hq,_⟩:=dd';⟨q,hq⟩
 exact J8 I2 (by rw[e];exact True.intro) hs he (OS hz hd (rk.merge .nil) dd')
structure M1(X:Cx)(o:Expr)(m:Str)(apos:Pos)(e:Expr)(cpos:Pos):Prop where
 base:attributeBase o m X.env (eval o X.env)=eval o X.env
 few:((backTo cpos (starEach [e] X.env)).all (λx=>!x.1)&&(backToKw cpos (keywordEach [] X.env)).all (λx=>x.1.isSome)
  && decide (([e]:List Expr).length+([]:List Keyword).length+(if([]:List Keyword).isEmpty then 0 else 1)<30))=true
 line:(apos.endLine==cpos.line)=true
 trees:backTo cpos (starEach [e] X.env)=[(false,eval e X.env)]
structure M2(X:Cx)(o:Expr)(m:Str)(apos:Pos)(e f:Expr)(cpos:Pos):Prop where
 base:attributeBase o m X.env (eval o X.env)=eval o X.env
 few:((backTo cpos (starEach [e,f] X.env)).all (λx=>!x.1)&&(backToKw cpos (keywordEach [] X.env)).all (λx=>x.1.isSome)
  && decide (([e,f]:List Expr).length+([]:List Keyword).length+(if([]:List Keyword).isEmpty then 0 else 1)<30))=true
 line:(apos.endLine==cpos.line)=true
 trees:backTo cpos (starEach [e,f] X.env)=[(false,eval e X.env),(false,eval f X.env)]
def IsD(H:Hp)(a:Addr):Prop:=(∃kvs,Rd H a (.dK kvs))∨∃kvs,Rd H a (.dT kvs)
def Wy{X:Cx}{pins:List (Addr×Obj)}{σ:St}{H:Hp}{s:Shared}{a:Addr}(I:Inv X pins σ H s)(d:IsD H a):
 s.TypeIs (.ref a) "dict"/\(∀b,Value.ref a=.ref b->∃ob,s.heap.get? b=some ob/\ob.dict=none)/\(a==sysModules)=false:=by
 rcases d with⟨kvs,e⟩|⟨kvs,e⟩
 .obtain⟨_,hd,vs,_,dd⟩:=IS I.hok e;refine⟨dd.typeIs,λb q=>?_,hd⟩;cases q;obtain⟨ob,_,_,h1,h2,_⟩:=dd;exact⟨ob,h1,h2.2.1⟩
 .obtain⟨_,hd,xs,_,dd⟩:=IR I.hok e;refine⟨dd.typeIs,λb q=>?_,hd⟩;cases q;obtain⟨ob,_,_,h1,h2,_⟩:=dd;exact⟨ob,h1,h2.2.1⟩
section
variable{X:Cx}{pins:List (Addr×Obj)}{σ:St}{H:Hp}{s:Shared}{a:Addr}{y d:V}{u r:Value}{o:Option V}{A:Around}{E:Value->Shared->Prop}
def XM{Q:Value->Shared->Prop}(hu:A.units+1<cLine)(I:Inv X pins σ H s)(g:DGet H a y o)(ry:RelV y u)(rd:RelV d r)(h:∀w' s',Inv X pins σ H s'->RelV (o.getD d) w'->Q w' s'):
 wpAny (model X.prog X.w) A (call (.builtin "dict.get") [.ref a,u,r]) Q E s:=by
 rcases g with⟨kvs,k,e,ey,l⟩|⟨kvs,k,b,e,ey,eb,l⟩
 .subst ey;obtain⟨z,hd,vs,rel,dd⟩:=IS I.hok e;refine call_meetsIn PySem.F.slot_dict_get dd.typeIs PySem.F.entry_dict_get (PySem.F.args_dict_get_3 _ _ _) (meets_dict_get_default (BD X.prog X.w) a (IM ry) hd r) ⟨_,dd.mapOf,h _ _ (I.tok _) ?_⟩;rw[l];exact(rel.val k).getD rd
 .subst ey;cases(show u=Value.ref b from ry);obtain⟨z,hd,xs,rel,dd⟩:=IR I.hok e;refine call_meetsIn PySem.F.slot_dict_get dd.typeIs PySem.F.entry_dict_get (PySem.F.args_dict_get_3 _ _ _) (meetsH_dict_get_default (tupleKind (BD X.prog X.w)) a b hd r) ⟨tupleKind_room_in1 hu,k,xs,IL I.hok eb,dd,h _ _ (I.tok _) ?_⟩;rw[l];exact(rel.val k).getD rd
end
def KF(td ty tx:TE):TE:=λσ H Q=>td σ H λx H1=>∃a,x=.ref a/\IsD H1 a/\ty σ H1 λy H2=>tx σ H2 λz H3=>∃o,DGet H3 a y o/\Q (o.getD z) H3
section
variable{X:Cx}{o e f:Expr}{apos cpos:Pos}{td ty tx:TE}
def Q5(hu:X.A.units+1<cLine)(ho:PE X o td)(he:PE X e ty)(hf:PE X f tx)(m:M2 X o "get" apos e f cpos):PE X (.Call (.Attribute o "get" apos) [e,f] [] cpos) (KF td ty tx):=by
 intro pins s σ H Q I h;refine wpAny_Call_method m.base m.few m.line PySem.F.plainAttrs_dict PySem.F.slot_dict_get PySem.F.type_dict_get (thn (ho pins s σ H _ I h) λu s1 ⟨x,H1,I1,rx,a,ex,d,q1⟩=>?_);subst ex;obtain rfl:u=Value.ref a:=rx;obtain⟨t1,t2,_⟩:=Wy I1 d;refine⟨t1,t2,?_⟩;rw[m.trees];refine Calls.callWith_builtin rfl (Calls.evalArgs_plain (Calls.spliced_cons (thn (he pins s1 σ H1 _ I1 q1) λiv s2 ⟨y,H2,I2,ry,q2⟩=>
  Calls.spliced_cons (thn (hf pins s2 σ H2 _ I2 q2) λfv s3 ⟨z,H3,I3,rz,ov,g,q3⟩=>Calls.spliced_nil ?_))))
 exact XM hu I3 g ry rz λw' s4 I4 rw'=>⟨_,H3,I4,rw',q3⟩
end
def BM(cells:List (Str×Addr)):List (Str×NameKind)->List (Str×Addr)->List (Str×Addr)
 |[],acc=>acc
 |(n,k)::r,acc=>if k==.free then BM cells r ((n,(cells.lookup n).getD 0)::acc)else BM cells r acc
def FT{env:Env}(f:Str×NameKind->List (Str×Addr)->Sem (ForInStep (List (Str×Addr))))
 (hf:∀name kind cs,f (name,kind) cs=if(kind==NameKind.free)=true then(do let a <- cellOf env name;pure (ForInStep.yield ((name,a)::cs)))else pure (ForInStep.yield cs)):
 ∀(names:List (Str×NameKind)) (acc:List (Str×Addr)),(∀y∈names,y.2=.free->∃c,env.cells.lookup y.1=some c)->forIn names acc f=pure (BM env.cells names acc)
 |[],acc,_=>rfl
 |(n,k)::r,acc,hy=>by
   rw[List.forIn_cons,hf];have ih:=λa=>FT f hf r a λz hz=>hy z (mem_cons_of_mem _ hz);by_cases hk:(k==NameKind.free)=true
   .obtain⟨c,hc⟩:=hy (n,k) mem_cons_self (by simpa using hk);have hc:env.cells.lookup n=some c:=hc;have e1:cellOf env n=pure c:=by unfold cellOf;rw[hc]
    rw[if_pos hk,e1];show forIn r ((n,c)::acc) f=_;have e2:BM env.cells ((n,k)::r) acc=BM env.cells r ((n,c)::acc):=by
     rw[BM,if_pos hk,hc];rfl
    rw[ih,e2]
   .rw[if_neg hk];show forIn r acc f=_;have e2:BM env.cells ((n,k)::r) acc=BM env.cells r acc:=by
     rw[BM,if_neg hk]
    rw[ih,e2]
def Fz{scope:Scope}{env:Env}(h:∀y∈scope.names,y.2=.free->∃c,env.cells.lookup y.1=some c):closureFor scope env=pure (BM env.cells scope.names []):=by
 unfold closureFor;dsimp only;rw[FT _ (λname kind cs=>rfl) scope.names [] h];rfl
def EI{cells:List (Str×Addr)}:∀{names:List (Str×NameKind)} {acc:List (Str×Addr)},(∀y∈names,y.2=.free->∃c,cells.lookup y.1=some c)->(∀x c,acc.lookup x=some c->cells.lookup x=some c) ->
 ∀x c,(BM cells names acc).lookup x=some c->cells.lookup x=some c
 |[],_,_,ha,x,c,e=>ha x c e
 |(n,k)::r,acc,hy,ha,x,c,e=>by
   unfold BM at e;have hr:∀y∈r,y.2=.free->∃c,cells.lookup y.1=some c:=λz hz=>hy z (mem_cons_of_mem _ hz);by_cases hk:(k==NameKind.free)=true
   .rw[if_pos hk]at e;refine EI hr (λz d q=>?_) x c e;obtain⟨c0,hc0⟩:=hy (n,k) mem_cons_self (by simpa using hk);have hc0:cells.lookup n=some c0:=hc0;rw[lookup_cons]at q;by_cases hz:(z==n)=true
    .rw[hz,hc0]at q;have:z=n:=by simpa using hz
     subst this;simpa [hc0]using q
    .have hz':(z==n)=false:=by simpa using hz
     rw[hz']at q;exact ha z d q
   .rw[if_neg hk]at e;exact EI hr ha x c e
def EJ{cells:List (Str×Addr)}:∀{names:List (Str×NameKind)} {acc:List (Str×Addr)} {x:Str},((acc.lookup x).isSome=true∨(x,NameKind.free)∈names)->((BM cells names acc).lookup x).isSome=true
 |[],_,_,h=>h.elim id λz=>by cases z
 |(n,k)::r,acc,x,h=>by
   unfold BM;by_cases hk:(k==NameKind.free)=true
   .rw[if_pos hk];refine EJ ?_;by_cases hx:(x==n)=true
    .exact .inl (by rw[lookup_cons,hx];rfl)
    .have hx':(x==n)=false:=by simpa using hx
     rcases h with h|h
     .exact .inl (by rw[lookup_cons,hx'];exact h)
     .rcases mem_cons.mp h with h|h
      .cases h;simp at hx
      .exact .inr h
   .rw[if_neg hk];refine EJ ?_;rcases h with h|h
    .exact .inl h
    .rcases mem_cons.mp h with h|h
     .cases h;simp at hk
     .exact .inr h
def CS:Nat->List (Str×NameKind)->List (Str×Addr)
 |_,[]=>[]
 |n,(x,k)::r=>if k==.cell then CS (n+1) r++[(x,n)]else CS n r
def C0:∀(names:List (Str×NameKind)) (n:Nat) (acc:List (Str×Addr)),cellsFrom n names acc=CS n names++acc
 |[],_,_=>rfl
 |(x,k)::r,n,acc=>by
   unfold cellsFrom CS;by_cases hk:(k==NameKind.cell)=true
   .rw[if_pos hk,if_pos hk,C0 r (n+1),append_assoc];rfl
   .rw[if_neg hk,if_neg hk,C0 r n]
def HM:∀(names:List (Str×NameKind)) (n:Nat) (x:Str) (c:Addr),(CS n names).lookup x=some c->(x,NameKind.cell)∈names
 |[],_,_,_,e=>by cases e
 |(y,k)::r,n,x,c,e=>by
   unfold CS at e;by_cases hk:(k==NameKind.cell)=true
   .rw[if_pos hk]at e;have hk':k=.cell:=by simpa using hk
    rw[lookup_append]at e;cases q:(CS (n+1) r).lookup x with
    |some d=>exact mem_cons_of_mem _ (HM r _ x d q)
    |none=>
     rw[q]at e;simp only[none_or,lookup_cons]at e;by_cases hx:(x==y)=true
     .have:x=y:=by simpa using hx
      subst this;subst hk';exact mem_cons_self
     .have hx':(x==y)=false:=by simpa using hx
      rw[hx']at e;cases e
   .rw[if_neg hk]at e;exact mem_cons_of_mem _ (HM r n x c e)
def HN:∀(names:List (Str×NameKind)) (n:Nat) (x:Str),(x,NameKind.cell)∈names->∃c,(CS n names).lookup x=some c
 |[],_,_,h=>by cases h
 |(y,k)::r,n,x,h=>by
   unfold CS;by_cases hk:(k==NameKind.cell)=true
   .rw[if_pos hk,lookup_append];rcases mem_cons.mp h with h|h
    .obtain⟨rfl,rfl⟩:=Prod.mk.inj h;cases q:(CS (n+1) r).lookup x with
     |some d=>exact⟨d,rfl⟩
     |none=>exact⟨n,by simp[lookup_cons]⟩
    .obtain⟨c,hc⟩:=HN r (n+1) x h;exact⟨c,by rw[hc];rfl⟩
   .rw[if_neg hk];rcases mem_cons.mp h with h|h
    .cases h;simp at hk
    .exact HN r n x h
def QZ(scope:Scope)(C:Addr)(env:Env):Env:=
 { scope:=relabel scope env,locals:=C,globals:=env.globals,cells:=cellsFrom (C+1) scope.names (BM env.cells scope.names []),qual:=env.qual,func:=none,code:=env.code,frame:=env.frame,builtins:=env.builtins }
def Lp{M:Model}{A:Around}{E:Value->Shared->Prop}{s:Shared}{scope:Scope}{cl:List (Str×Addr)}{env:Env}{Q:Env->Shared->Prop}
 (hQ:∀h',(∀b o,s.heap.get? b=some o->h'.get? b=some o)->h'.Ns s.heap.objs.size (λ_=>none)->(∀x c,(CS (s.heap.objs.size+1) scope.names).lookup x=some c->h'.IsCell c none/\s.heap.objs.size<c) ->
  ((CS (s.heap.objs.size+1) scope.names).Pairwise λx y=>x.2≠y.2) ->
  Q { scope:=scope,locals:=s.heap.objs.size,globals:=env.globals,cells:=cellsFrom (s.heap.objs.size+1) scope.names cl,qual:=env.qual,func:=none,code:=env.code,frame:=env.frame,builtins:=env.builtins } { s with heap:=h' }):
 wpAny M A (newFunctionEnv scope env.globals cl [] env.qual none .none (some env)) Q E s:=by
 simp only[newFunctionEnv,Option.isSome_some,if_true];refine wpAny_bind (wpAny_alloc ?_);refine wpAny_bind (wpAny_layCells _ (λname kind cells=>by cases hkc:kind==NameKind.cell<;>simp[hkc]) _ _ _ _ ?_);have ok:=cellsFrom_ok scope.names (s.heap.push { cls:=.type "dict",data:=.dict #[] }) (s.heap.objs.size+1) [] ⟨λ_ _ hm=>(nomatch hm),List.Pairwise.nil⟩ (by rw[Heap.size_push];exact le_refl _);rw[Heap.size_push,C0,append_nil]at ok;rw[show({ s with heap:=s.heap.push { cls:=.type "dict",data:=.dict #[] } }:Shared).heap.objs.size=s.heap.objs.size+1 from Heap.size_push ..];refine wpAny_bind (wpAny_pure (wpAny_pure ?_));exact hQ _ (λb o e=>pushCells_keeps _ _ b o (Heap.get?_push_of_some _ e)) ((Heap.Ns.new s.heap (.type "dict")).keeps (pushCells_keeps _ _)) (λx c hc=>⟨(ok.empty x c (mem_of_lookup hc)).1,(ok.empty x c (mem_of_lookup hc)).2⟩) ok.apart
def JL:∀{names:List (Str×NameKind)} {x:Str} {k k':NameKind},(names.map (·.1)).Nodup->(x,k)∈names->(x,k')∈names->k=k'
 |[],_,_,_,_,h,_=>by cases h
 |(y,q)::r,x,k,k',nd,h,h'=>by
   have nd:(y::r.map (·.1)).Nodup:=nd;obtain⟨n1,n2⟩:=nodup_cons.mp nd;have out:∀{z:NameKind},(y,z)∈r->False:=λm=>n1 (mem_map.mpr ⟨_,m,rfl⟩);rcases mem_cons.mp h with e|e<;>rcases mem_cons.mp h' with e'|e'
   .cases e;cases e';rfl
   .cases e;exact(out e').elim
   .cases e';exact(out e).elim
   .exact JL n2 e e'
def Fx{env:Env}{x:Str}:∀{names:List (Str×NameKind)},names.lookup x=some .free ->
 (names.map λ(n,k)=>if(k==NameKind.free&&env.scope.kind==.function&&env.kindOf n==some .cell)then(n,NameKind.cell)else(n,k)).lookup x=some .cell ∨
 (names.map λ(n,k)=>if(k==NameKind.free&&env.scope.kind==.function&&env.kindOf n==some .cell)then(n,NameKind.cell)else(n,k)).lookup x=some .free
 |[],h=>by simp at h
 |(n,k)::r,h=>by
   have ih:=@Fx env x r;show List.lookup x ((if(k==NameKind.free&&env.scope.kind==.function&&env.kindOf n==some .cell)=true then(n,NameKind.cell)else(n,k))::_)=_∨List.lookup x ((if(k==NameKind.free&&env.scope.kind==.function&&env.kindOf n==some .cell)=true then(n,NameKind.cell)else(n,k))::_)=_;cases hx:x==n with
   |true=>
    simp only[lookup_cons,hx]at h;cases h;by_cases hc:(NameKind.free==NameKind.free&&env.scope.kind==.function&&env.kindOf n==some .cell)=true
    .rw[if_pos hc];exact .inl (by simp only[lookup_cons,hx])
    .rw[if_neg hc];exact .inr (by simp only[lookup_cons,hx])
   |false=>
    simp only[lookup_cons,hx]at h;by_cases hc:(k==NameKind.free&&env.scope.kind==.function&&env.kindOf n==some .cell)=true
    .rw[if_pos hc];simp only[lookup_cons,hx];exact ih h
    .rw[if_neg hc];simp only[lookup_cons,hx];exact ih h
def GE{env:Env}{x:Str}:∀{names:List (Str×NameKind)},
 ((names.map λ(n,k)=>if(k==NameKind.free&&env.scope.kind==.function&&env.kindOf n==some .cell)then(n,NameKind.cell)else(n,k)).lookup x=some .cell ∨
 (names.map λ(n,k)=>if(k==NameKind.free&&env.scope.kind==.function&&env.kindOf n==some .cell)then(n,NameKind.cell)else(n,k)).lookup x=some .free) ->
 names.lookup x=some .cell∨names.lookup x=some .free
 |[],h=>by simp at h
 |(n,k)::r,h=>by
   have ih:=@GE env x r;have h:List.lookup x ((if(k==NameKind.free&&env.scope.kind==.function&&env.kindOf n==some .cell)=true then(n,NameKind.cell)else(n,k))::_)=_∨List.lookup x ((if(k==NameKind.free&&env.scope.kind==.function&&env.kindOf n==some .cell)=true then(n,NameKind.cell)else(n,k))::_)=_:=h;cases hx:x==n with
   |true=>
    by_cases hc:(k==NameKind.free&&env.scope.kind==.function&&env.kindOf n==some .cell)=true
    .have hk:k=.free:=by
      have:=(Bool.and_eq_true _ _ ▸ (Bool.and_eq_true _ _ ▸ hc).1:(k==NameKind.free)=true/\_).1;simpa using this
     exact .inr (by simp only[lookup_cons,hx,hk])
    .rw[if_neg hc]at h;simp only[lookup_cons,hx]at h ⊢;exact h
   |false=>
    simp only[lookup_cons,hx];refine ih ?_;by_cases hc:(k==NameKind.free&&env.scope.kind==.function&&env.kindOf n==some .cell)=true
    .rw[if_pos hc]at h;simp only[lookup_cons,hx]at h;exact h
    .rw[if_neg hc]at h;simp only[lookup_cons,hx]at h;exact h
def cCx(X:Cx)(N':List Str)(scope:Scope)(s:Shared)(H:Hp)(ex:List Addr):Cx:=
 { X with N:=N',s₀:=s,H₀:=H,env:=QZ scope s.heap.objs.size X.env,outer:=X.stack,ex:=ex,fn:=λx=>decide ((x,NameKind.cell)∈scope.names),pn:=[],xe:=λ_ _=>False }
structure CSc(X:Cx)(scope:Scope)(fr:List Str)(ix:List Nat):Prop where
 kind:scope.kind=.function
 nd:(scope.names.map (·.1)).Nodup
 free:(scope.names.all λy=>y.2 != .free||X.env.kindOf y.1==some .cell||X.env.kindOf y.1==some .free)=true
 frs:(fr.all λx=>scope.names.lookup x==some .free)=true
 ixs:fr.map some=ix.map λi=>X.N[i]?
 loc:(scope.names.all λy=>y.2 != .local||scope.names.lookup y.1==some .local)=true
def GW(n:Nat)(ix:List Nat)(σ:St):St:=List.replicate n none++ix.map λi=>(σ[i]?).join
section
variable{X:Cx}{scope:Scope}{fr loc:List Str}{ix:List Nat}{pins:List (Addr×Obj)}{σ:St}{H:Hp}{s:Shared}
def CSc.outer(S:CSc X scope fr ix){y:Str×NameKind}(hy:y∈scope.names)(e:y.2=.free):X.env.kindOf y.1=some .cell∨X.env.kindOf y.1=some .free:=by
 have h:=all_eq_true.mp S.free y hy;rw[e]at h;simpa using h
def CSc.clos(S:CSc X scope fr ix)(ok:X.Ok):∀y∈scope.names,y.2=.free->∃c,X.env.cells.lookup y.1=some c:=λy hy e=>ok.has y.1 (S.outer hy e)
def D4(S:CSc X scope fr ix)(ok:X.Ok){n:Nat}{x:Str}{c:Addr}(e:(cellsFrom n scope.names (BM X.env.cells scope.names [])).lookup x=some c):
 (CS n scope.names).lookup x=some c∨X.env.cells.lookup x=some c:=by
 rw[C0,lookup_append]at e;cases q:(CS n scope.names).lookup x with
 |some d=>rw[q]at e;exact .inl e
 |none=>
  rw[q]at e;exact .inr (EI (S.clos ok) (λ_ _ z=>by simp at z) x c e)
def Kr(S:CSc X scope fr ix)(I:Inv X pins σ H s){ex:List Addr}(hex:∀b∈ex,Cn X pins H b){h':Heap}(hk:∀b o,s.heap.get? b=some o->h'.get? b=some o)(hn:h'.Ns s.heap.objs.size λ_=>none)
 (ho:∀x c,(CS (s.heap.objs.size+1) scope.names).lookup x=some c->h'.IsCell c none/\s.heap.objs.size<c) (ha:(CS (s.heap.objs.size+1) scope.names).Pairwise λx y=>x.2≠y.2) (hlt:∀b∈ex,b<s.heap.objs.size):
 Inv (cCx X (loc++fr) scope s H ex) [] (GW loc.length ix σ) H { s with heap:=h' }:=by
 have old:∀x c,X.env.cells.lookup x=some c->c<s.heap.objs.size:=λx c e=>let ⟨v,z⟩:=I.cell x c e;z.lt
 have lenix:fr.length=ix.length:=by simpa using congrArg List.length S.ixs
 refine⟨⟨I.ok.mod,?_,I.ok.glob,I.ok.blt,le_refl _,?_,?_,?_,I.ok.hd,I.ok.frames,.inl rfl,?_,I.bs,le_trans I.ok.bsz I.sz,?_,?_,I.stack,I.stkFree⟩,rfl,I.bare,Un.kept hk,⟨_,hn,?_⟩,?_,I.hok.fresh (le_refl _),?_,?_,I.hok.kept hk,?_⟩
 .exact S.kind
 .intro x y c e1 e2;rcases D4 S I.ok e1 with a|a<;>rcases D4 S I.ok e2 with b|b
  .exact name_of_addr ha (PySem.mem_of_lookup a) (PySem.mem_of_lookup b)
  .exact absurd (lt_trans (ho x c a).2 (old y c b)) (lt_irrefl _)
  .exact absurd (lt_trans (ho y c b).2 (old x c a)) (lt_irrefl _)
  .exact I.ok.inj x y c a b
 .intro x hx;rcases GE hx with e|e
  .exact isSome_iff_exists.mp (PySem.W.cellsFrom_some _ _ _ (.inl e))
  .exact isSome_iff_exists.mp (PySem.W.cellsFrom_some _ _ _ (.inr (EJ (.inr (PySem.mem_of_lookup e)))))
 .intro x c hf e;have hf:(x,NameKind.cell)∈scope.names:=of_decide_eq_true hf;obtain⟨d,hd⟩:=HN scope.names (s.heap.objs.size+1) x hf;have e':(cellsFrom (s.heap.objs.size+1) scope.names (BM X.env.cells scope.names [])).lookup x=some c:=e;rw[C0,lookup_append,hd]at e';cases e';exact le_of_lt (ho x _ hd).2
 .intro b hb;refine⟨ne_of_lt (hlt b hb),λx c e z=>?_⟩;rcases D4 S I.ok e with a|a
  .exact absurd (lt_trans (ho x c a).2 (by rw[z];exact hlt b hb)) (lt_irrefl _)
  .exact(hex b hb).2.2.2.2.1 x c a z
 .intro b o e hb;rcases(hex b hb).2.2.2.1 with z|z
  .exact I.ok.noex b o e z
  .exact absurd (lt_of_lt_of_le (Heap.lt_size (I.ok.bs b o e).1) z) (lt_irrefl _)
 .intro b hb hf;rcases mem_cons.mp (I.stkSub b hf)with z|z
  .exact(hex b hb).2.1 z
  .exact(hex b hb).2.2.1 z
 .intro i x v e1 e2 e3;have e1:(loc++fr)[i]?=some x:=e1;unfold GW at e2;by_cases hi:i<loc.length
  .rw[List.getElem?_append_left (by simpa using hi),List.getElem?_replicate]at e2;split at e2<;>cases e2
  .have hi':loc.length<=i:=Nat.not_lt.mp hi;rw[List.getElem?_append_right (by simpa using hi')]at e2;rw[List.getElem?_append_right hi']at e1;rw[List.length_replicate,List.getElem?_map]at e2;generalize hj:i-loc.length=j at e1 e2;have e4:(fr.map some)[j]?=some (some x):=by rw[List.getElem?_map,e1];rfl
   rw[S.ixs,List.getElem?_map]at e4;cases q:ix[j]? with
   |none=>rw[q]at e2;cases e2
   |some k=>
    rw[q]at e2 e4;have e2:(σ[k]?).join=some v:=Option.some.inj e2;have e4:X.N[k]?=some x:=Option.some.inj e4;have e5:σ[k]?=some (some v):=by
     cases w:σ[k]? with
     |none=>rw[w]at e2;cases e2
     |some z=>rw[w]at e2;simpa using e2
    have hfx:=all_eq_true.mp S.frs x (mem_of_getElem? e1);have hfx:scope.names.lookup x=some .free:=by simpa using hfx
    have hmem:=PySem.mem_of_lookup hfx;have hout:=S.outer hmem rfl;obtain⟨m,hm,hl⟩:=I.loc;obtain⟨u,r,l⟩:=hl k x v e4 e5 (.inr hout);refine⟨u,r,.inr ⟨Fx hfx,?_⟩⟩;rcases l with⟨kk,_⟩|⟨kk,c,ec,z⟩
    .rcases hout with w|w
     .rw[kk]at w;cases w
     .rw[kk]at w;cases w
    .have own0:(CS (s.heap.objs.size+1) scope.names).lookup x=none:=by
      cases w:(CS (s.heap.objs.size+1) scope.names).lookup x with
      |none=>rfl
      |some d=>exact absurd (JL S.nd (HM _ _ _ _ w) hmem) (by decide)
     have hc:(BM X.env.cells scope.names []).lookup x=some c:=by
      obtain⟨d,hd⟩:=isSome_iff_exists.mp (EJ (cells:=X.env.cells) (acc:=[]) (.inr hmem));have:=EI (S.clos I.ok) (λ_ _ z=>by simp at z) x d hd;rw[ec]at this;cases this;exact hd
     refine⟨c,?_,z.keeps hk⟩;show(cellsFrom (s.heap.objs.size+1) scope.names (BM X.env.cells scope.names [])).lookup x=some c;rw[C0,lookup_append,own0,hc];rfl
 .intro x c e;rcases D4 S I.ok e with a|a
  .exact⟨_,(ho x c a).1⟩
  .obtain⟨v,z⟩:=I.cell x c a;exact⟨v,z.keeps hk⟩
 .intro x c e;rcases D4 S I.ok e with a|a
  .exact I.hok.fresh (le_of_lt (ho x c a).2)
  .exact I.freeC x c a
 .intro p hp;cases hp
 .unfold GW;show _=(loc++fr).length;simp[lenix]
end
section
variable{prog:Program}{w:World}{A:Around}{R:Result->Shared->Prop}{s:Shared}
def GU{elt target iter:Expr}{ifs:List Expr}{scope:Scope}{pos:Pos}{it acc:Value}{env:Env}(I:Nat->Shared->Prop)
 (turn:∀n s,I n s->wpAny (model prog w) A (pyNext it) (λr s₁=>match r with
  |none=>R (.ok .next) s₁
  | some v=>wpAny (model prog w) A (letOwnedTupleGo target it v) (λ_ s₁=>wpAny (model prog w) A (assign target env v) (λ_ s₂=>
   wpAny (model prog w) A (forIn ifs true λc r=>if r=true then do let ok <- isTrue c env (eval c env);pure (ForInStep.yield ok)else pure (ForInStep.yield r)) (λok s₃=>
    if ok=true then wpAny (model prog w) A (eval elt env) (λx s₄=>
     wpAny (model prog w) A (call (.builtin "list.append") [acc,x]) (λ_ s₅=>∃m,m<n/\I m s₅) (λ_ _=>False) s₄) (λ_ _=>False) s₃
    else ∃m,m<n/\I m s₃) (λ_ _=>False) s₂) (λ_ _=>False) s₁) (λ_ _=>False) s₁) (λ_ _=>False) s)
 (n:Nat) (h:I n s):
 codeAny (model prog w) A (.compLoop (.ListComp elt [⟨target,iter,ifs,0⟩] scope pos) 0 it acc env) R s:=by
 refine codeAny_loop rfl I (λn s hI=>?_) n h;show wpAny _ A ((compTurn (.ListComp elt [⟨target,iter,ifs,0⟩] scope pos) 0 it acc env).onRaise (λx=>do noteFrame x env;theTreesLotGoes x)) _ _ s;refine wpAny_noted ?_;rw[compTurn_list];refine wpAny_bind (wpAny_standAt (wpAny_bind (wpAny_mono (turn n s hI) (λr s₁ h₁=>?_) λ_ _ h'=>h'.elim)));cases r with
 |none=>exact wpAny_pure h₁
 |some v=>
  refine wpAny_bind (wpAny_mono h₁ (λ_ s₁ h₁=>?_) λ_ _ h'=>h'.elim);refine wpAny_bind (wpAny_mono h₁ (λ_ s₂ h₂=>wpAny_bind (wpAny_mono h₂ (λok s₃ h₃=>?_) λ_ _ h'=>h'.elim)) λ_ _ h'=>h'.elim);cases ok with
  |false=>exact wpAny_pure ⟨rfl,h₃⟩
  |true=>
   exact wpAny_bind (wpAny_bind (wpAny_mono h₃ (λx s₄ h₄=>wpAny_bind (wpAny_mono h₄ (λ_ s₅ h₅=>wpAny_pure (wpAny_pure ⟨rfl,h₅⟩)) λ_ _ h'=>h'.elim)) λ_ _ h'=>h'.elim))
end
def PF(X:Cx)(ifs:List Expr)(t:TT):Prop:=
 ∀(pins:List (Addr×Obj)) (s:Shared) (σ:St) (H:Hp) (Q:Bool->Hp->Prop),Inv X pins σ H s->t σ H Q ->
   wpAny (model X.prog X.w) X.A (forIn ifs true λc r=>if r=true then do let ok <- isTrue c X.env (eval c X.env);pure (ForInStep.yield ok)else pure (ForInStep.yield r)) (TP X pins σ Q) X.xe s
def P0:TT:=λ_ H Q=>Q true H
def WC{X:Cx}:PF X [] P0:=λpins s σ H Q I h=>wpAny_tests_nil ⟨H,I,h⟩
def WB{X:Cx}{c:Expr}{t:TT}(h:PT X c t):PF X [c] t:=λpins s σ H Q I q=>wpAny_tests_one (h pins s σ H Q I q)
def RX(J:It)(D:Addr)(σ0:St)(H0:Hp)(g:TG)(tf:TT)(te:TE)(Q:VK):Prop:=∃W:Nat->Nat->St->List V->Hp->Prop,
 (∃m,W 0 m σ0 [] (upd H0 D (.lst [])))/\∀i m σ ys H,W i m σ ys H->H D=some (.lst ys)/\
  ((J.stop i H/\Q (.ref D) H)∨(J.go i H/\ys.length<sizeLine/\∃N:St->List V->Hp->Prop,(∀σ' ys' H',N σ' ys' H'->∃m',m'<m/\W (i+1) m' σ' ys' H')/\
    ∀x H',J.yld i H x H'->g x σ H' λσ2 H2=>tf σ2 H2 λb H3=>
     if b=true then te σ2 H3 λv H4=>H4 D=some (.lst ys)/\N σ2 (ys++[v]) (upd H4 D (.lst (ys++[v])))
     else N σ2 ys H3))
def FX(n:Nat)(ix:List Nat)(wi:TI)(g:TG)(tf:TT)(te:TE):TE:=λσ H Q=>wi σ H λJ H1=>∀D,H1 D=none->RX J D (GW n ix σ) H1 g tf te Q
section
variable{X:Cx}
def Oi{pins:List (Addr×Obj)}{σ:St}{H:Hp}{s:Shared}{D:Addr}{ys:List V}{x:V}{u:Value}{Q:Value->Shared->Prop}{E:Value->Shared->Prop}(I:Inv X pins σ H s)(hD:H D=some (.lst ys))(r:RelV x u)(hz:ys.length<sizeLine)
 (h:∀v s',Inv X pins σ (upd H D (.lst (ys++[x]))) s'->Q v s'):wpAny (model X.prog X.w) X.A (call (.builtin "list.append") [.ref D,u]) Q E s:=by
 have I':=I.wish λ_ _=>False;have q:=JM (X:=X.wish λ_ _=>False) pins s σ H (.ref D) [x] (.ref D) [u] (λv H'=>H'=upd H D (.lst (ys++[x]))) I' rfl (.cons r .nil) ⟨D,ys,x,rfl,rfl,hD,hz,rfl⟩;refine wpAny_mono q (λv s' ⟨v',H',I2,_,e⟩=>?_) λ_ _ z=>False.elim z;subst e;exact h v s' I2.unwish
def Tc{elt tg iter:Expr}{ifs:List Expr}{scope:Scope}{pos:Pos}{loc fr:List Str}{ix:List Nat}{wi:TI}{g:TG}{tf:TT}{te:TE}(hc:X.calm=true)(S:CSc X scope fr ix)(hi:PI X tg iter wi)
 (hg:∀s H ex,PG (cCx X (loc++fr) scope s H ex) tg g) (hf:∀s H ex,PF (cCx X (loc++fr) scope s H ex) ifs tf) (he:∀s H ex,PE (cCx X (loc++fr) scope s H ex) elt te)
 (hs:∀x,foldedSetIterable iter X.env x=pure x:=by intro _;rfl):PE X (.ListComp elt [⟨tg,iter,ifs,0⟩] scope pos) (FX loc.length ix wi g tf te):=by
 intro pins s σ H Q I h;rw[eval_ListComp];have hnames:∀y∈scope.names,y.2=.local->scope.names.lookup y.1=some .local:=λy hy e=>by
  have:=all_eq_true.mp S.loc y hy;rw[e]at this;simpa using this
 refine wpAny_comprehension_free (use:=none) rfl hs (Fz (S.clos I.ok)) S.kind hnames (thn (hi pins s σ H _ I h) λv s1 h1=>thn h1 λitv s2 h2=>?_);obtain⟨it,fp,tn,J,H2,rfl,I2,T,st2,f2,hW⟩:=h2;refine wpAny_newObj_type ?_;have fresh2:H2 s2.heap.objs.size=none:=I2.hok.fresh (le_refl _);have I3:=I2.lnew (its:=[]) (ys:=[]) (t':=s2.toks) .nil (zero_le _);obtain⟨W,⟨m0,w0⟩,turn⟩:=hW s2.heap.objs.size fresh2;have lt2:∀b∈fp,b<s2.heap.objs.size:=λb hb=>let ⟨o,e,_⟩:=T.obj 0 _ st2 b hb;Heap.lt_size e
 have f3:∀b∈fp,Cn X pins (upd H2 s2.heap.objs.size (.lst [])) b:=λb hb=>⟨by rw[AZ (ne_of_lt (lt2 b hb))];exact(f2 b hb).1,(f2 b hb).2⟩
 have lt3:∀b∈fp,b<(s2.heap.push { cls:=.type "list",data:=.seq ([]:List Value).toArray }).objs.size:=λb hb=>by rw[Heap.size_push];exact Nat.lt_succ_of_lt (lt2 b hb)
 generalize hs3:({ s2 with heap:=s2.heap.push { cls:=.type "list",data:=.seq ([]:List Value).toArray } }:Shared)=s3 at *;have lt3:∀b∈fp,b<s3.heap.objs.size:=by rw[<- hs3];exact lt3
 have st3:tn 0 s3.heap:=T.keep _ _ _ st2 λb hb o e=>by rw[<- hs3];exact Heap.get?_push_of_some _ e
 refine Lp λh' hk hn ho ha=>?_;have I4:=Kr (loc:=loc) S I3 f3 hk hn ho ha lt3;have fpX:∀{H':Hp},(∀b∈fp,H' b=none)->∀b∈fp,Cn (cCx X (loc++fr) scope s3 (upd H2 s2.heap.objs.size (.lst [])) fp) [] H' b:=λhn b hb=>
  ⟨hn b hb,(I4.ok.exf b hb).1,I4.ok.exfs b hb,.inl hb,(I4.ok.exf b hb).2,λp hp=>by cases hp⟩
 have loop:codeAny (model X.prog X.w) X.A (.compLoop (.ListComp elt [⟨tg,iter,ifs,0⟩] scope pos) 0 (.ref it) (.ref s2.heap.objs.size) (QZ scope s3.heap.objs.size X.env))
  (compPost (model X.prog X.w) X.A X.xe none (EP X pins σ Q) (.ref s2.heap.objs.size) s3.heap.objs.size) { s3 with heap:=h' }:=by
  refine GU (λn s'=>∃i σ' ys H',Inv (cCx X (loc++fr) scope s3 (upd H2 s2.heap.objs.size (.lst [])) fp) [] σ' H' s'/\tn i s'.heap/\(∀b∈fp,H' b=none)/\W i n σ' ys H') ?_ m0
   ⟨0,_,[],_,I4,T.keep _ _ _ st3 λb hb o e=>hk b o e,λb hb=>(f3 b hb).1,w0⟩
  rintro n s5 ⟨i,σ5,ys,H5,I5,st5,fr5,w5⟩;obtain⟨hD,w5⟩:=turn i n σ5 ys H5 w5;rcases w5 with⟨stop,qn⟩|⟨go,hz,N,hN,step⟩
  .refine thn (T.done (cCx X (loc++fr) scope s3 (upd H2 s2.heap.objs.size (.lst [])) fp) rfl rfl rfl hc i [] s5 σ5 H5 _ I5 (fpX fr5) st5 stop) λr s6 ⟨hr,I6⟩=>?_;subst hr;obtain⟨m,hm,_⟩:=I6.loc;refine⟨m,hm,λh'' hs=>?_⟩;have neC:∀b o,s3.heap.get? b=some o->b≠s3.heap.objs.size:=λb o e=>ne_of_lt (Heap.lt_size e);have un:=I6.base;refine⟨.ref s2.heap.objs.size,H5,I3.call' (s':={ s6 with heap:=h'' }) (ch:=fp) I6.os ⟨λb o e n hb hx=>?_,λb o e n hb hx=>?_,un.free,λb o e hx=>?_,un.tups,un.frzs,un.tbls⟩ ?_ I6.bare ?_,rfl,qn⟩
   .exact(hs.2 b (neC b o e)).trans (un.keep b o e n hb hx)
   .obtain⟨sl,q⟩:=un.slot b o e n hb hx;exact⟨sl,(hs.2 b (neC b o e)).trans q⟩
   .obtain⟨o',q⟩:=un.there b o e hx;exact⟨o',(hs.2 b (neC b o e)).trans q⟩
   .intro b ob e;have hfree:H5 s3.heap.objs.size=none:=I6.free;refine(I6.hok b ob e).stay (λc w' hc q=>(hs.2 c ?_).trans q) (λ_ q=>q) λ_ _ q=>q;intro z;rcases hc with hc|hc
    .rw[<- hc,z,hfree]at e;cases e
    .rw[z,hfree]at hc;cases hc
   .intro b hb;obtain⟨_,a2,_,a4,a5,a6⟩:=f3 b hb;exact⟨a4,a2,a5,a6⟩
  .refine thn (T.item (cCx X (loc++fr) scope s3 (upd H2 s2.heap.objs.size (.lst [])) fp) rfl rfl rfl hc i [] s5 σ5 H5 _ I5 (fpX fr5) st5 go) λr s6 ⟨u,hr,h6⟩=>?_;subst hr;refine thn h6 λ_ s7 ⟨x,H7,I7,r7,y7,st7,fr7⟩=>?_;have I7':=I7.pinned (fpX fr7) (T.obj _ _ st7);have keepI:∀{σ8:St} {H8:Hp} {s8:Shared},Inv (cCx X (loc++fr) scope s3 (upd H2 s2.heap.objs.size (.lst [])) fp) ([]++FH fp s7.heap) σ8 H8 s8->tn (i+1) s8.heap/\∀b∈fp,H8 b=none:=λ{σ8 H8 s8} I8=>by
    refine⟨T.keep _ _ _ st7 λb hb o e=>(I8.pin (b,o) (mem_append_right _ (mem_append_right _ (Ck hb e)))).1,λb hb=>?_⟩;obtain⟨o,e,d⟩:=T.obj _ _ st7 b hb;exact(I8.pin (b,o) (mem_append_right _ (mem_append_right _ (Ck hb e)))).2.1
   refine thn (hg s3 (upd H2 s2.heap.objs.size (.lst [])) fp _ s7 σ5 H7 x u _ I7' r7 (step x H7 y7)) λ_ s8 ⟨σ8,H8,I8,q8⟩=>?_;refine thn (hf s3 (upd H2 s2.heap.objs.size (.lst [])) fp _ s8 σ8 H8 _ I8 q8) λb s9 ⟨H9,I9,q9⟩=>?_;cases b with
   |false=>
    rw[if_neg Bool.false_ne_true]at q9 ⊢;obtain⟨m',hm,w9⟩:=hN _ _ _ q9;exact⟨m',hm,i+1,σ8,ys,H9,I9.unpinned,(keepI I9).1,(keepI I9).2,w9⟩
   |true=>
    rw[if_pos rfl]at q9 ⊢;refine thn (he s3 (upd H2 s2.heap.objs.size (.lst [])) fp _ s9 σ8 H9 _ I9 q9) λe10 s10 ⟨v10,H10,I10,r10,hD10,n10⟩=>?_;obtain⟨m',hm,w10⟩:=hN _ _ _ n10;refine Oi (X:=cCx X (loc++fr) scope s3 (upd H2 s2.heap.objs.size (.lst [])) fp) I10 hD10 r10 hz λ_ s11 I11=>?_;exact⟨m',hm,i+1,σ8,_,_,I11.unpinned,(keepI I11).1,(keepI I11).2,w10⟩
 exact codeAny_compStart_list loop (T.self X.A 0 _ _ _ (T.keep _ _ _ st3 λb hb o e=>hk b o e) loop)
end
section
variable{X:Cx}
def NL{elt tg iter:Expr}{ifs:List Expr}{scope:Scope}{pos:Pos}{loc fr:List Str}{ix:List Nat}{g:TG}{tf:TT}{te:TE}{pins:List (Addr×Obj)}{σ:St}{Q:VK}{it:Addr}{fp:List Addr}{tn:Nat->Heap->Prop}{J:It}{H2:Hp}{s2:Shared}{E:Value->Shared->Prop}
 {RR:Value->Addr->Result->Shared->Prop} (hc:X.calm=true) (S:CSc X scope fr ix)
 (hg:∀s H ex,PG (cCx X (loc++fr) scope s H ex) tg g) (hf:∀s H ex,PF (cCx X (loc++fr) scope s H ex) ifs tf) (he:∀s H ex,PE (cCx X (loc++fr) scope s H ex) elt te)
 (I2:Inv X pins σ H2 s2) (T:Turn X.prog X.w X.K tg J fp it tn) (st2:tn 0 s2.heap) (f2:∀b∈fp,Cn X pins H2 b) (hW:∀D,H2 D=none->RX J D (GW loc.length ix σ) H2 g tf te Q)
 (hfin:∀(s3 s6:Shared) (H5:Hp) (σ5:St) (D:Addr),Inv X pins σ (upd H2 D (.lst [])) s3->Inv (cCx X (loc++fr) scope s3 (upd H2 D (.lst [])) fp) [] σ5 H5 s6->(∀b∈fp,Cn X pins (upd H2 D (.lst [])) b)->Q (.ref D) H5->RR (.ref D) s3.heap.objs.size (.ok .next) s6):
 wpAny (model X.prog X.w) X.A (newList []) (λacc s₃=>wpAny (model X.prog X.w) X.A (newFunctionEnv scope X.env.globals (BM X.env.cells scope.names []) [] X.env.qual none .none (some X.env)) (λcenv s₄=>
  codeAny (model X.prog X.w) X.A (.compStart (.ListComp elt [⟨tg,iter,ifs,0⟩] scope pos) 0 (.ref it) acc { cenv with scope:=relabel scope X.env }) (RR acc cenv.locals) s₄) E s₃) E s2:=by
 refine wpAny_newObj_type ?_;have fresh2:H2 s2.heap.objs.size=none:=I2.hok.fresh (le_refl _);have I3:=I2.lnew (its:=[]) (ys:=[]) (t':=s2.toks) .nil (zero_le _);obtain⟨W,⟨m0,w0⟩,turn⟩:=hW s2.heap.objs.size fresh2;have lt2:∀b∈fp,b<s2.heap.objs.size:=λb hb=>let ⟨o,e,_⟩:=T.obj 0 _ st2 b hb;Heap.lt_size e
 have f3:∀b∈fp,Cn X pins (upd H2 s2.heap.objs.size (.lst [])) b:=λb hb=>⟨by rw[AZ (ne_of_lt (lt2 b hb))];exact(f2 b hb).1,(f2 b hb).2⟩
 have lt3:∀b∈fp,b<(s2.heap.push { cls:=.type "list",data:=.seq ([]:List Value).toArray }).objs.size:=λb hb=>by rw[Heap.size_push];exact Nat.lt_succ_of_lt (lt2 b hb)
 generalize hs3:({ s2 with heap:=s2.heap.push { cls:=.type "list",data:=.seq ([]:List Value).toArray } }:Shared)=s3 at *;have lt3:∀b∈fp,b<s3.heap.objs.size:=by rw[<- hs3];exact lt3
 have st3:tn 0 s3.heap:=T.keep _ _ _ st2 λb hb o e=>by rw[<- hs3];exact Heap.get?_push_of_some _ e
 refine Lp λh' hk hn ho ha=>?_;have I4:=Kr (loc:=loc) S I3 f3 hk hn ho ha lt3;have fpX:∀{H':Hp},(∀b∈fp,H' b=none)->∀b∈fp,Cn (cCx X (loc++fr) scope s3 (upd H2 s2.heap.objs.size (.lst [])) fp) [] H' b:=λhn b hb=>
  ⟨hn b hb,(I4.ok.exf b hb).1,I4.ok.exfs b hb,.inl hb,(I4.ok.exf b hb).2,λp hp=>by cases hp⟩
 have loop:codeAny (model X.prog X.w) X.A (.compLoop (.ListComp elt [⟨tg,iter,ifs,0⟩] scope pos) 0 (.ref it) (.ref s2.heap.objs.size) (QZ scope s3.heap.objs.size X.env))
  (RR (.ref s2.heap.objs.size) s3.heap.objs.size) { s3 with heap:=h' }:=by
  refine GU (λn s'=>∃i σ' ys H',Inv (cCx X (loc++fr) scope s3 (upd H2 s2.heap.objs.size (.lst [])) fp) [] σ' H' s'/\tn i s'.heap/\(∀b∈fp,H' b=none)/\W i n σ' ys H') ?_ m0
   ⟨0,_,[],_,I4,T.keep _ _ _ st3 λb hb o e=>hk b o e,λb hb=>(f3 b hb).1,w0⟩
  rintro n s5 ⟨i,σ5,ys,H5,I5,st5,fr5,w5⟩;obtain⟨hD,w5⟩:=turn i n σ5 ys H5 w5;rcases w5 with⟨stop,qn⟩|⟨go,hz,N,hN,step⟩
  .refine thn (T.done (cCx X (loc++fr) scope s3 (upd H2 s2.heap.objs.size (.lst [])) fp) rfl rfl rfl hc i [] s5 σ5 H5 _ I5 (fpX fr5) st5 stop) λr s6 ⟨hr,I6⟩=>?_;subst hr;exact hfin s3 s6 H5 σ5 s2.heap.objs.size I3 I6 f3 qn
  .refine thn (T.item (cCx X (loc++fr) scope s3 (upd H2 s2.heap.objs.size (.lst [])) fp) rfl rfl rfl hc i [] s5 σ5 H5 _ I5 (fpX fr5) st5 go) λr s6 ⟨u,hr,h6⟩=>?_;subst hr;refine thn h6 λ_ s7 ⟨x,H7,I7,r7,y7,st7,fr7⟩=>?_;have I7':=I7.pinned (fpX fr7) (T.obj _ _ st7);have keepI:∀{σ8:St} {H8:Hp} {s8:Shared},Inv (cCx X (loc++fr) scope s3 (upd H2 s2.heap.objs.size (.lst [])) fp) ([]++FH fp s7.heap) σ8 H8 s8->tn (i+1) s8.heap/\∀b∈fp,H8 b=none:=λ{σ8 H8 s8} I8=>by
    refine⟨T.keep _ _ _ st7 λb hb o e=>(I8.pin (b,o) (mem_append_right _ (mem_append_right _ (Ck hb e)))).1,λb hb=>?_⟩;obtain⟨o,e,d⟩:=T.obj _ _ st7 b hb;exact(I8.pin (b,o) (mem_append_right _ (mem_append_right _ (Ck hb e)))).2.1
   refine thn (hg s3 (upd H2 s2.heap.objs.size (.lst [])) fp _ s7 σ5 H7 x u _ I7' r7 (step x H7 y7)) λ_ s8 ⟨σ8,H8,I8,q8⟩=>?_;refine thn (hf s3 (upd H2 s2.heap.objs.size (.lst [])) fp _ s8 σ8 H8 _ I8 q8) λb s9 ⟨H9,I9,q9⟩=>?_;cases b with
   |false=>
    rw[if_neg Bool.false_ne_true]at q9 ⊢;obtain⟨m',hm,w9⟩:=hN _ _ _ q9;exact⟨m',hm,i+1,σ8,ys,H9,I9.unpinned,(keepI I9).1,(keepI I9).2,w9⟩
   |true=>
    rw[if_pos rfl]at q9 ⊢;refine thn (he s3 (upd H2 s2.heap.objs.size (.lst [])) fp _ s9 σ8 H9 _ I9 q9) λe10 s10 ⟨v10,H10,I10,r10,hD10,n10⟩=>?_;obtain⟨m',hm,w10⟩:=hN _ _ _ n10;refine Oi (X:=cCx X (loc++fr) scope s3 (upd H2 s2.heap.objs.size (.lst [])) fp) I10 hD10 r10 hz λ_ s11 I11=>?_;exact⟨m',hm,i+1,σ8,_,_,I11.unpinned,(keepI I11).1,(keepI I11).2,w10⟩
 exact codeAny_compStart_list loop (T.self X.A 0 _ _ _ (T.keep _ _ _ st3 λb hb o e=>hk b o e) loop)
def LS{scope:Scope}{N':List Str}{fp:List Addr}{pins:List (Addr×Obj)}{σ σ5:St}{H3 H5:Hp}{s3 s6:Shared}{h'':Heap}(I3:Inv X pins σ H3 s3)(I6:Inv (cCx X N' scope s3 H3 fp) [] σ5 H5 s6)(f3:∀b∈fp,Cn X pins H3 b)
 (hs:Heap.SameBut s3.heap.objs.size s6.heap h''):Inv X pins σ H5 { s6 with heap:=h'' }:=by
 have neC:∀b o,s3.heap.get? b=some o->b≠s3.heap.objs.size:=λb o e=>ne_of_lt (Heap.lt_size e);have un:=I6.base;refine I3.call' (s':={ s6 with heap:=h'' }) (ch:=fp) I6.os ⟨λb o e n hb hx=>?_,λb o e n hb hx=>?_,un.free,λb o e hx=>?_,un.tups,un.frzs,un.tbls⟩ ?_ I6.bare ?_
 .exact(hs.2 b (neC b o e)).trans (un.keep b o e n hb hx)
 .obtain⟨sl,q⟩:=un.slot b o e n hb hx;exact⟨sl,(hs.2 b (neC b o e)).trans q⟩
 .obtain⟨o',q⟩:=un.there b o e hx;exact⟨o',(hs.2 b (neC b o e)).trans q⟩
 .intro b ob e;have hfree:H5 s3.heap.objs.size=none:=I6.free;refine(I6.hok b ob e).stay (λc w' hc q=>(hs.2 c ?_).trans q) (λ_ q=>q) λ_ _ q=>q;intro z;rcases hc with hc|hc
  .rw[<- hc,z,hfree]at e;cases e
  .rw[z,hfree]at hc;cases hc
 .intro b hb;obtain⟨_,a2,_,a4,a5,a6⟩:=f3 b hb;exact⟨a4,a2,a5,a6⟩
def TB{i:Nat}{y:Str}{elt tg iter:Expr}{ifs:List Expr}{scope:Scope}{pos spos py:Pos}{loc fr:List Str}{ix:List Nat}{wi:TI}{g:TG}{tf:TT}{te:TE}(hN:X.N.Nodup)(hiN:X.N[i]?=some y)(hy:X.env.scope.names.lookup y=some .local)
 (hc:X.calm=true) (S:CSc X scope fr ix) (hi:PI X tg iter wi)
 (hg:∀s H ex,PG (cCx X (loc++fr) scope s H ex) tg g) (hf:∀s H ex,PF (cCx X (loc++fr) scope s H ex) ifs tf) (he:∀s H ex,PE (cCx X (loc++fr) scope s H ex) elt te)
 (hsw:swapsWith (.ListComp elt [⟨tg,iter,ifs,0⟩] scope pos) (some (.Name y py)) spos.line X.env=pure true:=by rfl) (hs:∀x,foldedSetIterable iter X.env x=pure x:=by intro _;rfl):
 PS X (.Assign [.Name y py] (.ListComp elt [⟨tg,iter,ifs,0⟩] scope pos) spos) (EX (FX loc.length ix wi g tf te) (Dq i)):=by
 intro pins s σ H D I h;have hnames:∀y∈scope.names,y.2=.local->scope.names.lookup y.1=some .local:=λy hy e=>by
  have:=all_eq_true.mp S.loc y hy;rw[e]at this;simpa using this
 rw[exec_Assign_Name_used _ _ _ _ hsw];refine wpAny_bind (wpAny_standAt (wpAny_bind ?_));show wpAny _ _ (do let _ <- comprehension (.ListComp elt [⟨tg,iter,ifs,0⟩] scope pos) scope X.env _ (newList []) false (eval iter X.env) (some (assign (.Name y py) X.env))) _ _ s;refine wpAny_bind (wpAny_mono (wpAny_comprehension_free (use:=some (assign (.Name y py) X.env)) (Q:=λ_ s'=>SP X pins D .next s') rfl hs (Fz (S.clos I.ok)) S.kind hnames
  (thn (hi pins s σ H _ I h) λv s1 h1=>thn h1 λitv s2 h2=>?_)) (λ_ s' hq=>wpAny_pure (wpAny_pure hq)) λ_ _ e=>e)
 obtain⟨it,fp,tn,J,H2,rfl,I2,T,st2,f2,hW⟩:=h2;refine NL (RR:=λacc C=>compPost (model X.prog X.w) X.A X.xe (some (assign (.Name y py) X.env)) (λ_ s'=>SP X pins D .next s') acc C) hc S hg hf he I2 T st2 f2 hW λs3 s6 H5 σ5 L I3 I6 f3 q=>?_;have J6:Inv X pins σ H5 s6:=LS (h'':=s6.heap) I3 I6 f3 (.refl ..);obtain⟨m,hm,_⟩:=I6.loc;have hm:s6.heap.Ns s3.heap.objs.size m:=hm;have hL:s3.heap.objs.size≠X.env.locals:=Ne.symm (ne_of_lt I3.lt);show wpAny _ _ (assign (.Name y py) X.env (.ref L)) _ _ s6;refine wpAny_assign_Name (JF (v:=.ref L) J6 hN hiN (.inl hy) rfl (λs7 I7 ⟨a,sb,ha⟩=>?_) (.inr hy));have hca:s3.heap.objs.size≠a:=by
  rcases ha with rfl|ha
  .exact hL
  .obtain⟨v,z⟩:=I3.cell y a ha;exact Ne.symm (ne_of_lt z.lt)
 refine⟨m,hm.sameBut sb hca,λh' hs'=>?_⟩;refine⟨_,H5,I7.turned (t':=s7.toks) (it:=s3.heap.objs.size) (λb o hb e=>(hs'.2 b hb).trans e) I6.free hL (.inr I3.sz) (λx c e z=>?_) (λp hp z=>?_),q⟩
 .obtain⟨v,w⟩:=I3.cell x c e;exact absurd w.lt (by rw[z];exact lt_irrefl _)
 .exact absurd (Heap.lt_size (I3.pin p hp).1) (by rw[z];exact lt_irrefl _)
end
mutual
def Rep(K:PySem.W.Frag)(H:Hp):PyData->V->Prop
 |.none,v=>v=.non
 |.bool b,v=>v=.bl b
 |.int i,v=>v=.int i
 |.str x,v=>v=.str x
 |.list ds,v=>∃a xs,v=.ref a/\SqL K H a xs/\Bp K H ds xs
 |.tuple ds,v=>∃a xs,v=.ref a/\SqT K H a xs/\Bp K H ds xs
 |.dict _,_=>False
def Bp(K:PySem.W.Frag)(H:Hp):List PyData->List V->Prop
 |[],xs=>xs=[]
 |d::ds,xs=>∃x r,xs=x::r/\Rep K H d x/\Bp K H ds r
end
section
variable{X:Cx}{pins:List (Addr×Obj)}{σ:St}{H:Hp}{s:Shared}
mutual
def DK(I:Inv X pins σ H s):∀(d:PyData) (v:V) (u:Value),Rep X.K H d v->RelV v u->∃as,Reads s.heap u d as
 |.none,v,u,h,r=>by
  have h:v=.non:=by simpa only[Rep]using h
  subst h;cases r;exact⟨_,.none⟩
 |.bool b,v,u,h,r=>by
  have h:v=.bl b:=by simpa only[Rep]using h
  subst h;cases r;exact⟨_,.bool b⟩
 |.int i,v,u,h,r=>by
  have h:v=.int i:=by simpa only[Rep]using h
  subst h;obtain⟨t,rfl⟩:=r;exact⟨_,.int i t⟩
 |.str x,v,u,h,r=>by
  have h:v=.str x:=by simpa only[Rep]using h
  subst h;obtain⟨t,rfl⟩:=r;exact⟨_,.str x t⟩
 |.list ds,v,u,h,r=>by
  have h:∃a xs,v=.ref a/\SqL X.K H a xs/\Bp X.K H ds xs:=by simpa only[Rep]using h
  obtain⟨a,xs,rfl,hq,ha⟩:=h;cases r;obtain⟨its,rv,⟨o,n,e,c,_,dd⟩,hz⟩:=I.list hq;obtain⟨as,q⟩:=Ec I ds xs its ha rv;exact⟨_,.list e c dd (by simpa using q)⟩
 |.tuple ds,v,u,h,r=>by
  have h:∃a xs,v=.ref a/\SqT X.K H a xs/\Bp X.K H ds xs:=by simpa only[Rep]using h
  obtain⟨a,xs,rfl,hq,ha⟩:=h;cases r;obtain⟨its,rv,⟨o,e,c,n,dd⟩,hz⟩:=I.tuple hq;obtain⟨as,q⟩:=Ec I ds xs its ha rv;exact⟨_,.tuple e c dd (by simpa using q)⟩
 |.dict _,v,u,h,r=>by
  have h:False:=by simpa only[Rep]using h
  exact h.elim
def Ec(I:Inv X pins σ H s):∀(ds:List PyData) (xs:List V) (us:List Value),Bp X.K H ds xs->Vals xs us->∃as,ReadsAll s.heap us ds as
 |[],xs,us,h,r=>by
  have h:xs=[]:=by simpa only[Bp]using h
  subst h;cases r;exact⟨_,.nil⟩
 |d::ds,xs,us,h,r=>by
  have h:∃x r,xs=x::r/\Rep X.K H d x/\Bp X.K H ds r:=by simpa only[Bp]using h
  obtain⟨x,rr,rfl,h1,h2⟩:=h;cases r with
  |cons r1 r2=>
   obtain⟨as,q1⟩:=DK I d _ _ h1 r1;obtain⟨bs,q2⟩:=Ec I ds _ _ h2 r2;exact⟨_,.cons q1 q2⟩
end
end
structure Grow(H H':Hp):Prop where
 tup:∀b xs,H b=some (.tup xs)->H' b=some (.tup xs)
 frz:∀b o u,H b=some (.frz o u)->H' b=some (.frz o u)
def Grow.refl{H:Hp}:Grow H H:=⟨λ_ _ h=>h,λ_ _ _ h=>h⟩
def Chg(H:Hp)(p:Addr):Prop:=(∀xs,H p≠some (.tup xs))/\∀o u,H p≠some (.frz o u)
def Grow.put{H H':Hp}{p:Addr}{o:HO}(a:Grow H H')(h:Chg H' p):Grow H (upd H' p o):=⟨λc xs e=>by
 have q:=a.tup c xs e;have n:c≠p:=λz=>h.1 xs (by rw[<- z];exact q);rw[AZ n];exact q,λc z u e=>by
 have q:=a.frz c z u e;have n:c≠p:=λw=>h.2 z u (by rw[<- w];exact q);rw[AZ n];exact q⟩
def Chg.lst{H:Hp}{p:Addr}{xs:List V}(h:H p=some (.lst xs)):Chg H p:=⟨(λ_ e=>by rw[h]at e;cases e),(λ_ _ e=>by rw[h]at e;cases e)⟩
def Grow.sq{K:PySem.W.Frag}{H H':Hp}{a:Addr}{xs:List V}(g:Grow H H')(h:SqT K H a xs):SqT K H' a xs:=by
 rcases h with(h|⟨o,h⟩)|h
 .exact .inl (.inl (g.tup _ _ h))
 .exact .inl (.inr ⟨o,g.frz _ _ _ h⟩)
 .exact .inr h
section
variable{X:Cx}
def IE(K:PySem.W.Frag):List V->Hp->VK->Prop:=λxs H Q=>∃x d,xs=[x]/\Rep K H d x/\d.showable=true/\d.hasDict=false/\isDisplay d=true/\d.depth<=30/\d.shown.length<=sizeLine/\Q (.str d.shown) H
def NN(hg:X.A.guards=some [])(hu:X.A.units+64<cLine):CallR X (.builtin "repr") (IE X.K):=by
 intro pins s σ H xs us Q I r h;obtain⟨x,d,rfl,hr,hs,hd,hi,hdep,hsz,q⟩:=h;obtain⟨u,rfl,ru⟩:=C1 r;obtain⟨as,hR⟩:=DK I d x u hr ru;obtain⟨a,rfl⟩:=isRef_of_reads hR hi;exact repr_of_reads' hR hs (PyData.noDict_hsm hd) hg (by omega) (λ_ _ e=>e) (λh' u tk hk=>⟨.str d.shown,H,I.kept hk,⟨_,rfl⟩,q⟩) hsz
def NM:CallR X (.builtin "repr") (λxs H Q=>∃i,xs=[.int i]/\i.natAbs.log2<1920/\Q (.str (toString i)) H):=by
 intro pins s σ H xs us Q I r h;obtain⟨i,rfl,hi,q⟩:=h;obtain⟨u,rfl,ru⟩:=C1 r;obtain⟨t,rfl⟩:=ru;exact PySem.P.repr_of_int hi ⟨.str (toString i),H,I.tok _,⟨_,rfl⟩,q⟩
def Ms(K:PySem.W.Frag):R2:=λx y H Q=>∃d e,Rep K H d x/\Rep K H e y/\d.canLay0=true/\e.canLay0=true/\min d.depth e.depth<=60/\Q (.bl (!PyData.eqv d e)) H
def Mt(K:PySem.W.Frag):R2:=λx y H Q=>∃d e,Rep K H d x/\Rep K H e y/\d.canLay0=true/\e.canLay0=true/\min d.depth e.depth<=60/\Q (.bl (PyData.eqv d e)) H
def Wc(hu:X.A.units+64<cLine):OpR X (compareOp .NotEq) (Ms X.K):=by
 intro pins s σ H x y v u Q I rx ry h;obtain⟨d,e,h1,h2,c1,c2,hm,q⟩:=h;obtain⟨as,q1⟩:=DK I d x v h1 rx;obtain⟨bs,q2⟩:=DK I e y u h2 ry;exact PySem.SeqAt.compareNe_reads q1 q2 c1 c2 (by omega) ⟨.bl _,H,I,rfl,q⟩
def Wf(hu:X.A.units+64<cLine):OpR X (compareOp .Eq) (Mt X.K):=by
 intro pins s σ H x y v u Q I rx ry h;obtain⟨d,e,h1,h2,c1,c2,hm,q⟩:=h;obtain⟨as,q1⟩:=DK I d x v h1 rx;obtain⟨bs,q2⟩:=DK I e y u h2 ry;exact PySem.SeqAt.compareEq_reads q1 q2 c1 c2 (by omega) ⟨.bl _,H,I,rfl,q⟩
def Gj:∀{ns:List Int} {us:List Value},Vals (ns.map V.int) us->IntsAre us ns
 |[],_,.nil=>.nil
 |n::ns,_,.cons r t=>by obtain⟨k,rfl⟩:=r;exact .cons _ _ (Gj t)
def OZ(hc:X.calm=true):CallR X (.builtin "sum") (λxs H Q=>∃(a:Addr) (ns:List Int),xs=[.ref a]/\SqL X.K H a (ns.map V.int)/\Q (.int ns.sum) H):=by
 intro pins s σ H xs us Q I r h;obtain⟨a,ns,rfl,hq,q⟩:=h;obtain⟨u,rfl,ru⟩:=C1 r;cases ru;obtain⟨its,rv,p,hz⟩:=I.list hq;have hi:=Gj rv;obtain⟨xs,hx⟩:=hi.allInts.items;have hl':s.heap.IsList a (intItems xs):=hx ▸ p.isList;refine sum_intListG (I.ok.hd hc) hl' λh' tk t' hk=>?_;have e1:ns=xs.toList.map (·.1):=by
  rw[<- nums_intItems,<- hx];exact(show numsOf its.toArray.toList=ns from hi.numsOf).symm
 have e2:preSum (numAt xs) xs.size=ns.sum:=by
  rw[preSum_eq,take_of_length_le (by simp),e1]
 rw[e2];exact⟨.int ns.sum,H,I.kept hk,⟨_,rfl⟩,q⟩
end
end L2
namespace L2
open PySem PySem.Spec PyProof.Rows
section
variable(K:PySem.W.Frag){X:Cx}
def Ko(hK:X.K=K:=by rfl):IxR X (Po K):=by subst hK;exact U3
def Lu(hK:X.K=K:=by rfl):IxR X (Pn K):=by subst hK;exact Wv
def PM(hK:X.K=K:=by rfl):SlR X (Mp K):=by subst hK;exact Rt
def Rr(hK:X.K=K:=by rfl):SlR X (Ka K):=by subst hK;exact Nk
def O8(hK:X.K=K:=by rfl):OpR X (compareOp .NotIn) (rIn K true):=by subst hK;exact Kf
def FJ(hu:X.A.units+64<cLine)(hK:X.K=K:=by rfl):OpR X (compareOp .Eq) (Mt K):=by subst hK;exact Wf hu
def Iw(hu:X.A.units+64<cLine)(hK:X.K=K:=by rfl):OpR X (compareOp .NotEq) (Ms K):=by subst hK;exact Wc hu
def Kg(hK:X.K=K:=by rfl):OpR X (binaryOp .Add) (Mu K):=by subst hK;exact Ti
def VL:List V->Hp->VK->Prop:=λxs H Q=>∃p ys,xs=[.ref p]/\(SqL K H p ys∨SqT K H p ys)/\Q (.int ys.length) H
def JX(hK:X.K=K:=by rfl):CallR X (.builtin "len") (VL K):=by subst hK;exact LC
def FG:List V->Hp->VK->Prop:=λxs H Q=>∃p ys,xs=[.ref p]/\(SqL K H p ys∨SqT K H p ys)/\∀l,H l=none->Q (.ref l) (upd H l (.lst ys))
def IW(hK:X.K=K:=by rfl):CallR X (.type "list") (FG K):=by subst hK;exact LB
def KZ:List V->Hp->VK->Prop:=λxs H Q=>∃p ys,xs=[.ref p]/\((SqL K H p ys/\∀l,H l=none->Q (.ref l) (upd H l (.tup ys)))∨(SqT K H p ys/\Q (.ref p) H))
def HB(hK:X.K=K:=by rfl):CallR X (.type "tuple") (KZ K):=by subst hK;exact Jp
def HC(hg:X.A.guards=some [])(hu:X.A.units+64<cLine)(hK:X.K=K:=by rfl):CallR X (.builtin "repr") (IE K):=by subst hK;exact NN hg hu
def Qv:List V->Hp->VK->Prop:=λxs H Q=>∃(a:Addr) (ns:List Int),xs=[.ref a]/\SqL K H a (ns.map V.int)/\Q (.int ns.sum) H
def JW(hc:X.calm=true)(hK:X.K=K:=by rfl):CallR X (.builtin "sum") (Qv K):=by subst hK;exact OZ hc
def Kc{tg l:Expr}{tl:TE}(hl:PE X l tl)(hK:X.K=K:=by rfl):PI X tg l (Gk K tl):=by subst hK;exact TR hl
def TQ{tg l:Expr}{tl:TE}(hl:PE X l tl)(hK:X.K=K:=by rfl):PI X tg l (NE K tl):=by subst hK;exact W7 hl
def TV{pos:Pos}{es:List Expr}{k:Nat}{t:TGs}{n:Nat}(hc:X.calm=true)(h:PGs X es t)(hK:X.K=K:=by rfl)
 (hn:(assignEach es X.env).length=n:=by rfl) (hst:(assignEach es X.env).findIdx? (·.1)=none:=by rfl):PG X (.Tuple es k pos) (NI K n t):=by
 subst hK;exact W8 hc h hn hst
end
section
variable(K:PySem.W.Frag){X:Cx}
def JZ:∀{bs:List Bool} {us:List Value} {i:Nat} {v:Value},Vals (bs.map V.bl) us->us[i]?=some v->∃b,bs[i]?=some b/\v=.bool b
 |[],_,_,_,.nil,e=>by simp at e
 |b::bs,_,0,_,.cons r _,e=>by simp at e;subst e;exact⟨b,rfl,r⟩
 |b::bs,_,i+1,_,.cons _ t,e=>by
  obtain⟨c,h1,h2⟩:=JZ (i:=i) t (by simpa using e);exact⟨c,by simpa using h1,h2⟩
def VM:List V->Hp->VK->Prop:=λxs H Q=>∃(a:Addr) (bs:List Bool),xs=[.ref a]/\SqL K H a (bs.map V.bl)/\Q (.bl (bs.all id)) H
def JY(hc:X.calm=true)(hK:X.K=K:=by rfl):CallR X (.builtin "all") (VM K):=by
 subst hK;intro pins s σ H xs us Q I r h;obtain⟨a,bs,rfl,hq,q⟩:=h;obtain⟨u,rfl,ru⟩:=C1 r;cases ru;obtain⟨its,rv,p,hz⟩:=I.list hq;have hl:=p.isList;have hlen:=rv.length;have hlt:a<s.heap.objs.size:=by obtain⟨_,e,_⟩:=hl;exact Heap.lt_size e
 refine call_all_walk (wpAny_pyIter_list hl ?_);refine⟨s.heap.objs.size,[s.heap.objs.size,a],[s.heap.objs.size],its.toArray.size,_,_,λi=>(bs[i]?).getD true,rfl,Walks.list (A:=X.A.in1) (I.ok.hd hc) _ a (ne_of_lt hlt) its.toArray,
  ⟨⟨_,Heap.get?_push_size _ rfl,rfl,rfl⟩,hl.push _⟩,λi v s' Q' E' hP hQ=>?_,λh' tk hk=>?_⟩
 .obtain⟨b,e,rfl⟩:=JZ rv (by simpa using hP);simp only[e,Option.getD_some]at hQ;exact wpAny_truthy_bool hQ
 .have e:((List.range its.toArray.size).all λi=>(bs[i]?).getD true)=bs.all id:=by
   rw[size_toArray,<- hlen,length_map];exact LSm.range_all bs
  rw[e];exact⟨.bl _,H,I.kept (LSm.kept_iter hk),rfl,q⟩
def Iu:List V->Hp->VK->Prop:=λxs H Q=>∃(a:Addr) (ns:List Int),xs=[.ref a]/\SqL K H a (ns.map V.int)/\ns.length<64/\∀(p:Addr) (ns':List Int),H p=none->ns'.Perm ns->ns'.Pairwise (·<=·)->Q (.ref p) (upd H p (.lst (ns'.map V.int)))
def LW:∀{ns:List Int} {us:List Value},IntsAre us ns->Vals (ns.map V.int) us
 |[],_,.nil=>.nil
 |_::_,_,.cons _ _ t=>.cons ⟨_,rfl⟩ (LW t)
def LA(hK:X.K=K:=by rfl):CallR X (.builtin "sorted") (Iu K):=by
 subst hK;intro pins s σ H xs us Q I r h;obtain⟨a,ns,rfl,hq,h64,q⟩:=h;obtain⟨u,rfl,ru⟩:=C1 r;cases ru;obtain⟨its,rv,p,hz⟩:=I.list hq;have hlen:=rv.length;rw[length_map]at hlen;refine sorted_ints p.isList (Gj rv) (by omega) λout ns' a1 a2 a3=>?_;obtain⟨e,he⟩:=sortedAll_at s.heap its out;have hl':ns'.length=ns.length:=a2.length_eq;refine⟨.ref (s.heap.objs.size+1),_,I.laid (a:=s.heap.objs.size+1) (o:=.lst (ns'.map V.int)) (t':=s.toks) (λb o hb=>sortedAll_old hb) (Nat.le_succ _) ⟨?_,out.toList,e,LW a1,he⟩,rfl,q _ _ (I.hok.fresh (Nat.le_succ _)) a2 a3⟩;rw[length_map,hl'];exact le_of_lt (Nj (by omega))
end
section
variable{prog:Program}{w:World}{A:Around}{E:Value->Shared->Prop}{s:Shared}{l:Addr}{xs:Array (Int×Tok)}
def Jo{Q:Value->Shared->Prop}(hl:s.heap.IsTuple l (intItems xs))
 (h:∀s₂:Shared,s₂={ s with heap:=s.heap.push { cls:=.type "tuple_iterator",data:=.fields #[.ref l,.int 0 0] } } ->
  (s₂.heap.IsTupleIter s.heap.objs.size l 0/\s₂.heap.IsTuple l (intItems xs))->(∀b∈[s.heap.objs.size,l],b<s₂.heap.objs.size)->l≠s.heap.objs.size->Q (.ref s.heap.objs.size) s₂):
 wpAny (model prog w) A (pyIter (.ref l)) Q E s:=by
 have hlt:l<s.heap.objs.size:=by obtain⟨_,e,_⟩:=hl;exact Heap.lt_size e
 refine wpAny_pyIter_tuple hl (h _ rfl ⟨⟨_,Heap.get?_push_size _ rfl,rfl,rfl⟩,hl.push _⟩ (λb hb=>?_) (ne_of_lt hlt));show b<(s.heap.push _).objs.size;rw[Heap.size_push];rcases mem_cons.mp hb with rfl|hb
 .exact Nat.lt_succ_self _
 .rcases mem_cons.mp hb with rfl|hb
  .exact Nat.lt_succ_of_lt hlt
  .cases hb
def OB{h':Heap}{o:Obj}(hk:∀b x,b∉[s.heap.objs.size]->(s.heap.push o).get? b=some x->h'.get? b=some x):∀b x,s.heap.get? b=some x->h'.get? b=some x:=
 λb x e=>hk b x (λhm=>by rw[mem_singleton.mp hm]at e;exact lt_irrefl _ (Heap.lt_size e)) (Heap.get?_push_of_some _ e)
def KG{Q:Value->Shared->Prop}(hh:A.handled=none)(hl:s.heap.IsTuple l (intItems xs))
 (h:∀h' tk t',(∀b o,s.heap.get? b=some o->h'.get? b=some o)->Q (.int (preSum (numAt xs) xs.size) t') { s with heap:=h',toks:=tk }):
 wpAny (model prog w) A (call (.builtin "sum") [.ref l]) Q E s:=by
 refine call_sum_walkG (Jo hl λs₂ e st hfp hlI=>?_);subst e;refine⟨_,_,_,_,_,_,numAt xs,rfl,Walks.tuple (A:=A.in1) hh _ l hlI (intItems xs),st,hfp,(λ_ _=>intItems_at),λh' tk t' hk=>?_⟩;have:=h h' tk t' (OB hk);simpa [intItems]using this
end
section
variable(K:PySem.W.Frag){X:Cx}
def Qu:List V->Hp->VK->Prop:=λxs H Q=>∃(a:Addr) (ns:List Int),xs=[.ref a]/\SqT K H a (ns.map V.int)/\Q (.int ns.sum) H
def IV(hc:X.calm=true)(hK:X.K=K:=by rfl):CallR X (.builtin "sum") (Qu K):=by
 subst hK;intro pins s σ H xs us Q I r h;obtain⟨a,ns,rfl,hq,q⟩:=h;obtain⟨u,rfl,ru⟩:=C1 r;cases ru;obtain⟨its,rv,p,hz⟩:=I.tuple hq;have hi:=Gj rv;obtain⟨xs,hx⟩:=hi.allInts.items;have hl':s.heap.IsTuple a (intItems xs):=hx ▸ (show s.heap.IsTuple a its.toArray from p);refine KG (I.ok.hd hc) hl' λh' tk t' hk=>?_;have e1:ns=xs.toList.map (·.1):=by
  rw[<- nums_intItems,<- hx];exact(show numsOf its.toArray.toList=ns from hi.numsOf).symm
 have e2:preSum (numAt xs) xs.size=ns.sum:=by
  rw[preSum_eq,take_of_length_le (by simp),e1]
 rw[e2];exact⟨.int ns.sum,H,I.kept hk,⟨_,rfl⟩,q⟩
end
structure DefAt(K:PySem.W.Frag)(mg:Str->Option Value)(x:Str)(st:Stmt)(f:Addr)(fd:FuncData)(ps:List Str):Prop where
 fn:Fun K x x st f fd
 mg:mg x=some (.ref f)
 bd:Binds K fd ps []
def Qz{X:Cx}{j k:Nat}{f:Addr}{fd:FuncData}{ps:List Str}{sp:Sp}{x:Str}{st:Stmt}{e:Expr}{es:List Expr}{t:TA}{p pos:Pos}(F:FnOk X.prog X.w X.K X.mg X.base CX0 j f fd ps sp)(hr:Room k X.A)(D:DefAt X.K X.mg x st f fd ps)(ha:PA X (e::es) t)
 (hjk:j<=k:=by decide) (hg:Gl X x:=by rfl) (hdb:(x==("__debug__":Str))=false:=by decide) (he:starEach (e::es) X.env=(false,eval e X.env)::starEach es X.env:=by rfl) (hpl:(backTo pos (starEach es X.env)).any (·.1)=false:=by rfl):
 PE X (.Call (.Name x p) (e::es) [] pos) (Et sp [] E0 t):=
 Td (F.mono hjk) hr hg D.mg D.fn.kp D.bd .nil Y3 ha hdb he hpl
def MW(i j k:Nat)(ta:TA):TS:=λD σ H=>ta σ H λvs H1=>∃v w z,vs=[v,w,z]/\D.nx (((σ.set k (some z)).set j (some w)).set i (some v)) H1
def TD{X:Cx}{i j k:Nat}{x y z:Str}{a b c:Expr}{ta:TA}{px py pz pt pos:Pos}{kt k2 pt2}(hc:X.calm=true)(hN:X.N.Nodup)(hi:X.N[i]?=some x)(hj:X.N[j]?=some y)(hk:X.N[k]?=some z)
 (hx:X.env.scope.names.lookup x=some .local) (hy:X.env.scope.names.lookup y=some .local) (hz:X.env.scope.names.lookup z=some .local) (ha:PA X [a,b,c] ta)
 (hw:swappedStores [.Tuple [.Name x px,.Name y py,.Name z pz] kt pt] (.Tuple [a,b,c] k2 pt2) X.env=pure (some [x,y,z]))
 (hs:swapsWithSole [.Tuple [.Name x px,.Name y py,.Name z pz] kt pt] (.Tuple [a,b,c] k2 pt2) pos.line X.env=pure false:=by rfl):
 PS X (.Assign [.Tuple [.Name x px,.Name y py,.Name z pz] kt pt] (.Tuple [a,b,c] k2 pt2) pos) (MW i j k ta):=by
 intro pins s σ H D I h;rw[exec_Assign_arm];refine wpAny_bind (wpAny_standAt ?_);rw[hs];refine wpAny_bind (wpAny_pure ?_);rw[if_neg (by decide)];refine wpAny_bind (Tuple_ (thn (ha _ pins s σ H _ I h) λus s1 ⟨vs,H1,I1,r1,q1⟩=>?_));obtain⟨v,w,q,e1,q1⟩:=q1;subst e1;obtain⟨u1,u2,u3,rfl,rv,rw',rq⟩:∃u1 u2 u3,us=[u1,u2,u3]/\RelV v u1/\RelV w u2/\RelV q u3:=by
  cases r1 with
  |cons p1 q1=>
   cases q1 with
   |cons p2 q2=>
    cases q2 with
    |cons p3 q3=>
     cases q3;exact⟨_,_,_,rfl,p1,p2,p3⟩
 refine wpAny_newObj_type ?_ (by show 3<=sizeLine;decide);have I2:Inv X pins σ H1 { s1 with heap:=s1.heap.push { cls:=.type "tuple",data:=.seq [u1,u2,u3].toArray } }:=I1.kept (t':=s1.toks) λb o e=>Heap.get?_push_of_some _ e;rw[hw];refine wpAny_bind (wpAny_pure ?_);show wpAny (model X.prog X.w) X.A (do rule "assign.swapped-stores";let items <- unpackItems (.ref s1.heap.objs.size) 3 none;assignInOrder [λv=>bindName X.env z v,λv=>bindName X.env y v,λv=>bindName X.env x v] items.reverse;pure Flow.next) _ _ _;refine wpAny_bind (wpAny_rule (wpAny_bind (unpackItems_tuple (items:=#[u1,u2,u3]) (I.ok.hd hc) (IsTup.new s1.heap _) λh' hx'=>?_)));have I3:=I2.kept (h':=h') (t':=s1.toks) λb o e=>hx' b o (ne_of_lt (Heap.lt_size e)) e;show wpAny _ _ (assignInOrder [λv=>bindName X.env z v,λv=>bindName X.env y v,λv=>bindName X.env x v] [u3,u2,u1] >>= λ_=>pure Flow.next) _ _ _;refine wpAny_bind (assignInOrder_cons (wpAny_bindName (DF I3 hN hk (.inl hz) rq (λs2 I4=>?_) (.inr hz))));refine assignInOrder_cons (wpAny_bindName (DF I4 hN hj (.inl hy) rw' (λs3 I5=>?_) (.inr hy)));refine assignInOrder_cons (wpAny_bindName (DF I5 hN hi (.inl hx) rv (λs4 I6=>assignInOrder_nil (wpAny_pure ?_)) (.inr hx)));exact⟨_,H1,I6,q1⟩
def M6:bootBuiltins "list"=some (.type "list"):=by decide +kernel
def bt_tuple:bootBuiltins "tuple"=some (.type "tuple"):=by decide +kernel
def bt_int:bootBuiltins "int"=some (.type "int"):=by decide +kernel
def bt_len:bootBuiltins "len"=some (.builtin "len"):=by decide +kernel
def bt_repr:bootBuiltins "repr"=some (.builtin "repr"):=by decide +kernel
def bt_sum:bootBuiltins "sum"=some (.builtin "sum"):=by decide +kernel
def bt_min:bootBuiltins "min"=some (.builtin "min"):=by decide +kernel
def Oe:bootBuiltins "sorted"=some (.builtin "sorted"):=by decide +kernel
def bt_all:bootBuiltins "all"=some (.builtin "all"):=by decide +kernel
def Jq:bootBuiltins "isinstance"=some (.builtin "isinstance"):=by decide +kernel
def ne1:¬ (("cells":Str)="next"):=by decide +kernel
def ne2:¬ (("cells":Str)="left"):=by decide +kernel
def ne3:¬ (("cells":Str)="turn"):=by decide +kernel
def ne4:¬ (("next":Str)="left"):=by decide +kernel
def ne5:¬ (("next":Str)="turn"):=by decide +kernel
def ne6:¬ (("left":Str)="turn"):=by decide +kernel
def Yn:¬ (("left":Str)="next"):=by decide +kernel
def Ym:¬ (("turn":Str)="next"):=by decide +kernel
def Yl:¬ (("turn":Str)="left"):=by decide +kernel
mutual
def HA:∀ns:List Int,PyData.canLayAll0 (ns.map PyData.int)=true
 |[]=>by simp[PyData.canLayAll0]
 |n::ns=>by simp[PyData.canLayAll0,PyData.canLay0,HA ns]
end
end L2
namespace L2
open PySem PySem.Spec PyProof.Rows PySem.W
def cdF(c:Addr)(q:Str):Heap->Prop:=λh=>h.CodeRec (.ref c) q
def YT(H:Hp)(q:Str)(pos:Pos)(ps:Array Value):Prop:=ps=#[]∨∃c,ps=#[rawInt pos.line,rawInt pos.col,.ref c]/\H c=some (.ext (cdF c q))
end L2
namespace L2
open PySem PySem.Spec PyProof.Rows
inductive I where
 |non|bl (b:Bool)|int (i:Int)|str (x:Str)|tup (ds:List I)
inductive D where
 |im (i:I)|mu (n:Nat)|tm (ds:List D)|ro (ns:List Int)
inductive MO where
 |lst (ds:List D)|dic (kvs:List (Key×D))
abbrev Hd:=List MO
abbrev Ls:=List (Option D)
def RoL(K:PySem.W.Frag)(H:Hp)(a:Addr)(xs:List V):Prop:=(∃o,H a=some (.frz o (.lst xs))) ∨
 ∃(o:Obj) (its:Array Value) (n:Nat),K.lookup a=some o/\o.cls=.type "list"/\o.dict=none/\o.data=.seq its n/\its.size<=sizeLine/\Vals xs its.toList
def RoL.sq{K:PySem.W.Frag}{H:Hp}{a:Addr}{xs:List V}(h:RoL K H a xs):SqL K H a xs:=by
 rcases h with⟨o,h⟩|h
 .exact .inl (.inr ⟨o,h⟩)
 .exact .inr h
def RoL.grow{K:PySem.W.Frag}{H H':Hp}{a:Addr}{xs:List V}(g:Grow H H')(h:RoL K H a xs):RoL K H' a xs:=by
 rcases h with⟨o,h⟩|h
 .exact .inl ⟨o,g.frz _ _ _ h⟩
 .exact .inr h
def Bh(n:Nat):Prop:=n<=sizeLine
def Ez(n:Nat):Prop:=n<sizeLine
def Ex(i j:Int):Prop:=(-(2^64)<i/\i<2^64)∨(-(2^64)<j/\j<2^64)
def Jy(i j:Int):Prop:=0<=j/\j<=1000000/\i.natAbs<2^64
def K2(j:Int):Prop:=0<j/\j<1073741824
def D9(j:Int):Prop:=0<j
def HJ(j:Int):Prop:=-(2^62)<=j/\j<2^62
def Uo(i j:Int):Prop:=(-(2^62)<=i/\i<2^62)/\-(2^62)<=j/\j<2^62
def Qo(j:Int):Prop:=j<2^24/\-(2^62)<=j
def Qn(i j:Int):Prop:=(-(2^62)<=i/\i<2^62)/\(-(2^62)<=j/\j<2^62)/\(j-i).toNat<=2^24
def Yg(n:Nat):Prop:=n<1920
def AM{n:Nat}(h:n<=1000000):Bh n:=le_trans h (by rw[sizeLine_eq];decide)
def Ej{n:Nat}(h:n<1000000):Ez n:=lt_of_lt_of_le h (by rw[sizeLine_eq];decide)
def EO{i j:Int}(a:-1000000000000<=i)(b:i<=1000000000000):Ex i j:=.inl ⟨by omega,by omega⟩
def FF{j:Int}(a:-1000000000000<=j)(b:j<=1000000000000):HJ j:=⟨by omega,by omega⟩
section
variable(K:PySem.W.Frag)
mutual
def RI(H:Hp):I->V->Prop
 |.non,v=>v=.non
 |.bl b,v=>v=.bl b
 |.int i,v=>v=.int i
 |.str x,v=>v=.str x
 |.tup ds,v=>∃a xs,v=.ref a/\SqT K H a xs/\RIs H ds xs
def RIs(H:Hp):List I->List V->Prop
 |[],xs=>xs=[]
 |d::ds,xs=>∃x r,xs=x::r/\RI H d x/\RIs H ds r
end
mutual
def RD(ρ:List Addr)(H:Hp):D->V->Prop
 |.im i,v=>RI K H i v
 |.mu n,v=>∃a,ρ[n]?=some a/\v=.ref a
 |.tm ds,v=>∃a xs,v=.ref a/\SqT K H a xs/\RDs ρ H ds xs
 |.ro ns,v=>∃a,v=.ref a/\RoL K H a (ns.map V.int)
def RDs(ρ:List Addr)(H:Hp):List D->List V->Prop
 |[],xs=>xs=[]
 |d::ds,xs=>∃x r,xs=x::r/\RD ρ H d x/\RDs ρ H ds r
end
def RKs(ρ:List Addr)(H:Hp):List (Key×D)->List (Key×V)->Prop
 |[],xs=>xs=[]
 |d::ds,xs=>∃x r,xs=x::r/\x.1=d.1/\RD K ρ H d.2 x.2/\RKs ρ H ds r
def RC(ρ:List Addr)(H:Hp):MO->HO->Prop
 |.lst ds,o=>∃xs,o=.lst xs/\RDs K ρ H ds xs
 |.dic kvs,o=>∃kv,o=.dK kv/\RKs K ρ H kvs kv
def Js:List Value->List (Addr×Str×Pos)
 |.ref P::.str q _::.int l _::.int c _::r=>(P,q,⟨l.toNat,c.toNat,0,0⟩)::Js r
 |_=>[]
def Xc(o:Obj):List (Addr×Str×Pos):=match o.cls,o.data with
 |.str _ _,.fields vs=>Js vs.toList
 |_,_=>[]
def Hs(K:PySem.W.Frag):List (Addr×Str×Pos):=match K.getLast? with
 |some p=>Xc p.2
 |none=>[]
def TabsOk(K:PySem.W.Frag)(H:Hp):Prop:=∀x∈Hs K,∃ps,H x.1=some (.tbl ps)/\YT H x.2.1 x.2.2 ps
structure RH(ρ:List Addr)(H:Hp)(hd:Hd):Prop where
 len:ρ.length=hd.length
 nd:ρ.Nodup
 tabs:TabsOk K H
 ob:∀(n:Nat) (o:MO) (a:Addr),hd[n]?=some o->ρ[n]?=some a->∃ho,H a=some ho/\RC K ρ H o ho
structure RL(ρ:List Addr)(H:Hp)(ls:Ls)(σ:St):Prop where
 len:ls.length=σ.length
 ob:∀(i:Nat) (d:D),ls[i]?=some (some d)->∃v,σ[i]?=some (some v)/\RD K ρ H d v
end
structure Ext(ρ:List Addr)(H:Hp)(ρ':List Addr)(H':Hp):Prop where
 pre:∃r,ρ'=ρ++r/\∀b∈r,H b=none
 keep:∀b o,H b=some o->b∉ρ->(∀ps,o≠.tbl ps)->H' b=some o
 tab:∀b ps,H b=some (.tbl ps)->∃ps',H' b=some (.tbl ps')
def nt{o:HO}(h:match o with|.tbl _=>False|_=>True:=by trivial):∀ps,o≠.tbl ps:=λps e=>by subst e;exact h
def TabsOk.upd{K:PySem.W.Frag}{H:Hp}(t:TabsOk K H){a:Addr}{ho:HO}(h1:∀ps,H a≠some (.tbl ps))(h2:∀φ,H a≠some (.ext φ)):TabsOk K (upd H a ho):=λx hx=>by
 obtain⟨ps,e,g⟩:=t x hx;have ne:x.1≠a:=λz=>h1 ps (by rw[<- z];exact e);refine⟨ps,by rw[AZ ne];exact e,?_⟩;rcases g with g|⟨c,g1,g2⟩
 .exact .inl g
 .have nc:c≠a:=λz=>h2 _ (by rw[<- z];exact g2);exact .inr ⟨c,g1,by rw[AZ nc];exact g2⟩
section
variable{K:PySem.W.Frag}{ρ ρ' ρ1 ρ2:List Addr}{H H' H1 H2:Hp}{hd hd' hd1:Hd}
mutual
def RI.grow(g:Grow H H'):∀{i:I} {v:V},RI K H i v->RI K H' i v
 |.non,v,h=>by simpa only[RI]using h
 |.bl b,v,h=>by simpa only[RI]using h
 |.int b,v,h=>by simpa only[RI]using h
 |.str b,v,h=>by simpa only[RI]using h
 |.tup ds,v,h=>by
  simp only[RI]at h ⊢;obtain⟨a,xs,e,q,r⟩:=h;exact⟨a,xs,e,g.sq q,RIs.grow g r⟩
def RIs.grow(g:Grow H H'):∀{i:List I} {v:List V},RIs K H i v->RIs K H' i v
 |[],v,h=>by simpa only[RIs]using h
 |d::ds,v,h=>by
  simp only[RIs]at h ⊢;obtain⟨x,r,e,q,z⟩:=h;exact⟨x,r,e,q.grow g,RIs.grow g z⟩
end
def RH.mut(h:RH K ρ H hd){a:Addr}(m:a∈ρ):(∃xs,H a=some (.lst xs))∨∃kv,H a=some (.dK kv):=by
 obtain⟨n,e⟩:=List.mem_iff_getElem?.mp m;have hn:n<hd.length:=by rw[<- h.len];exact(List.getElem?_eq_some_iff.mp e).1
 obtain⟨ho,e1,e2⟩:=h.ob n hd[n] a (by simp[hn]) e;cases q:hd[n]with
 |lst ds=>rw[q]at e2;obtain⟨xs,rfl,_⟩:=e2;exact .inl ⟨xs,e1⟩
 |dic ds=>rw[q]at e2;obtain⟨xs,rfl,_⟩:=e2;exact .inr ⟨xs,e1⟩
def RH.tup_out(h:RH K ρ H hd){a:Addr}{xs:List V}(e:H a=some (.tup xs)):a∉ρ:=λm=>by
 rcases h.mut m with⟨y,z⟩|⟨y,z⟩<;>(rw[e]at z;cases z)
def RH.frz_out(h:RH K ρ H hd){a:Addr}{o:Obj}{u:HO}(e:H a=some (.frz o u)):a∉ρ:=λm=>by
 rcases h.mut m with⟨y,z⟩|⟨y,z⟩<;>(rw[e]at z;cases z)
def Ext.grow(e:Ext ρ H ρ' H')(h:RH K ρ H hd):Grow H H':=⟨λb xs q=>e.keep b _ q (h.tup_out q) nt,λb o u q=>e.keep b _ q (h.frz_out q) nt⟩
def Ext.refl:Ext ρ H ρ H:=⟨⟨[],by simp,by simp⟩,λ_ _ h _ _=>h,λ_ ps h=>⟨ps,h⟩⟩
def Ext.trans(e:Ext ρ H ρ1 H1)(h0:RH K ρ1 H1 hd1)(e2:Ext ρ1 H1 ρ2 H2):Ext ρ H ρ2 H2:=by
 obtain⟨r1,rfl,f1⟩:=e.pre;obtain⟨r2,rfl,f2⟩:=e2.pre;refine⟨⟨r1++r2,by simp,λb m=>?_⟩,λb o q n t=>?_,λb ps q=>?_⟩
 .rcases mem_append.mp m with m|m
  .exact f1 b m
  .have z:=f2 b m;cases q:H b with
   |none=>rfl
   |some o=>
    by_cases n:b∈ρ
    .rcases h0.mut (mem_append_left r1 n)with⟨y,w⟩|⟨y,w⟩<;>(rw[z]at w;cases w)
    .by_cases t:∃ps,o=.tbl ps
     .obtain⟨ps,rfl⟩:=t;obtain⟨ps',this⟩:=e.tab b ps q;rw[z]at this;cases this
     .have:=e.keep b o q n λps y=>t ⟨ps,y⟩;rw[z]at this;cases this
 .refine e2.keep b o (e.keep b o q n t) (λm=>?_) t;rcases mem_append.mp m with m|m
  .exact n m
  .have:=f1 b m;rw[q]at this;cases this
 .obtain⟨ps',q'⟩:=e.tab b ps q;exact e2.tab b ps' q'
mutual
def RD.mono(g:Grow H H')(r:List Addr):∀{d:D} {v:V},RD K ρ H d v->RD K (ρ++r) H' d v
 |.im i,v,h=>by simp only[RD]at h ⊢;exact h.grow g
 |.mu n,v,h=>by
  simp only[RD]at h ⊢;obtain⟨a,e,q⟩:=h;exact⟨a,by rw[List.getElem?_append_left (List.getElem?_eq_some_iff.mp e).1];exact e,q⟩
 |.tm ds,v,h=>by
  simp only[RD]at h ⊢;obtain⟨a,xs,e,q,z⟩:=h;exact⟨a,xs,e,g.sq q,RDs.mono g r z⟩
 |.ro ns,v,h=>by
  simp only[RD]at h ⊢;obtain⟨a,e,q⟩:=h;exact⟨a,e,q.grow g⟩
def RDs.mono(g:Grow H H')(r:List Addr):∀{d:List D} {v:List V},RDs K ρ H d v->RDs K (ρ++r) H' d v
 |[],v,h=>by simpa only[RDs]using h
 |d::ds,v,h=>by
  simp only[RDs]at h ⊢;obtain⟨x,r',e,q,z⟩:=h;exact⟨x,r',e,q.mono g r,RDs.mono g r z⟩
end
def RKs.mono(g:Grow H H')(r:List Addr):∀{d:List (Key×D)} {v:List (Key×V)},RKs K ρ H d v->RKs K (ρ++r) H' d v
 |[],v,h=>by simpa only[RKs]using h
 |d::ds,v,h=>by
  simp only[RKs]at h ⊢;obtain⟨x,r',e,q1,q,z⟩:=h;exact⟨x,r',e,q1,q.mono g r,RKs.mono g r z⟩
def RC.mono(g:Grow H H')(r:List Addr){o:MO}{ho:HO}(h:RC K ρ H o ho):RC K (ρ++r) H' o ho:=by
 cases o with
 |lst ds=>obtain⟨xs,e,q⟩:=h;exact⟨xs,e,q.mono g r⟩
 |dic ds=>obtain⟨xs,e,q⟩:=h;exact⟨xs,e,q.mono g r⟩
def RD.ext(h:RH K ρ H hd)(e:Ext ρ H ρ' H'){d:D}{v:V}(q:RD K ρ H d v):RD K ρ' H' d v:=by
 obtain⟨r,rfl,_⟩:=e.pre;exact q.mono (e.grow h) r
def RDs.ext(h:RH K ρ H hd)(e:Ext ρ H ρ' H'){d:List D}{v:List V}(q:RDs K ρ H d v):RDs K ρ' H' d v:=by
 obtain⟨r,rfl,_⟩:=e.pre;exact q.mono (e.grow h) r
def RL.ext(h:RH K ρ H hd)(e:Ext ρ H ρ' H'){ls:Ls}{σ:St}(q:RL K ρ H ls σ):RL K ρ' H' ls σ:=
 ⟨q.len,λi d z=>let ⟨v,a,b⟩:=q.ob i d z;⟨v,a,b.ext h e⟩⟩
def RDs.len:∀{ds:List D} {xs:List V},RDs K ρ H ds xs->xs.length=ds.length
 |[],xs,h=>by simp only[RDs]at h;rw[h];rfl
 |d::ds,xs,h=>by
  simp only[RDs]at h;obtain⟨x,r,rfl,_,z⟩:=h;simp[RDs.len z]
def RDs.get:∀{ds:List D} {xs:List V} {i:Nat} {d:D},RDs K ρ H ds xs->ds[i]?=some d->∃x,xs[i]?=some x/\RD K ρ H d x
 |[],xs,i,d,h,e=>by simp at e
 |d::ds,xs,0,e,h,q=>by
  simp only[RDs]at h;obtain⟨x,r,rfl,z,_⟩:=h;simp at q;subst q;exact⟨x,rfl,z⟩
 |d::ds,xs,i+1,e,h,q=>by
  simp only[RDs]at h;obtain⟨x,r,rfl,_,z⟩:=h;obtain⟨y,a,b⟩:=RDs.get (i:=i) z (by simpa using q);exact⟨y,by simpa using a,b⟩
def RDs.nil:RDs K ρ H [] []:=by simp[RDs]
def RDs.cons{d:D}{v:V}{ds:List D}{vs:List V}(h:RD K ρ H d v)(t:RDs K ρ H ds vs):RDs K ρ H (d::ds) (v::vs):=by
 simp only[RDs];exact⟨v,vs,rfl,h,t⟩
def RDs.app:∀{ds es:List D} {xs ys:List V},RDs K ρ H ds xs->RDs K ρ H es ys->RDs K ρ H (ds++es) (xs++ys)
 |[],es,xs,ys,h,t=>by simp only[RDs]at h;subst h;simpa using t
 |d::ds,es,xs,ys,h,t=>by
  simp only[RDs]at h;obtain⟨x,r,rfl,z,q⟩:=h;simp only[cons_append];exact .cons z (q.app t)
def RDs.set:∀{ds:List D} {xs:List V} {d:D} {v:V} (i:Nat),RDs K ρ H ds xs->RD K ρ H d v->RDs K ρ H (ds.set i d) (xs.set i v)
 |[],xs,d,v,i,h,t=>by simp only[RDs]at h;subst h;simp[RDs]
 |d::ds,xs,e,v,0,h,t=>by
  simp only[RDs]at h;obtain⟨x,r,rfl,z,q⟩:=h;simpa using RDs.cons t q
 |d::ds,xs,e,v,i+1,h,t=>by
  simp only[RDs]at h;obtain⟨x,r,rfl,z,q⟩:=h;simpa using RDs.cons z (q.set i t)
def RDs.drop:∀{ds:List D} {xs:List V} (n:Nat),RDs K ρ H ds xs->RDs K ρ H (ds.drop n) (xs.drop n)
 |ds,xs,0,h=>by simpa using h
 |[],xs,n+1,h=>by simp only[RDs]at h;subst h;simp[RDs]
 |d::ds,xs,n+1,h=>by
  simp only[RDs]at h;obtain⟨x,r,rfl,z,q⟩:=h;simpa using q.drop n
def RDs.take:∀{ds:List D} {xs:List V} (n:Nat),RDs K ρ H ds xs->RDs K ρ H (ds.take n) (xs.take n)
 |ds,xs,0,h=>by simp[RDs]
 |[],xs,n+1,h=>by simp only[RDs]at h;subst h;simp[RDs]
 |d::ds,xs,n+1,h=>by
  simp only[RDs]at h;obtain⟨x,r,rfl,z,q⟩:=h;simpa using RDs.cons z (q.take n)
def RIs.ds:∀{is:List I} {xs:List V},RIs K H is xs->RDs K ρ H (is.map D.im) xs
 |[],xs,h=>by simpa only[RIs,RDs,map_nil]using h
 |i::is,xs,h=>by
  simp only[RIs]at h;obtain⟨x,r,rfl,z,q⟩:=h;exact .cons (by simpa only[RD]using z) q.ds
def RDs.is:∀{is:List I} {xs:List V},RDs K ρ H (is.map D.im) xs->RIs K H is xs
 |[],xs,h=>by simpa only[RIs,RDs,map_nil]using h
 |i::is,xs,h=>by
  simp only[map_cons,RDs]at h;obtain⟨x,r,rfl,z,q⟩:=h;simp only[RIs];exact⟨x,r,rfl,by simpa only[RD]using z,q.is⟩
def RH.put(h:RH K ρ H hd){n:Nat}{a:Addr}(hn:ρ[n]?=some a){o:MO}{ho:HO}(c:RC K ρ H o ho):RH K ρ (upd H a ho) (hd.set n o)/\Ext ρ H ρ (upd H a ho):=by
 have ha:=h.mut (mem_of_getElem? hn);have n1:∀ps,H a≠some (.tbl ps):=λps e=>by rcases ha with⟨y,z⟩|⟨y,z⟩<;>(rw[e]at z;cases z)
 have n2:∀φ,H a≠some (.ext φ):=λps e=>by rcases ha with⟨y,z⟩|⟨y,z⟩<;>(rw[e]at z;cases z)
 have ex:Ext ρ H ρ (upd H a ho):=⟨⟨[],by simp,by simp⟩,λb o q m _=>by
  have:b≠a:=λz=>m (by rw[z];exact mem_of_getElem? hn);rw[AZ this];exact q,λb ps q=>⟨ps,(AZ (show b≠a from λz=>n1 ps (by rw[<- z];exact q))).trans q⟩⟩
 have gr:=ex.grow h;refine⟨⟨by simp[h.len],h.nd,h.tabs.upd n1 n2,λm o' b e1 e2=>?_⟩,ex⟩;have hm:m<hd.length:=by rw[<- h.len];exact(List.getElem?_eq_some_iff.mp e2).1
 by_cases hmn:m=n
 .subst hmn;rw[hn]at e2;cases e2;rw[List.getElem?_set_self hm]at e1;cases e1;exact⟨ho,Ag,by simpa using c.mono gr []⟩
 .rw[List.getElem?_set_ne (λz=>hmn z.symm)]at e1;obtain⟨ho',q1,q2⟩:=h.ob m o' b e1 e2;have:b≠a:=λz=>by
   subst z;have l1:=(List.getElem?_eq_some_iff.mp e2).1;have l2:=(List.getElem?_eq_some_iff.mp hn).1;exact hmn ((List.getElem?_inj l1 h.nd).mp (e2.trans hn.symm))
  exact⟨ho',by rw[AZ this];exact q1,by simpa using q2.mono gr []⟩
def RH.lst(h:RH K ρ H hd){n:Nat}{a:Addr}{ds:List D}(hn:ρ[n]?=some a)(e:hd[n]?=some (.lst ds)):∃xs,H a=some (.lst xs)/\RDs K ρ H ds xs:=by
 obtain⟨ho,q,xs,rfl,r⟩:=h.ob n _ a e hn;exact⟨xs,q,r⟩
def RH.dic(h:RH K ρ H hd){n:Nat}{a:Addr}{ds:List (Key×D)}(hn:ρ[n]?=some a)(e:hd[n]?=some (.dic ds)):∃xs,H a=some (.dK xs)/\RKs K ρ H ds xs:=by
 obtain⟨ho,q,xs,rfl,r⟩:=h.ob n _ a e hn;exact⟨xs,q,r⟩
def RH.hid(h:RH K ρ H hd){a:Addr}(ha:H a=none){ho:HO}:RH K ρ (upd H a ho) hd/\Ext ρ H ρ (upd H a ho):=by
 have out:a∉ρ:=λm=>by rcases h.mut m with⟨y,z⟩|⟨y,z⟩<;>(rw[ha]at z;cases z)
 have ex:Ext ρ H ρ (upd H a ho):=⟨⟨[],by simp,by simp⟩,λb o q n _=>by rw[AZ (Au q ha)];exact q,λb ps q=>⟨ps,by rw[AZ (Au q ha)];exact q⟩⟩
 have gr:=ex.grow h;refine⟨⟨h.len,h.nd,h.tabs.upd (by simp[ha]) (by simp[ha]),λm o' b e1 e2=>?_⟩,ex⟩;obtain⟨ho',q1,q2⟩:=h.ob m o' b e1 e2;exact⟨ho',by rw[AZ (Au q1 ha)];exact q1,by simpa using q2.mono gr []⟩
def RH.hput(h:RH K ρ H hd){a:Addr}(out:a∉ρ){xs:List V}{ho:HO}(hl:H a=some (.lst xs)):RH K ρ (upd H a ho) hd:=by
 have gr:Grow H (upd H a ho):=Grow.refl.put (.lst hl);refine⟨h.len,h.nd,h.tabs.upd (by simp[hl]) (by simp[hl]),λm o' b e1 e2=>?_⟩;obtain⟨ho',q1,q2⟩:=h.ob m o' b e1 e2;have:b≠a:=λz=>out (by rw[<- z];exact mem_of_getElem? e2);exact⟨ho',by rw[AZ this];exact q1,by simpa using q2.mono gr []⟩
end
end L2
namespace L2
open PySem PySem.Spec PyProof.Rows
abbrev ME:=Ls->Hd->Option (D×Hd)
abbrev MT:=Ls->Hd->Option (Bool×Hd)
abbrev MA:=Ls->Hd->Option (List D×Hd)
inductive Fl where
 |nx (ls:Ls)|rt (d:D)|bk (ls:Ls)|ct (ls:Ls)
abbrev MS:=Ls->Hd->Option (Fl×Hd)
section
variable(K:PySem.W.Frag)
def RE(t:TE)(m:ME):Prop:=∀(ρ:List Addr) (σ:St) (H:Hp) (hd:Hd) (ls:Ls) (Q:VK) (d:D) (hd':Hd),RH K ρ H hd->RL K ρ H ls σ->m ls hd=some (d,hd') ->
 (∀ρ' H' v,Ext ρ H ρ' H'->RH K ρ' H' hd'->RD K ρ' H' d v->Q v H')->t σ H Q
def RT(t:TT)(m:MT):Prop:=∀(ρ:List Addr) (σ:St) (H:Hp) (hd:Hd) (ls:Ls) (Q:Bool->Hp->Prop) (d:Bool) (hd':Hd),RH K ρ H hd->RL K ρ H ls σ->m ls hd=some (d,hd') ->
 (∀ρ' H',Ext ρ H ρ' H'->RH K ρ' H' hd'->Q d H')->t σ H Q
def RA(t:TA)(m:MA):Prop:=∀(ρ:List Addr) (σ:St) (H:Hp) (hd:Hd) (ls:Ls) (Q:List V->Hp->Prop) (d:List D) (hd':Hd),RH K ρ H hd->RL K ρ H ls σ->m ls hd=some (d,hd') ->
 (∀ρ' H' v,Ext ρ H ρ' H'->RH K ρ' H' hd'->RDs K ρ' H' d v->Q v H')->t σ H Q
def RN(t:TE)(m:MA):Prop:=∀(ρ:List Addr) (σ:St) (H:Hp) (hd:Hd) (ls:Ls) (Q:VK) (d:List D) (hd':Hd),RH K ρ H hd->RL K ρ H ls σ->m ls hd=some (d,hd') ->
 (∀ρ' H' a xs,Ext ρ H ρ' H'->RH K ρ' H' hd'->H a=none->a∉ρ'->H' a=some (.lst xs)->RDs K ρ' H' d xs->Q (.ref a) H')->t σ H Q
def YS(E:Ends)(ρ:List Addr)(H:Hp):Fl->Prop
 |.nx ls=>∀σ,RL K ρ H ls σ->E.nx σ H
 |.bk ls=>∀σ,RL K ρ H ls σ->E.bk σ H
 |.ct ls=>∀σ,RL K ρ H ls σ->E.ct σ H
 |.rt d=>∀v,RD K ρ H d v->E.rt v H
def RS(t:TS)(m:MS):Prop:=∀(ρ:List Addr) (σ:St) (H:Hp) (hd:Hd) (ls:Ls) (E:Ends) (f:Fl) (hd':Hd),RH K ρ H hd->RL K ρ H ls σ->m ls hd=some (f,hd') ->
 (∀ρ' H',Ext ρ H ρ' H'->RH K ρ' H' hd'->YS K E ρ' H' f)->t E σ H
def RB(r:R2)(f:D->D->Hd->Option (D×Hd)):Prop:=∀(ρ:List Addr) (H:Hp) (hd:Hd) (d e:D) (v u:V) (Q:VK) (z:D) (hd':Hd),RH K ρ H hd->RD K ρ H d v->RD K ρ H e u->f d e hd=some (z,hd') ->
 (∀ρ' H' w,Ext ρ H ρ' H'->RH K ρ' H' hd'->RD K ρ' H' z w->Q w H')->r v u H Q
def RF(r:List V->Hp->VK->Prop)(f:List D->Hd->Option (D×Hd)):Prop:=∀(ρ:List Addr) (H:Hp) (hd:Hd) (ds:List D) (vs:List V) (Q:VK) (z:D) (hd':Hd),RH K ρ H hd->RDs K ρ H ds vs->f ds hd=some (z,hd') ->
 (∀ρ' H' w,Ext ρ H ρ' H'->RH K ρ' H' hd'->RD K ρ' H' z w->Q w H')->r vs H Q
def RG(tp:Bool)(r:List V->Hp->VK->Prop)(g:List D->Option D):Prop:=∀(ρ:List Addr) (H:Hp) (hd:Hd) (a:Addr) (xs:List V) (ds:List D) (Q:VK) (z:D),RH K ρ H hd->(SqL K H a xs∨(tp=true/\SqT K H a xs))->RDs K ρ H ds xs->g ds=some z ->
 (∀H' w,Ext ρ H ρ H'->RH K ρ H' hd->RD K ρ H' z w->Q w H')->r [.ref a] H Q
end
structure QE(K:PySem.W.Frag)(X:Cx)(e:Expr)(t:TE)(m:ME):Prop where
 p:PE X e t
 r:RE K t m
structure QT(K:PySem.W.Frag)(X:Cx)(e:Expr)(t:TT)(m:MT):Prop where
 p:PT X e t
 r:RT K t m
structure QW(K:PySem.W.Frag)(X:Cx)(e:Expr)(t:TT)(m:MT):Prop where
 p:PW X e t
 r:RT K t m
structure QA(K:PySem.W.Frag)(X:Cx)(e:List Expr)(t:TA)(m:MA):Prop where
 p:PA X e t
 r:RA K t m
structure QN(K:PySem.W.Frag)(X:Cx)(e:Expr)(t:TE)(m:MA):Prop where
 p:PE X e t
 r:RN K t m
structure QS(K:PySem.W.Frag)(X:Cx)(e:Stmt)(t:TS)(m:MS):Prop where
 p:PS X e t
 r:RS K t m
structure QSs(K:PySem.W.Frag)(X:Cx)(e:List Stmt)(t:TS)(m:MS):Prop where
 p:PSs X e t
 r:RS K t m
def AR:D->Option (List D)
 |.im (.tup is)=>some (is.map .im)
 |.tm ds=>some ds
 |_=>none
def B7(hd:Hd):D->Option (List D)
 |.mu n=>match hd[n]? with
  |some (.lst ds)=>some ds
  |_=>none
 |.ro ns=>some (ns.map λn=>.im (.int n))
 |_=>none
def BL(hd:Hd)(d:D):Option (List D):=match AR d with
 |some ds=>some ds
 |none=>B7 hd d
def BP:List D->Option (List I)
 |[]=>some []
 |.im i::r=>(BP r).map (i::·)
 |_::_=>none
def AK(ds:List D):D:=match BP ds with
 |some is=>.im (.tup is)
 |none=>.tm ds
def Bb:List D->Option (List Int)
 |[]=>some []
 |.im (.int i)::r=>(Bb r).map (i::·)
 |_::_=>none
def Cf:List D->Option (List Bool)
 |[]=>some []
 |.im (.bl i)::r=>(Cf r).map (i::·)
 |_::_=>none
section
variable{K:PySem.W.Frag}{ρ ρ':List Addr}{H H':Hp}{hd hd':Hd}
def DI:∀{ds:List D} {is:List I},BP ds=some is->ds=is.map .im
 |[],is,h=>by simp[BP]at h;subst h;rfl
 |.im i::r,is,h=>by
  simp only[BP,Option.map_eq_some_iff]at h;obtain⟨js,e,rfl⟩:=h;simp[DI e]
 |.mu _::_,is,h=>by simp[BP]at h
 |.tm _::_,is,h=>by simp[BP]at h
 |.ro _::_,is,h=>by simp[BP]at h
def He:∀{ds:List D} {is:List Int},Bb ds=some is->ds=is.map λi=>.im (.int i)
 |[],is,h=>by simp[Bb]at h;subst h;rfl
 |.im (.int i)::r,is,h=>by
  simp only[Bb,Option.map_eq_some_iff]at h;obtain⟨js,e,rfl⟩:=h;simp[He e]
 |.im (.bl _)::_,is,h=>by simp[Bb]at h
 |.im (.str _)::_,is,h=>by simp[Bb]at h
 |.im .non::_,is,h=>by simp[Bb]at h
 |.im (.tup _)::_,is,h=>by simp[Bb]at h
 |.mu _::_,is,h=>by simp[Bb]at h
 |.tm _::_,is,h=>by simp[Bb]at h
 |.ro _::_,is,h=>by simp[Bb]at h
def M7:∀{ds:List D} {is:List Bool},Cf ds=some is->ds=is.map λi=>.im (.bl i)
 |[],is,h=>by simp[Cf]at h;subst h;rfl
 |.im (.bl i)::r,is,h=>by
  simp only[Cf,Option.map_eq_some_iff]at h;obtain⟨js,e,rfl⟩:=h;simp[M7 e]
 |.im (.int _)::_,is,h=>by simp[Cf]at h
 |.im (.str _)::_,is,h=>by simp[Cf]at h
 |.im .non::_,is,h=>by simp[Cf]at h
 |.im (.tup _)::_,is,h=>by simp[Cf]at h
 |.mu _::_,is,h=>by simp[Cf]at h
 |.tm _::_,is,h=>by simp[Cf]at h
 |.ro _::_,is,h=>by simp[Cf]at h
@[simp] theorem Ol(is:List I):BP (is.map .im)=some is:=by induction is<;>simp_all [BP]
@[simp] theorem JR(is:List Int):Bb (is.map λi=>.im (.int i))=some is:=by induction is<;>simp_all [Bb]
@[simp] theorem Fr(is:List Bool):Cf (is.map λi=>.im (.bl i))=some is:=by induction is<;>simp_all [Cf]
def Ir:∀{ns:List Int} {xs:List V},RDs K ρ H (ns.map λi=>.im (.int i)) xs->xs=ns.map V.int
 |[],xs,h=>by simpa [RDs]using h
 |n::ns,xs,h=>by
  simp only[map_cons,RDs,RD,RI]at h;obtain⟨x,r,rfl,rfl,z⟩:=h;rw[Ir z];rfl
def FP:∀{ns:List Int},RDs K ρ H (ns.map λi=>.im (.int i)) (ns.map V.int)
 |[]=>by simp[RDs]
 |n::ns=>by simp only[map_cons];exact .cons (by simp[RD,RI]) FP
def Ny:∀{ns:List Bool} {xs:List V},RDs K ρ H (ns.map λi=>.im (.bl i)) xs->xs=ns.map V.bl
 |[],xs,h=>by simpa [RDs]using h
 |n::ns,xs,h=>by
  simp only[map_cons,RDs,RD,RI]at h;obtain⟨x,r,rfl,rfl,z⟩:=h;rw[Ny z];rfl
def RD.tup{d:D}{v:V}{ds:List D}(h:RD K ρ H d v)(e:AR d=some ds):∃a xs,v=.ref a/\SqT K H a xs/\RDs K ρ H ds xs:=by
 cases d with
 |im i=>
  cases i with
  |tup is=>
   simp only[AR,Option.some.injEq]at e;subst e;simp only[RD,RI]at h;obtain⟨a,xs,rfl,q,r⟩:=h;exact⟨a,xs,rfl,q,r.ds⟩
  |_=>simp[AR]at e
 |tm es=>
  simp only[AR,Option.some.injEq]at e;subst e;simpa only[RD]using h
 |_=>simp[AR]at e
def RD.lst{d:D}{v:V}{ds:List D}(hR:RH K ρ H hd)(h:RD K ρ H d v)(e:B7 hd d=some ds):∃a xs,v=.ref a/\SqL K H a xs/\RDs K ρ H ds xs:=by
 cases d with
 |mu n=>
  simp only[B7]at e;simp only[RD]at h;obtain⟨a,hn,rfl⟩:=h;split at e
  .next q=>
   cases e;obtain⟨xs,e1,e2⟩:=hR.lst hn q;exact⟨a,xs,rfl,SqL.of e1,e2⟩
  .cases e
 |ro ns=>
  simp only[B7,Option.some.injEq]at e;subst e;simp only[RD]at h;obtain⟨a,rfl,q⟩:=h;exact⟨a,_,rfl,q.sq,FP⟩
 |_=>simp[B7]at e
def RD.seq{d:D}{v:V}{ds:List D}(hR:RH K ρ H hd)(h:RD K ρ H d v)(e:BL hd d=some ds):∃a xs,v=.ref a/\(SqL K H a xs∨SqT K H a xs)/\RDs K ρ H ds xs:=by
 unfold BL at e;split at e
 .next q=>
  cases e;obtain⟨a,xs,e1,e2,e3⟩:=h.tup q;exact⟨a,xs,e1,.inr e2,e3⟩
 .obtain⟨a,xs,e1,e2,e3⟩:=h.lst hR e;exact⟨a,xs,e1,.inl e2,e3⟩
def BZ{ds:List D}{a:Addr}{xs:List V}(q:SqT K H a xs)(r:RDs K ρ H ds xs):RD K ρ H (AK ds) (.ref a):=by
 unfold AK;split
 .next e=>
  rw[DI e]at r;simp only[RD,RI];exact⟨a,xs,rfl,q,r.is⟩
 .simp only[RD];exact⟨a,xs,rfl,q,r⟩
@[simp] theorem AD(ds:List D):AR (AK ds)=some ds:=by
 unfold AK;split
 .next e=>simp[AR,DI e]
 .rfl
def A4(i:Nat):ME:=λls hd=>match ls[i]? with
 |some (some d)=>some (d,hd)
 |_=>none
def Uz{i:Nat}:RE K (P1 i) (A4 i):=by
 and_intros;unfold A4 at hm;split at hm
 .next e=>
  cases hm;obtain⟨v,e1,e2⟩:=hL.ob i _ e;exact⟨v,e1,hQ ρ H v .refl hR e2⟩
 .cases hm
def mC(i:I):ME:=λ_ hd=>some (.im i,hd)
def Ml{v:V}{i:I}(h:∀H,RI K H i v):RE K (tC v) (mC i):=by
 and_intros;cases hm;exact hQ ρ H v .refl hR (by simpa only[RD]using h H)
def mOp(f:D->D->Hd->Option (D×Hd))(ma mb:ME):ME:=λls hd=>(ma ls hd).bind λp=>(mb ls p.2).bind λq=>f p.1 q.1 q.2
def Jv{r:R2}{f:D->D->Hd->Option (D×Hd)}{ta tb:TE}{ma mb:ME}(hr:RB K r f)(ha:RE K ta ma)(hb:RE K tb mb):RE K (tOp r ta tb) (mOp f ma mb):=by
 and_intros;obtain⟨⟨d1,h1⟩,e1,hm⟩:=ac hm;obtain⟨⟨d2,h2⟩,e2,hm⟩:=ac hm;refine ha ρ σ H hd ls _ d1 h1 hR hL e1 λρ1 H1 v1 x1 R1 r1=>?_;refine hb ρ1 σ H1 h1 ls _ d2 h2 R1 (hL.ext hR x1) e2 λρ2 H2 v2 x2 R2 r2=>?_;exact hr ρ2 H2 h2 d1 d2 v1 v2 Q d hd' R2 (r1.ext R1 x2) r2 hm λρ' H' w x3 R3 r3=>hQ ρ' H' w ((x1.trans R1 x2).trans R2 x3) R3 r3
def Eg(ta tb:MT):MT:=λls hd=>(ta ls hd).bind λp=>if p.1=true then tb ls p.2 else some (false,p.2)
def mOr(ta tb:MT):MT:=λls hd=>(ta ls hd).bind λp=>if p.1=true then some (true,p.2)else tb ls p.2
def Bf(ta:MT):MT:=λls hd=>(ta ls hd).bind λp=>some (!p.1,p.2)
def Ui{ta tb:TT}{ma mb:MT}(ha:RT K ta ma)(hb:RT K tb mb):RT K (PL ta tb) (Eg ma mb):=by
 and_intros;obtain⟨⟨d1,h1⟩,e1,hm⟩:=ac hm;refine ha ρ σ H hd ls _ d1 h1 hR hL e1 λρ1 H1 x1 R1=>?_;cases d1 with
 |true=>
  rw[if_pos rfl]at hm ⊢;exact hb ρ1 σ H1 h1 ls Q d hd' R1 (hL.ext hR x1) hm λρ2 H2 x2 R2=>hQ ρ2 H2 (x1.trans R1 x2) R2
 |false=>
  rw[if_neg Bool.false_ne_true]at hm ⊢;cases hm;exact hQ ρ1 H1 x1 R1
def Xe{ta tb:TT}{ma mb:MT}(ha:RT K ta ma)(hb:RT K tb mb):RT K (tOr ta tb) (mOr ma mb):=by
 and_intros;obtain⟨⟨d1,h1⟩,e1,hm⟩:=ac hm;refine ha ρ σ H hd ls _ d1 h1 hR hL e1 λρ1 H1 x1 R1=>?_;cases d1 with
 |true=>
  rw[if_pos rfl]at hm ⊢;cases hm;exact hQ ρ1 H1 x1 R1
 |false=>
  rw[if_neg Bool.false_ne_true]at hm ⊢;exact hb ρ1 σ H1 h1 ls Q d hd' R1 (hL.ext hR x1) hm λρ2 H2 x2 R2=>hQ ρ2 H2 (x1.trans R1 x2) R2
def Uh{ta:TT}{ma:MT}(ha:RT K ta ma):RT K (P7 ta) (Bf ma):=by
 and_intros;obtain⟨⟨d1,h1⟩,e1,hm⟩:=ac hm;cases hm;exact ha ρ σ H hd ls _ d1 h1 hR hL e1 λρ1 H1 x1 R1=>hQ ρ1 H1 x1 R1
open Classical in
def E3(hd:Hd):D->Option Bool
 |.im .non=>some false
 |.im (.bl b)=>some b
 |.im (.int i)=>some (i != 0)
 |.im (.str x)=>if Bh x.length then some ((x.length:Int) != 0)else none
 |.im (.tup is)=>some (!is.isEmpty)
 |.tm is=>some (!is.isEmpty)
 |.ro ns=>some (!ns.isEmpty)
 |.mu n=>match hd[n]? with
  |some (.lst ds)=>some (!ds.isEmpty)
  |some (.dic ds)=>some (!ds.isEmpty)
  |none=>none
def Cy{α β:Type}{xs:List α}{ys:List β}(h:xs.length=ys.length):xs.isEmpty=ys.isEmpty:=by
 cases xs<;>cases ys<;>simp_all
def RKs.len:∀{ds:List (Key×D)} {xs:List (Key×V)},RKs K ρ H ds xs->xs.length=ds.length
 |[],xs,h=>by simp only[RKs]at h;rw[h];rfl
 |d::ds,xs,h=>by
  simp only[RKs]at h;obtain⟨x,r,rfl,_,_,z⟩:=h;simp[RKs.len z]
def Rm{d:D}{v:V}{b:Bool}(hR:RH K ρ H hd)(h:RD K ρ H d v)(e:E3 hd d=some b):LF K v H b:=by
 cases d with
 |im i=>
  cases i with
  |non=>simp only[RD,RI]at h;subst h;simp only[E3,Option.some.injEq]at e;subst e;exact rfl
  |bl c=>simp only[RD,RI]at h;subst h;simp only[E3,Option.some.injEq]at e;subst e;exact rfl
  |int c=>simp only[RD,RI]at h;subst h;simp only[E3,Option.some.injEq]at e;subst e;exact rfl
  |str c=>
   simp only[RD,RI]at h;subst h;simp only[E3]at e;split at e
   .next z=>cases e;exact⟨z,rfl⟩
   .cases e
  |tup is=>
   obtain⟨a,xs,rfl,q,r⟩:=h.tup (ds:=is.map .im) rfl;simp only[E3,Option.some.injEq]at e;subst e;exact .inr (.inl ⟨xs,q,by rw[Cy (show xs.length=is.length by simpa using r.len)]⟩)
 |tm ds=>
  obtain⟨a,xs,rfl,q,r⟩:=h.tup (ds:=ds) rfl;simp only[E3,Option.some.injEq]at e;subst e;exact .inr (.inl ⟨xs,q,by rw[Cy r.len]⟩)
 |ro ns=>
  obtain⟨a,xs,rfl,q,r⟩:=h.lst hR (hd:=hd) (ds:=ns.map λn=>.im (.int n)) rfl;simp only[E3,Option.some.injEq]at e;subst e;exact .inl ⟨xs,q,by rw[Cy (show xs.length=ns.length by simpa using r.len)]⟩
 |mu n=>
  simp only[RD]at h;obtain⟨a,hn,rfl⟩:=h;simp only[E3]at e;split at e
  .next q=>
   cases e;obtain⟨xs,e1,e2⟩:=hR.lst hn q;exact .inl ⟨xs,SqL.of e1,by rw[Cy e2.len]⟩
  .next q=>
   cases e;obtain⟨xs,e1,e2⟩:=hR.dic hn q;exact .inr (.inr ⟨xs,e1,by rw[Cy e2.len]⟩)
  .cases e
def BE(ma:ME):MT:=λls hd=>(ma ls hd).bind λp=>(E3 p.2 p.1).map (·,p.2)
def PV{ta:TE}{ma:ME}(ha:RE K ta ma):RT K (λσ H Q=>ta σ H λx H'=>∃k,LF K x H' k/\Q k H') (BE ma):=by
 and_intros;obtain⟨⟨d1,h1⟩,e1,hm⟩:=ac hm;obtain⟨b,e2,e3⟩:=ad hm;cases e3;exact ha ρ σ H hd ls _ d1 h1 hR hL e1 λρ1 H1 v x1 R1 r1=>⟨_,Rm R1 r1 e2,hQ ρ1 H1 x1 R1⟩
def AI(ma:ME):MT:=λls hd=>(ma ls hd).bind λp=>match p.1 with
 |.im (.bl b)=>some (b,p.2)
 |_=>none
def EM{ta:TE}{ma:ME}(ha:RE K ta ma):RT K (Jt ta) (AI ma):=by
 and_intros;obtain⟨⟨d1,h1⟩,e1,hm⟩:=ac hm;dsimp only at hm;split at hm
 .cases hm;exact ha ρ σ H hd ls _ _ _ hR hL e1 λρ1 H1 v x1 R1 r1=>⟨_,by simpa only[RD,RI]using r1,hQ ρ1 H1 x1 R1⟩
 .cases hm
def Yh{ta:TE}{ma:ME}(ha:RE K ta ma):RT K (tB ta) (AI ma):=EM ha
def mIf(c:MT)(ma mb:ME):ME:=λls hd=>(c ls hd).bind λp=>if p.1=true then ma ls p.2 else mb ls p.2
def Xj{tc:TT}{c:MT}{ta tb:TE}{ma mb:ME}(hc:RT K tc c)(ha:RE K ta ma)(hb:RE K tb mb):RE K (tIf tc ta tb) (mIf c ma mb):=by
 and_intros;obtain⟨⟨d1,h1⟩,e1,hm⟩:=ac hm;refine hc ρ σ H hd ls _ d1 h1 hR hL e1 λρ1 H1 x1 R1=>?_;cases d1 with
 |true=>
  rw[if_pos rfl]at hm ⊢;exact ha ρ1 σ H1 h1 ls Q d hd' R1 (hL.ext hR x1) hm λρ2 H2 v x2 R2 r2=>hQ ρ2 H2 v (x1.trans R1 x2) R2 r2
 |false=>
  rw[if_neg Bool.false_ne_true]at hm ⊢;exact hb ρ1 σ H1 h1 ls Q d hd' R1 (hL.ext hR x1) hm λρ2 H2 v x2 R2 r2=>hQ ρ2 H2 v (x1.trans R1 x2) R2 r2
def B1(ma mb:ME):ME:=λls hd=>(AI ma ls hd).bind λp=>if p.1=true then mb ls p.2 else some (.im (.bl false),p.2)
def J1(ma mb:ME):ME:=λls hd=>(AI ma ls hd).bind λp=>if p.1=true then some (.im (.bl true),p.2)else mb ls p.2
def EE(ma:ME):ME:=λls hd=>(AI ma ls hd).bind λp=>some (.im (.bl (!p.1)),p.2)
def SS{ta tb:TE}{ma mb:ME}(ha:RE K ta ma)(hb:RE K tb mb):RE K (Mc ta tb) (B1 ma mb):=by
 and_intros;obtain⟨⟨d1,h1⟩,e1,hm⟩:=ac hm;refine EM ha ρ σ H hd ls (λc H1=>if c=true then tb σ H1 Q else Q (.bl false) H1) d1 h1 hR hL e1 λρ1 H1 x1 R1=>?_;cases d1 with
 |true=>
  rw[if_pos rfl]at hm ⊢;exact hb ρ1 σ H1 h1 ls Q d hd' R1 (hL.ext hR x1) hm λρ2 H2 v x2 R2 r2=>hQ ρ2 H2 v (x1.trans R1 x2) R2 r2
 |false=>
  rw[if_neg Bool.false_ne_true]at hm ⊢;cases hm;exact hQ ρ1 H1 _ x1 R1 (by simp[RD,RI])
def V5{ta tb:TE}{ma mb:ME}(ha:RE K ta ma)(hb:RE K tb mb):RE K (P6 ta tb) (J1 ma mb):=by
 and_intros;obtain⟨⟨d1,h1⟩,e1,hm⟩:=ac hm;refine EM ha ρ σ H hd ls (λc H1=>if c=true then Q (.bl true) H1 else tb σ H1 Q) d1 h1 hR hL e1 λρ1 H1 x1 R1=>?_;cases d1 with
 |true=>
  rw[if_pos rfl]at hm ⊢;cases hm;exact hQ ρ1 H1 _ x1 R1 (by simp[RD,RI])
 |false=>
  rw[if_neg Bool.false_ne_true]at hm ⊢;exact hb ρ1 σ H1 h1 ls Q d hd' R1 (hL.ext hR x1) hm λρ2 H2 v x2 R2 r2=>hQ ρ2 H2 v (x1.trans R1 x2) R2 r2
def SN{ta:TE}{ma:ME}(ha:RE K ta ma):RE K (MX ta) (EE ma):=by
 and_intros;obtain⟨⟨d1,h1⟩,e1,hm⟩:=ac hm;cases hm;exact EM ha ρ σ H hd ls (λc H1=>Q (.bl (!c)) H1) d1 h1 hR hL e1 λρ1 H1 x1 R1=>hQ ρ1 H1 _ x1 R1 (by simp[RD,RI])
def A6:MA:=λ_ hd=>some ([],hd)
def A0(ma:ME)(mr:MA):MA:=λls hd=>(ma ls hd).bind λp=>(mr ls p.2).bind λq=>some (p.1::q.1,q.2)
def VI:RA K DP A6:=by
 and_intros;cases hm;exact hQ ρ H [] .refl hR .nil
def SX{ta:TE}{tr:TA}{ma:ME}{mr:MA}(ha:RE K ta ma)(hr:RA K tr mr):RA K (C8 ta tr) (A0 ma mr):=by
 and_intros;obtain⟨⟨d1,h1⟩,e1,hm⟩:=ac hm;obtain⟨⟨d2,h2⟩,e2,hm⟩:=ac hm;cases hm;refine ha ρ σ H hd ls _ d1 h1 hR hL e1 λρ1 H1 v1 x1 R1 r1=>?_;exact hr ρ1 σ H1 h1 ls _ d2 _ R1 (hL.ext hR x1) e2 λρ2 H2 v2 x2 R2 r2=>hQ ρ2 H2 _ (x1.trans R1 x2) R2 (.cons (r1.ext R1 x2) r2)
open Classical in
def AL(ma:MA):ME:=λls hd=>(ma ls hd).bind λp=>if Bh p.1.length then some (AK p.1,p.2)else none
def V1{t:TA}{m:MA}(h:RA K t m):RE K (P2 t) (AL m):=by
 and_intros;obtain⟨⟨d1,h1⟩,e1,hm⟩:=ac hm;dsimp only at hm;split at hm
 .next z=>
  cases hm;refine h ρ σ H hd ls _ d1 _ hR hL e1 λρ1 H1 v1 x1 R1 r1=>⟨by rw[r1.len];exact z,λp hp=>?_⟩
  obtain⟨R2,x2⟩:=R1.hid (ho:=.tup v1) hp;exact hQ ρ1 _ _ (x1.trans R1 x2) R2 (BZ (SqT.of Ag) (r1.ext R1 x2))
 .cases hm
open Classical in
def Aq(ma:MA):MA:=λls hd=>(ma ls hd).bind λp=>if Bh p.1.length then some (p.1,p.2)else none
def RH.out(hR:RH K ρ H hd){a:Addr}(h:H a=none):a∉ρ:=λm=>by rcases hR.mut m with⟨y,z⟩|⟨y,z⟩<;>(rw[h]at z;cases z)
def Ext.none(e:Ext ρ H ρ' H')(hR:RH K ρ H hd){a:Addr}(h:H' a=none)(hR':RH K ρ' H' hd'):H a=none:=by
 cases q:H a with
 |none=>rfl
 |some o=>
  by_cases m:a∈ρ
  .obtain⟨r,rfl,_⟩:=e.pre;exact absurd (mem_append_left r m) (hR'.out h)
  .by_cases t:∃ps,o=.tbl ps
   .obtain⟨ps,rfl⟩:=t;obtain⟨ps',this⟩:=e.tab a ps q;rw[h]at this;cases this
   .rw[e.keep a o q m λps y=>t ⟨ps,y⟩]at h;cases h
def Ur{t:TA}{m:MA}(h:RA K t m):RN K (P8 t) (Aq m):=by
 and_intros;obtain⟨⟨d1,h1⟩,e1,hm⟩:=ac hm;dsimp only at hm;split at hm
 .next z=>
  cases hm;refine h ρ σ H hd ls _ _ _ hR hL e1 λρ1 H1 v1 x1 R1 r1=>⟨by rw[r1.len];exact z,λp hp=>?_⟩
  obtain⟨R2,x2⟩:=R1.hid (ho:=.lst v1) hp;exact hQ ρ1 _ p v1 (x1.trans R1 x2) R2 (x1.none hR hp R1) (R1.out hp) Ag (r1.ext R1 x2)
 .cases hm
def Ad(ml:MA):ME:=λls hd=>(ml ls hd).bind λp=>some (.mu p.2.length,p.2++[.lst p.1])
def RH.name(hR:RH K ρ H hd){a:Addr}{xs:List V}{ds:List D}(out:a∉ρ)(e:H a=some (.lst xs))(r:RDs K ρ H ds xs):RH K (ρ++[a]) H (hd++[.lst ds]):=by
 have mono:∀{o:MO} {ho:HO},RC K ρ H o ho->RC K (ρ++[a]) H o ho:=λc=>c.mono Grow.refl [a];refine⟨by simp[hR.len],?_,hR.tabs,λn o' b e1 e2=>?_⟩
 .rw[List.nodup_append];refine⟨hR.nd,by simp,λx hx y hy z=>?_⟩;simp at hy;subst hy;subst z;exact out hx
 .by_cases hn:n<ρ.length
  .rw[List.getElem?_append_left hn]at e2;rw[List.getElem?_append_left (by rw[<- hR.len];exact hn)]at e1;obtain⟨ho',q1,q2⟩:=hR.ob n o' b e1 e2;exact⟨ho',q1,mono q2⟩
  .have hn':n=ρ.length:=by
    have:=(List.getElem?_eq_some_iff.mp e2).1;simp at this;omega
   subst hn';simp at e2;rw[hR.len]at e1;simp at e1;subst e1;subst e2;exact⟨_,e,mono ⟨xs,rfl,r⟩⟩
def Ext.name(e:Ext ρ H ρ' H'){a:Addr}(h:H a=Option.none):Ext ρ H (ρ'++[a]) H':=by
 obtain⟨r,rfl,f⟩:=e.pre;refine⟨⟨r++[a],by simp,λb m=>?_⟩,e.keep,e.tab⟩;rcases mem_append.mp m with m|m
 .exact f b m
 .simp at m;subst m;exact h
def Nw{t:TE}{m:MA}(h:RN K t m):RE K t (Ad m):=by
 and_intros;obtain⟨⟨d1,h1⟩,e1,hm⟩:=ac hm;cases hm;refine h ρ σ H hd ls Q d1 h1 hR hL e1 λρ1 H1 a xs x1 R1 na oa ea r1=>?_;refine hQ (ρ1++[a]) H1 _ (x1.name na) (R1.name oa ea r1) ?_;simp only[RD];exact⟨a,by rw[<- R1.len];simp,rfl⟩
end
section
variable{K:PySem.W.Frag}{ρ ρ':List Addr}{H H':Hp}{hd hd':Hd}
def fI(g:Int->Int->Option I):D->D->Hd->Option (D×Hd)
 |.im (.int i),.im (.int j),hd=>(g i j).map (.im ·,hd)
 |_,_,_=>none
def Mm{C:Int->Int->Prop}{g:Int->Int->V}{f:Int->Int->Option I}(h:∀i j z,f i j=some z->C i j/\∀H,RI K H z (g i j)):RB K (rI C g) (fI f):=by
 intro ρ H hd d e v u Q z hd' hR h1 h2 hf hQ;unfold fI at hf;split at hf
 .simp only[RD,RI]at h1 h2;subst h1 h2;obtain⟨w,e1,e2⟩:=ad hf;cases e2;obtain⟨c,r⟩:=h _ _ _ e1;exact⟨_,_,rfl,rfl,c,hQ ρ H _ .refl hR (by simpa only[RD]using r H)⟩
 .cases hf
def Gf{g:Int->Int->V}{f:Int->Int->I}(h:∀i j H,RI K H (f i j) (g i j)):RB K (rI0 g) (fI λi j=>some (f i j)):=by
 intro ρ H hd d e v u Q z hd' hR h1 h2 hf hQ;unfold fI at hf;split at hf
 .simp only[RD,RI]at h1 h2;subst h1 h2;cases hf;exact⟨_,_,rfl,rfl,hQ ρ H _ .refl hR (by simpa only[RD]using h _ _ H)⟩
 .cases hf
def CK(f g:D->D->Hd->Option (D×Hd)):D->D->Hd->Option (D×Hd):=λd e hd=>match f d e hd with
 |some z=>some z
 |none=>g d e hd
def EN{r r':R2}{f g:D->D->Hd->Option (D×Hd)}(h:RB K r f)(h':RB K r' g):RB K (λx y H Q=>r x y H Q∨r' x y H Q) (CK f g):=by
 intro ρ H hd d e v u Q z hd' hR h1 h2 hf hQ;unfold CK at hf;split at hf
 .next q=>cases hf;exact .inl (h ρ H hd d e v u Q z hd' hR h1 h2 q hQ)
 .exact .inr (h' ρ H hd d e v u Q z hd' hR h1 h2 hf hQ)
abbrev Ks:D->D->Hd->Option (D×Hd):=fI λi j=>some (.int (i+j))
abbrev CI:D->D->Hd->Option (D×Hd):=fI λi j=>some (.int (i-j))
def O2:RB K (rI0 λi j=>.int (i+j)) Ks:=Gf λ_ _ _=>by simp[RI]
def VB:RB K (rI0 λi j=>.int (i-j)) CI:=Gf λ_ _ _=>by simp[RI]
open Classical in
abbrev DY:D->D->Hd->Option (D×Hd):=fI λi j=>if Ex i j then some (.int (i*j))else none
def VG:RB K (rI CMul λi j=>.int (i*j)) DY:=Mm λi j z h=>by
 split at h
 .next q=>cases h;exact⟨q,λ_=>by simp[RI]⟩
 .cases h
open Classical in
abbrev CV:D->D->Hd->Option (D×Hd):=fI λi j=>if D9 j then some (.int (i%j))else none
def VH:RB K (rI (λ_ j=>0<j) λi j=>.int (i%j)) CV:=Mm λi j z h=>by
 split at h
 .next q=>cases h;exact⟨q,λ_=>by simp[RI]⟩
 .cases h
open Classical in
abbrev Ey:D->D->Hd->Option (D×Hd):=fI λi j=>if K2 j then some (.int (i/j))else none
def SU:RB K (rI XX λi j=>.int (i/j)) Ey:=Mm λi j z h=>by
 split at h
 .next q=>cases h;exact⟨q,λ_=>by simp[RI]⟩
 .cases h
open Classical in
abbrev GM:D->D->Hd->Option (D×Hd):=fI λi j=>if Jy i j then some (.int (i^j.toNat))else none
def VC:RB K (rI XW λi j=>.int (i^j.toNat)) GM:=Mm λi j z h=>by
 split at h
 .next q=>cases h;exact⟨q,λ_=>by simp[RI]⟩
 .cases h
abbrev gLt:D->D->Hd->Option (D×Hd):=fI λi j=>some (.bl (decide (i<j)))
abbrev gLe:D->D->Hd->Option (D×Hd):=fI λi j=>some (.bl (decide (i<=j)))
abbrev gGt:D->D->Hd->Option (D×Hd):=fI λi j=>some (.bl (decide (j<i)))
abbrev gGe:D->D->Hd->Option (D×Hd):=fI λi j=>some (.bl (decide (j<=i)))
def Qr:RB K (rI0 λi j=>.bl (decide (i<j))) gLt:=Gf λ_ _ _=>by simp[RI]
def Xk:RB K (rI0 λi j=>.bl (decide (i<=j))) gLe:=Gf λ_ _ _=>by simp[RI]
def Qs:RB K (rI0 λi j=>.bl (decide (j<i))) gGt:=Gf λ_ _ _=>by simp[RI]
def Qt:RB K (rI0 λi j=>.bl (decide (j<=i))) gGe:=Gf λ_ _ _=>by simp[RI]
def scI:I->Option V
 |.non=>some .non
 |.bl b=>some (.bl b)
 |.int i=>some (.int i)
 |.str x=>some (.str x)
 |.tup _=>none
def Hw{i:I}{v w:V}(e:scI i=some w)(h:RI K H i v):v=w:=by
 cases i with
 |tup _=>simp[scI]at e
 |_=>simp only[scI,Option.some.injEq]at e;subst e;simpa only[RI]using h
def FA(neg:Bool):D->D->Hd->Option (D×Hd)
 |.im i,.im j,hd=>match scI i,scI j with
  |some x,some y=>if KL x y=true then some (.im (.bl (if neg then !decide (x=y)else decide (x=y))),hd)else none
  |_,_=>none
 |_,_,_=>none
def Nz:RB K rEq (FA false):=by
 intro ρ H hd d e v u Q z hd' hR h1 h2 hf hQ;unfold FA at hf;split at hf
 .split at hf
  .next x y e1 e2=>
   split at hf
   .next s=>
    cases hf;simp only[RD]at h1 h2;rw[Hw e1 h1,Hw e2 h2];exact⟨s,hQ ρ H _ .refl hR (by simp[RD,RI])⟩
   .cases hf
  .cases hf
 .cases hf
def VD:RB K rNe (FA true):=by
 intro ρ H hd d e v u Q z hd' hR h1 h2 hf hQ;unfold FA at hf;split at hf
 .split at hf
  .next x y e1 e2=>
   split at hf
   .next s=>
    cases hf;simp only[RD]at h1 h2;rw[Hw e1 h1,Hw e2 h2];exact⟨s,hQ ρ H _ .refl hR (by simp[RD,RI])⟩
   .cases hf
  .cases hf
 .cases hf
mutual
def I.py:I->PyData
 |.non=>.none
 |.bl b=>.bool b
 |.int i=>.int i
 |.str x=>.str x
 |.tup ds=>.tuple (I.pys ds)
def I.pys:List I->List PyData
 |[]=>[]
 |d::ds=>I.py d::I.pys ds
end
mutual
def RI.rep:∀{i:I} {v:V},RI K H i v->Rep K H i.py v
 |.non,v,h=>by simpa only[RI,I.py,Rep]using h
 |.bl _,v,h=>by simpa only[RI,I.py,Rep]using h
 |.int _,v,h=>by simpa only[RI,I.py,Rep]using h
 |.str _,v,h=>by simpa only[RI,I.py,Rep]using h
 |.tup ds,v,h=>by
  simp only[RI]at h;obtain⟨a,xs,e,q,r⟩:=h;simp only[I.py,Rep];exact⟨a,xs,e,q,RIs.rep r⟩
def RIs.rep:∀{i:List I} {v:List V},RIs K H i v->Bp K H (I.pys i) v
 |[],v,h=>by simpa only[RIs,I.pys,Bp]using h
 |d::ds,v,h=>by
  simp only[RIs]at h;obtain⟨x,r,e,q,z⟩:=h;simp only[I.pys,Bp];exact⟨x,r,e,q.rep,RIs.rep z⟩
end
def pyD(hd:Hd):D->Option PyData
 |.im i=>some i.py
 |.mu n=>match hd[n]? with
  |some (.lst ds)=>(BP ds).map λis=>.list (I.pys is)
  |_=>none
 |.ro ns=>some (.list (I.pys (ns.map I.int)))
 |_=>none
def Dh{d:D}{v:V}{p:PyData}(hR:RH K ρ H hd)(h:RD K ρ H d v)(e:pyD hd d=some p):Rep K H p v:=by
 cases d with
 |im i=>simp only[pyD,Option.some.injEq]at e;subst e;simp only[RD]at h;exact h.rep
 |mu n=>
  simp only[pyD]at e;simp only[RD]at h;obtain⟨a,hn,rfl⟩:=h;split at e
  .next q=>
   obtain⟨is,e1,rfl⟩:=ad e;obtain⟨xs,e2,e3⟩:=hR.lst hn q;rw[DI e1]at e3;simp only[Rep];exact⟨a,xs,rfl,SqL.of e2,e3.is.rep⟩
  .cases e
 |ro ns=>
  simp only[pyD,Option.some.injEq]at e;subst e;obtain⟨a,xs,rfl,q,r⟩:=h.lst hR (hd:=hd) (ds:=ns.map λn=>.im (.int n)) rfl;simp only[Rep];refine⟨a,xs,rfl,q,RIs.rep (RDs.is (ρ:=ρ) ?_)⟩;rw[map_map];exact r
 |tm _=>simp[pyD]at e
def J3(neg:Bool):D->D->Hd->Option (D×Hd):=λd e hd=>match pyD hd d,pyD hd e with
 |some x,some y=>if x.canLay0=true/\y.canLay0=true/\min x.depth y.depth<=60 then some (.im (.bl (if neg then !PyData.eqv x y else PyData.eqv x y)),hd)else none
 |_,_=>none
def O0:RB K (Mt K) (J3 false):=by
 intro ρ H hd d e v u Q z hd' hR h1 h2 hf hQ;unfold J3 at hf;split at hf
 .next e1 e2=>
  split at hf
  .next c=>cases hf;exact⟨_,_,Dh hR h1 e1,Dh hR h2 e2,c.1,c.2.1,c.2.2,hQ ρ H _ .refl hR (by simp[RD,RI])⟩
  .cases hf
 .cases hf
def VE:RB K (Ms K) (J3 true):=by
 intro ρ H hd d e v u Q z hd' hR h1 h2 hf hQ;unfold J3 at hf;split at hf
 .next e1 e2=>
  split at hf
  .next c=>cases hf;exact⟨_,_,Dh hR h1 e1,Dh hR h2 e2,c.1,c.2.1,c.2.2,hQ ρ H _ .refl hR (by simp[RD,RI])⟩
  .cases hf
 .cases hf
abbrev gEq:=CK (FA false) (J3 false)
abbrev gNe:=CK (FA true) (J3 true)
def gIx:D->D->Hd->Option (D×Hd)
 |d,.im (.int i),hd=>(BL hd d).bind λds=>(atI ds i).map (·,hd)
 |_,_,_=>none
def M8{α β:Type}{xs:List α}{ys:List β}{i:Int}{y:β}(h:xs.length=ys.length)(e:atI ys i=some y):∃(j:Nat),ys[j]?=some y/\∀x,xs[j]?=some x->atI xs i=some x:=by
 unfold atI at e;obtain⟨j,e1,e2⟩:=ac e;exact⟨j,e2,λx q=>by unfold atI;rw[h,e1];exact q⟩
def Jw(K:PySem.W.Frag):R2:=λx y H Q=>Po K x y H Q∨Pn K x y H Q
def Xl:RB K (Jw K) gIx:=by
 intro ρ H hd d e v u Q z hd' hR h1 h2 hf hQ;unfold gIx at hf;split at hf
 .obtain⟨ds,e1,hf⟩:=ac hf;obtain⟨w,e2,e3⟩:=ad hf;cases e3;obtain⟨a,xs,rfl,q,r⟩:=h1.seq hR e1;simp only[RD,RI]at h2;subst h2;obtain⟨j,j1,j2⟩:=M8 r.len e2;obtain⟨x,x1,x2⟩:=r.get j1;rcases q with q|q
  .exact .inl ⟨a,xs,_,x,rfl,rfl,q,j2 x x1,hQ ρ H x .refl hR x2⟩
  .exact .inr ⟨a,xs,_,x,rfl,rfl,q,j2 x x1,hQ ρ H x .refl hR x2⟩
 .cases hf
def CB(xs:List D)(lo hi:Option Int):List D:=(xs.drop (HT.sIx xs.length 0 lo)).take (HT.sIx xs.length xs.length hi-HT.sIx xs.length 0 lo)
def J9{ds:List D}{xs:List V}{lo hi:Option Int}(r:RDs K ρ H ds xs):RDs K ρ H (CB ds lo hi) (Er xs lo hi):=by
 unfold CB Er;rw[r.len];exact(r.drop _).take _
abbrev MO1:=Ls->Hd->Option (Option Int×Hd)
def RO1(K:PySem.W.Frag)(t:TO)(m:MO1):Prop:=∀(ρ:List Addr) (σ:St) (H:Hp) (hd:Hd) (ls:Ls) (Q:Option Int->Hp->Prop) (d:Option Int) (hd':Hd),RH K ρ H hd->RL K ρ H ls σ->m ls hd=some (d,hd') ->
 (∀ρ' H',Ext ρ H ρ' H'->RH K ρ' H' hd'->Q d H')->t σ H Q
def AT:MO1:=λ_ hd=>some (none,hd)
def Aa(m:ME):MO1:=λls hd=>(m ls hd).bind λp=>match p.1 with
 |.im (.int i)=>some (some i,p.2)
 |_=>none
def S9:RO1 K Ii AT:=by
 and_intros;cases hm;exact hQ ρ H .refl hR
def S8{t:TE}{m:ME}(h:RE K t m):RO1 K (MV t) (Aa m):=by
 and_intros;obtain⟨⟨d1,h1⟩,e1,hm⟩:=ac hm;dsimp only at hm;split at hm
 .cases hm;exact h ρ σ H hd ls _ _ _ hR hL e1 λρ1 H1 v x1 R1 r1=>⟨_,by simpa only[RD,RI]using r1,hQ ρ1 H1 x1 R1⟩
 .cases hm
def CT(m:ME)(ml mh:MO1):ME:=λls hd=>(m ls hd).bind λp=>(ml ls p.2).bind λl=>(mh ls l.2).bind λh=>(AR p.1).bind λds=>
 if ¬ (HT.sIx ds.length 0 l.1=0/\HT.sIx ds.length ds.length h.1=ds.length)then some (AK (CB ds l.1 h.1),h.2)else none
def V2{t:TE}{tl th:TO}{m:ME}{ml mh:MO1}(h:RE K t m)(hl:RO1 K tl ml)(hh:RO1 K th mh):RE K (tSl (Ka K) t tl th) (CT m ml mh):=by
 and_intros;obtain⟨⟨d1,h1⟩,e1,hm⟩:=ac hm;obtain⟨⟨d2,h2⟩,e2,hm⟩:=ac hm;obtain⟨⟨d3,h3⟩,e3,hm⟩:=ac hm;obtain⟨ds,e4,hm⟩:=ac hm;dsimp only at e2 e3 e4 hm;split at hm
 .next c=>
  cases hm;refine h ρ σ H hd ls _ d1 h1 hR hL e1 λρ1 H1 v1 x1 R1 r1=>?_;refine hl ρ1 σ H1 h1 ls _ d2 h2 R1 (hL.ext hR x1) e2 λρ2 H2 x2 R2=>?_;refine hh ρ2 σ H2 h2 ls _ d3 _ R2 (hL.ext hR (x1.trans R1 x2)) e3 λρ3 H3 x3 R3=>?_;obtain⟨a,xs,rfl,q,r⟩:=((r1.ext R1 x2).ext R2 x3).tup e4;refine⟨a,xs,rfl,q,by rw[r.len];exact c,λp hp=>?_⟩;obtain⟨R4,x4⟩:=R3.hid (ho:=.tup (Er xs d2 d3)) hp;exact hQ ρ3 _ _ (((x1.trans R1 x2).trans R2 x3).trans R3 x4) R4 (BZ (SqT.of Ag) ((J9 r).ext R3 x4))
 .cases hm
def Fb(m:ME)(ml mh:MO1):MA:=λls hd=>(m ls hd).bind λp=>(ml ls p.2).bind λl=>(mh ls l.2).bind λh=>(B7 h.2 p.1).bind λds=>some (CB ds l.1 h.1,h.2)
def Up{t:TE}{tl th:TO}{m:ME}{ml mh:MO1}(h:RE K t m)(hl:RO1 K tl ml)(hh:RO1 K th mh):RN K (tSl (Mp K) t tl th) (Fb m ml mh):=by
 and_intros;obtain⟨⟨d1,h1⟩,e1,hm⟩:=ac hm;obtain⟨⟨d2,h2⟩,e2,hm⟩:=ac hm;obtain⟨⟨d3,h3⟩,e3,hm⟩:=ac hm;obtain⟨ds,e4,hm⟩:=ac hm;dsimp only at e2 e3 e4 hm;cases hm;refine h ρ σ H hd ls _ d1 h1 hR hL e1 λρ1 H1 v1 x1 R1 r1=>?_;refine hl ρ1 σ H1 h1 ls _ d2 h2 R1 (hL.ext hR x1) e2 λρ2 H2 x2 R2=>?_;refine hh ρ2 σ H2 h2 ls _ d3 _ R2 (hL.ext hR (x1.trans R1 x2)) e3 λρ3 H3 x3 R3=>?_;obtain⟨a,xs,rfl,q,r⟩:=RD.lst R3 ((r1.ext R1 x2).ext R2 x3) e4;refine⟨a,xs,rfl,q,λp hp=>?_⟩;obtain⟨R4,x4⟩:=R3.hid (ho:=.lst (Er xs d2 d3)) hp;have x123:=(x1.trans R1 x2).trans R2 x3;exact hQ ρ3 _ p _ (x123.trans R3 x4) R4 (x123.none hR hp R3) (R3.out hp) Ag ((J9 r).ext R3 x4)
def mCB(f:List D->Hd->Option (D×Hd))(ma:MA):ME:=λls hd=>(ma ls hd).bind λp=>f p.1 p.2
def Qp{r:List V->Hp->VK->Prop}{f:List D->Hd->Option (D×Hd)}{t:TA}{m:MA}(hr:RF K r f)(h:RA K t m):RE K (tCB r t) (mCB f m):=by
 and_intros;obtain⟨⟨d1,h1⟩,e1,hm⟩:=ac hm;refine h ρ σ H hd ls _ d1 h1 hR hL e1 λρ1 H1 v1 x1 R1 r1=>?_;exact hr ρ1 H1 h1 d1 v1 Q d hd' R1 r1 hm λρ' H' w x2 R2 r2=>hQ ρ' H' w (x1.trans R1 x2) R2 r2
def f1(tp:Bool)(g:List D->Option D):List D->Hd->Option (D×Hd)
 |[d],hd=>((if tp then BL hd d else B7 hd d)).bind λds=>(g ds).map (·,hd)
 |_,_=>none
def Mk{tp:Bool}{r:List V->Hp->VK->Prop}{g:List D->Option D}(h:RG K tp r g):RF K r (f1 tp g):=by
 intro ρ H hd ds vs Q z hd' hR h1 hf hQ;unfold f1 at hf;split at hf
 .next d hd'=>
  obtain⟨es,e1,hf⟩:=ac hf;obtain⟨w,e2,e3⟩:=ad hf;cases e3;simp only[RDs]at h1;obtain⟨x,r,rfl,rx,rfl⟩:=h1;cases tp with
  |true=>
   rw[if_pos rfl]at e1;obtain⟨a,xs,rfl,q,rr⟩:=rx.seq hR e1;exact h ρ H hd a xs es Q z hR (q.imp id λq=>⟨rfl,q⟩) rr e2 λH' w x R r=>hQ ρ H' w x R r
  |false=>
   rw[if_neg Bool.false_ne_true]at e1;obtain⟨a,xs,rfl,q,rr⟩:=rx.lst hR e1;exact h ρ H hd a xs es Q z hR (.inl q) rr e2 λH' w x R r=>hQ ρ H' w x R r
 .cases hf
def Bg(g:List D->Option D)(ml:MA):ME:=λls hd=>(ml ls hd).bind λp=>(g p.1).map (·,p.2)
def Nx{tp:Bool}{r:List V->Hp->VK->Prop}{g:List D->Option D}{t:TE}{m:MA}(hr:RG K tp r g)(h:RN K t m):RE K (tCB r (C8 t DP)) (Bg g m):=by
 and_intros;obtain⟨⟨d1,h1⟩,e1,hm⟩:=ac hm;obtain⟨w,e2,e3⟩:=ad hm;cases e3;refine h ρ σ H hd ls _ d1 _ hR hL e1 λρ1 H1 a xs x1 R1 na oa ea r1=>?_;exact hr ρ1 H1 _ a xs d1 Q d R1 (.inl (SqL.of ea)) r1 e2 λH' w x R r=>hQ ρ1 H' w (x1.trans R1 x) R r
def BA(ds:List D):Option D:=some (.im (.int ds.length))
def Nu:RG K true (VL K) BA:=by
 intro ρ H hd a xs ds Q z hR q r e hQ;cases e;refine⟨a,xs,rfl,q.imp id λq=>q.2,?_⟩;rw[r.len];exact hQ H _ .refl hR (by simp[RD,RI])
def DW(ds:List D):Option D:=some (AK ds)
def KY:RG K true (KZ K) DW:=by
 intro ρ H hd a xs ds Q z hR q r e hQ;cases e;refine⟨a,xs,rfl,?_⟩;rcases q with q|⟨_,q⟩
 .refine .inl ⟨q,λp hp=>?_⟩;obtain⟨R2,x2⟩:=hR.hid (ho:=.tup xs) hp;exact hQ _ _ x2 R2 (BZ (SqT.of Ag) (r.ext hR x2))
 .exact .inr ⟨q,hQ H _ .refl hR (BZ q r)⟩
def Hc(ds:List D):Option D:=(Bb ds).map λns=>.im (.int ns.sum)
def Yi(K:PySem.W.Frag):List V->Hp->VK->Prop:=λxs H Q=>Qv K xs H Q∨Qu K xs H Q
def Nt:RG K true (Yi K) Hc:=by
 intro ρ H hd a xs ds Q z hR q r e hQ;obtain⟨ns,e1,rfl⟩:=ad e;rw[He e1]at r;have:=Ir r;subst this;rcases q with q|⟨_,q⟩
 .exact .inl ⟨a,ns,rfl,q,hQ H _ .refl hR (by simp[RD,RI])⟩
 .exact .inr ⟨a,ns,rfl,q,hQ H _ .refl hR (by simp[RD,RI])⟩
def Eh(ds:List D):Option D:=(Cf ds).map λbs=>.im (.bl (bs.all id))
def Nv:RG K false (VM K) Eh:=by
 intro ρ H hd a xs ds Q z hR q r e hQ;obtain⟨ns,e1,rfl⟩:=ad e;rw[M7 e1]at r;have:=Ny r;subst this;rcases q with q|⟨q,_⟩
 .exact⟨a,ns,rfl,q,hQ H _ .refl hR (by simp[RD,RI])⟩
 .cases q
def J2{α:Type}{xs:List α}(h:xs≠[]):0<xs.length:=by cases xs<;>simp_all
def YG:List D->Hd->Option (D×Hd)
 |[.im (.int i),.im (.int j)],hd=>some (.im (.int (if j>i then j else i)),hd)
 |_,_=>none
def Go:List D->Hd->Option (D×Hd)
 |[.im (.int i),.im (.int j)],hd=>some (.im (.int (if j<i then j else i)),hd)
 |_,_=>none
def SH:RF K (λxs H Q=>∃i j,xs=[.int i,.int j]/\Q (.int (if j<i then j else i)) H) Go:=by
 intro ρ H hd ds vs Q z hd' hR h1 hf hQ;unfold Go at hf;split at hf
 .cases hf;simp only[RDs,RD,RI]at h1;obtain⟨x,r,rfl,rfl,y,r2,rfl,rfl,rfl⟩:=h1;exact⟨_,_,rfl,hQ ρ H _ .refl hR (by simp[RD,RI])⟩
 .cases hf
def Ys:List D->Hd->Option (D×Hd)
 |[.im (.int i)],hd=>some (.im (.int (if i<0 then -i else i)),hd)
 |_,_=>none
def Dm(ma:ME):MA:=λls hd=>(ma ls hd).bind λp=>(BL p.2 p.1).map (·,p.2)
def SA{t:TE}{m:ME}(h:RE K t m):RN K (tCB (FG K) (C8 t DP)) (Dm m):=by
 and_intros;obtain⟨⟨d1,h1⟩,e1,hm⟩:=ac hm;obtain⟨w,e2,e3⟩:=ad hm;cases e3;refine h ρ σ H hd ls _ d1 _ hR hL e1 λρ1 H1 v x1 R1 r1=>?_;obtain⟨a,xs,rfl,q,rr⟩:=r1.seq R1 e2;refine⟨a,xs,rfl,q,λl hl=>?_⟩;obtain⟨R2,x2⟩:=R1.hid (ho:=.lst xs) hl;exact hQ ρ1 _ l xs (x1.trans R1 x2) R2 (x1.none hR hl R1) (R1.out hl) Ag (rr.ext R1 x2)
def FM(ml:MA):MA:=ml
def PY{t:TE}{m:MA}(h:RN K t m):RN K (tCB (FG K) (C8 t DP)) (FM m):=by
 and_intros;refine h ρ σ H hd ls _ d _ hR hL hm λρ1 H1 a xs x1 R1 na oa ea r1=>?_;refine⟨a,xs,rfl,.inl (SqL.of ea),λl hl=>?_⟩;obtain⟨R2,x2⟩:=R1.hid (ho:=.lst xs) hl;exact hQ ρ1 _ l xs (x1.trans R1 x2) R2 (x1.none hR hl R1) (R1.out hl) Ag (r1.ext R1 x2)
def Ee(d:PyData):Prop:=d.showable=true/\d.hasDict=false/\isDisplay d=true/\d.depth<=30/\d.shown.length<=sizeLine
open Classical in
def DX(ds:List D):Option D:=match BP ds with
 |some is=>if Ee (.list (I.pys is))then some (.im (.str (PyData.list (I.pys is)).shown))else none
 |none=>none
def SG:RG K false (IE K) DX:=by
 intro ρ H hd a xs ds Q z hR q r e hQ;unfold DX at e;split at e
 .next is e1=>
  split at e
  .next c=>
   cases e;rw[DI e1]at r;rcases q with q|⟨q,_⟩
   .refine⟨.ref a,_,rfl,?_,c.1,c.2.1,c.2.2.1,c.2.2.2.1,c.2.2.2.2,hQ H _ .refl hR (by simp[RD,RI])⟩;simp only[Rep];exact⟨a,xs,rfl,q,r.is.rep⟩
   .cases q
  .cases e
 .cases e
open Classical in
def GP:List D->Hd->Option (D×Hd)
 |[.im (.int i)],hd=>if Yg i.natAbs.log2 then some (.im (.str (toString i)),hd)else none
 |_,_=>none
def Pb:RF K (λxs H Q=>∃i,xs=[.int i]/\i.natAbs.log2<1920/\Q (.str (toString i)) H) GP:=by
 intro ρ H hd ds vs Q z hd' hR h1 hf hQ;unfold GP at hf;split at hf
 .split at hf
  .next c=>
   cases hf;simp only[RDs,RD,RI]at h1;obtain⟨x,r,rfl,rfl,rfl⟩:=h1;exact⟨_,rfl,c,hQ ρ H _ .refl hR (by simp[RD,RI])⟩
  .cases hf
 .cases hf
def Fm:I->Option V
 |.non=>some .non
 |.bl b=>some (.bl b)
 |.int i=>some (.int i)
 |.str x=>some (.str x)
 |.tup _=>none
def Cc:List D->Option (List V)
 |[]=>some []
 |.im i::r=>(Fm i).bind λv=>(Cc r).map (v::·)
 |_::_=>none
def Kv{i:I}{v w:V}(e:Fm i=some w)(h:RI K H i v):v=w/\Dr w=true:=by
 cases i with
 |tup _=>simp[Fm]at e
 |_=>simp only[Fm,Option.some.injEq]at e;subst e;exact⟨by simpa only[RI]using h,rfl⟩
def JS:∀{ds:List D} {vs ws:List V},Cc ds=some ws->RDs K ρ H ds vs->vs=ws/\ws.all Dr=true
 |[],vs,ws,e,h=>by simp[Cc]at e;subst e;simp only[RDs]at h;subst h;exact⟨rfl,rfl⟩
 |.im i::r,vs,ws,e,h=>by
  simp only[Cc]at e;obtain⟨v,e1,e⟩:=ac e;obtain⟨us,e2,rfl⟩:=ad e;simp only[RDs,RD]at h;obtain⟨x,y,rfl,h1,h2⟩:=h;obtain⟨rfl,f1⟩:=Kv e1 h1;obtain⟨rfl,f2⟩:=JS e2 h2;exact⟨rfl,by simp[f1,f2]⟩
 |.mu _::_,_,_,e,_=>by simp[Cc]at e
 |.tm _::_,_,_,e,_=>by simp[Cc]at e
 |.ro _::_,_,_,e,_=>by simp[Cc]at e
def mMt(f:D->List D->Hd->Option (D×Hd))(mo:ME)(ma:MA):ME:=λls hd=>(mo ls hd).bind λp=>match B7 p.2 p.1 with
 |some _=>(ma ls p.2).bind λq=>f p.1 q.1 q.2
 |none=>none
def RM(K:PySem.W.Frag)(r:V->List V->Hp->VK->Prop)(f:D->List D->Hd->Option (D×Hd)):Prop:=∀(ρ:List Addr) (H:Hp) (hd:Hd) (d:D) (v:V) (ds:List D) (vs:List V) (Q:VK) (z:D) (hd':Hd),RH K ρ H hd->RD K ρ H d v->RDs K ρ H ds vs->f d ds hd=some (z,hd') ->
 (∀ρ' H' w,Ext ρ H ρ' H'->RH K ρ' H' hd'->RD K ρ' H' z w->Q w H')->r v vs H Q
def Xi{r:V->List V->Hp->VK->Prop}{f:D->List D->Hd->Option (D×Hd)}{to:TE}{t:TA}{mo:ME}{ma:MA}(hr:RM K r f)(ho:RE K to mo)(ha:RA K t ma):RE K (tBM K "list" r to t) (mMt f mo ma):=by
 and_intros;obtain⟨⟨d1,h1⟩,e1,hm⟩:=ac hm;dsimp only at hm;split at hm
 .next e=>
  obtain⟨⟨d2,h2⟩,e2,hm⟩:=ac hm;refine ho ρ σ H hd ls _ d1 h1 hR hL e1 λρ1 H1 v x1 R1 r1=>⟨?_,?_⟩
  .obtain⟨a,xs,rfl,q,_⟩:=r1.lst R1 e;exact .inl ⟨rfl,xs,q⟩
  .exact ha ρ1 σ H1 h1 ls _ d2 h2 R1 (hL.ext hR x1) e2 λρ2 H2 vs x2 R2 r2=>hr ρ2 H2 h2 d1 v d2 vs Q d hd' R2 (r1.ext R1 x2) r2 hm λρ' H' w x3 R3 r3=>hQ ρ' H' w ((x1.trans R1 x2).trans R2 x3) R3 r3
 .cases hm
open Classical in
def Bx:D->List D->Hd->Option (D×Hd)
 |.mu n,[x],hd=>match hd[n]? with
  |some (.lst ds)=>if Ez ds.length then some (.im .non,hd.set n (.lst (ds++[x])))else none
  |_=>none
 |_,_,_=>none
def Nr:RM K Ll Bx:=by
 intro ρ H hd d v ds vs Q z hd' hR h1 h2 hf hQ;unfold Bx at hf;split at hf
 .split at hf
  .next q=>
   split at hf
   .next c=>
    cases hf;simp only[RD]at h1;obtain⟨a,hn,rfl⟩:=h1;simp only[RDs]at h2;obtain⟨x,r,rfl,rx,rfl⟩:=h2;obtain⟨xs,e1,e2⟩:=hR.lst hn q;obtain⟨R2,x2⟩:=hR.put hn (o:=.lst (_++[_])) (ho:=.lst (xs++[x])) ⟨_,rfl,e2.app (.cons rx .nil)⟩;exact⟨a,xs,x,rfl,rfl,e1,by rw[e2.len];exact c,hQ ρ _ _ x2 R2 (by simp[RD,RI])⟩
   .cases hf
  .cases hf
 .cases hf
end
end L2
namespace L2
open PySem PySem.Spec PyProof.Rows
section
variable{K:PySem.W.Frag}{ρ ρ':List Addr}{H H':Hp}{hd hd':Hd}
def Ae:MS:=λls hd=>some (.nx ls,hd)
def Lb:RS K Ht Ae:=by
 intro ρ σ H hd ls E f hd' hR hL hm hQ;cases hm;exact hQ ρ H .refl hR σ hL
def AC(a b:MS):MS:=λls hd=>(a ls hd).bind λp=>match p.1 with
 |.nx ls1=>b ls1 p.2
 |f=>some (f,p.2)
def Uj{t u:TS}{a b:MS}(ha:RS K t a)(hb:RS K u b):RS K (P3 t u) (AC a b):=by
 intro ρ σ H hd ls E f hd' hR hL hm hQ;obtain⟨⟨f1,h1⟩,e1,hm⟩:=ac hm;refine ha ρ σ H hd ls { E with nx:=u E } f1 h1 hR hL e1 λρ1 H1 x1 R1=>?_;cases f1 with
 |nx ls1=>
  intro σ1 L1;exact hb ρ1 σ1 H1 h1 ls1 E f hd' R1 L1 hm λρ2 H2 x2 R2=>hQ ρ2 H2 (x1.trans R1 x2) R2
 |bk ls1=>cases hm;exact hQ ρ1 H1 x1 R1
 |ct ls1=>cases hm;exact hQ ρ1 H1 x1 R1
 |rt d=>cases hm;exact hQ ρ1 H1 x1 R1
def Wo:MS:=λls hd=>some (.bk ls,hd)
def YB:MS:=λls hd=>some (.ct ls,hd)
def Do(m:ME):MS:=λls hd=>(m ls hd).bind λp=>some (.nx ls,p.2)
def S5{t:TE}{m:ME}(h:RE K t m):RS K (MZ t) (Do m):=by
 intro ρ σ H hd ls E f hd' hR hL hm hQ;obtain⟨⟨d1,h1⟩,e1,hm⟩:=ac hm;cases hm;exact h ρ σ H hd ls _ d1 _ hR hL e1 λρ1 H1 v x1 R1 r1=>hQ ρ1 H1 x1 R1 σ (hL.ext hR x1)
def AO(m:ME):MS:=λls hd=>(m ls hd).bind λp=>some (.rt p.1,p.2)
def Uk{t:TE}{m:ME}(h:RE K t m):RS K (P4 t) (AO m):=by
 intro ρ σ H hd ls E f hd' hR hL hm hQ;obtain⟨⟨d1,h1⟩,e1,hm⟩:=ac hm;cases hm;exact h ρ σ H hd ls _ d1 _ hR hL e1 λρ1 H1 v x1 R1 r1=>hQ ρ1 H1 x1 R1 v r1
def Y9:MS:=λ_ hd=>some (.rt (.im .non),hd)
def Ar(c:MT)(a b:MS):MS:=λls hd=>(c ls hd).bind λp=>if p.1=true then a ls p.2 else b ls p.2
def Xf{tc:TT}{t u:TS}{c:MT}{a b:MS}(hc:RT K tc c)(ha:RS K t a)(hb:RS K u b):RS K (PH tc t u) (Ar c a b):=by
 intro ρ σ H hd ls E f hd' hR hL hm hQ;obtain⟨⟨d1,h1⟩,e1,hm⟩:=ac hm;refine hc ρ σ H hd ls _ d1 h1 hR hL e1 λρ1 H1 x1 R1=>?_;cases d1 with
 |true=>
  rw[if_pos rfl]at hm ⊢;exact ha ρ1 σ H1 h1 ls E f hd' R1 (hL.ext hR x1) hm λρ2 H2 x2 R2=>hQ ρ2 H2 (x1.trans R1 x2) R2
 |false=>
  rw[if_neg Bool.false_ne_true]at hm ⊢;exact hb ρ1 σ H1 h1 ls E f hd' R1 (hL.ext hR x1) hm λρ2 H2 x2 R2=>hQ ρ2 H2 (x1.trans R1 x2) R2
abbrev MG:=D->Ls->Hd->Option Ls
abbrev MGs:=List D->Ls->Hd->Option Ls
def RGt(K:PySem.W.Frag)(t:TG)(m:MG):Prop:=∀(ρ:List Addr) (σ:St) (H:Hp) (hd:Hd) (ls ls':Ls) (d:D) (v:V) (Q:St->Hp->Prop),RH K ρ H hd->RL K ρ H ls σ->RD K ρ H d v->m d ls hd=some ls' ->
 (∀σ',RL K ρ H ls' σ'->Q σ' H)->t v σ H Q
def LG(K:PySem.W.Frag)(t:TGs)(m:MGs):Prop:=∀(ρ:List Addr) (σ:St) (H:Hp) (hd:Hd) (ls ls':Ls) (d:List D) (v:List V) (Q:St->Hp->Prop),RH K ρ H hd->RL K ρ H ls σ->RDs K ρ H d v->m d ls hd=some ls' ->
 (∀σ',RL K ρ H ls' σ'->Q σ' H)->t v σ H Q
def RL.set{ls:Ls}{σ:St}{d:D}{v:V}(h:RL K ρ H ls σ)(i:Nat)(r:RD K ρ H d v):RL K ρ H (ls.set i (some d)) (σ.set i (some v)):=by
 refine⟨by simp[h.len],λj e q=>?_⟩;by_cases hij:i=j
 .subst hij;have hl:i<ls.length:=by
   have:=(List.getElem?_eq_some_iff.mp q).1;simpa using this
  rw[List.getElem?_set_self hl]at q;cases q;exact⟨v,by rw[List.getElem?_set_self (by rw[<- h.len];exact hl)],r⟩
 .rw[List.getElem?_set_ne hij]at q;obtain⟨w,e1,e2⟩:=h.ob j e q;exact⟨w,by rw[List.getElem?_set_ne hij];exact e1,e2⟩
def Am(i:Nat):MG:=λd ls _=>some (ls.set i (some d))
def Iq{i:Nat}:RGt K (Dq i) (Am i):=by
 intro ρ σ H hd ls ls' d v Q hR hL hd hm hQ;cases hm;exact hQ _ (hL.set i hd)
def Ix:MGs:=λds ls _=>match ds with
 |[]=>some ls
 |_=>none
def DT(m:MG)(r:MGs):MGs:=λds ls hd=>match ds with
 |d::es=>(m d ls hd).bind λls1=>r es ls1 hd
 |[]=>none
def SF:LG K QM Ix:=by
 intro ρ σ H hd ls ls' d v Q hR hL hd hm hQ;cases d with
 |nil=>
  simp only[RDs]at hd;subst hd;cases hm;exact⟨rfl,hQ _ hL⟩
 |cons a b=>cases hm
def PZ{t:TG}{u:TGs}{m:MG}{r:MGs}(h:RGt K t m)(h':LG K u r):LG K (NJ t u) (DT m r):=by
 intro ρ σ H hd ls ls' d v Q hR hL hd hm hQ;cases d with
 |nil=>cases hm
 |cons a b=>
  simp only[RDs]at hd;obtain⟨x,y,rfl,h1,h2⟩:=hd;obtain⟨ls1,e1,e2⟩:=ac hm;exact⟨x,y,rfl,h ρ σ H _ ls ls1 a x _ hR hL h1 e1 λσ1 L1=>h' ρ σ1 H _ ls1 ls' b y Q hR L1 h2 e2 hQ⟩
def HP(n:Nat)(r:MGs):MG:=λd ls hd=>(AR d).bind λds=>if ds.length=n then r ds ls hd else none
def Uw{n:Nat}{u:TGs}{r:MGs}(h':LG K u r):RGt K (NI K n u) (HP n r):=by
 intro ρ σ H hd ls ls' d v Q hR hL hd hm hQ;obtain⟨ds,e1,hm⟩:=ac hm;split at hm
 .next c=>
  obtain⟨a,xs,rfl,q,rr⟩:=hd.tup e1;exact⟨a,xs,rfl,q,by rw[rr.len];exact c,h' ρ σ H _ ls ls' ds xs Q hR hL rr hm hQ⟩
 .cases hm
def Hb(m:ME)(g:MG):MS:=λls hd=>(m ls hd).bind λp=>(g p.1 ls p.2).map λls'=>(.nx ls',p.2)
def KR{t:TE}{m:ME}{g:TG}{n:MG}(h:RE K t m)(hg:RGt K g n):RS K (EX t g) (Hb m n):=by
 intro ρ σ H hd ls E f hd' hR hL hm hQ;obtain⟨⟨d1,h1⟩,e1,hm⟩:=ac hm;obtain⟨ls',e2,e3⟩:=ad hm;cases e3;exact h ρ σ H hd ls _ d1 _ hR hL e1 λρ1 H1 v x1 R1 r1=>hg ρ1 σ H1 _ ls ls' d1 v _ R1 (hL.ext hR x1) r1 e2 λσ' L'=>hQ ρ1 H1 x1 R1 σ' L'
abbrev AS(i:Nat)(m:ME):MS:=Hb m (Am i)
def Ff(ix:List Nat)(ma:MA):MS:=λls hd=>(ma ls hd).bind λp=>if p.1.length=ix.length then some (.nx ((ix.zip p.1).foldl (λl q=>l.set q.1 (some q.2)) ls),p.2)else none
def Ul{i j:Nat}{t:TA}{m:MA}(h:RA K t m):RS K (P5 i j t) (Ff [i,j] m):=by
 intro ρ σ H hd ls E f hd' hR hL hm hQ;obtain⟨⟨d1,h1⟩,e1,hm⟩:=ac hm;dsimp only at hm;split at hm
 .next c=>
  cases hm;refine h ρ σ H hd ls _ d1 _ hR hL e1 λρ1 H1 v x1 R1 r1=>?_
  match d1,c,r1,hQ with
  |[a,b],_,r1,hQ=>
   simp only[RDs]at r1;obtain⟨x,r,rfl,ra,y,r2,rfl,rb,rfl⟩:=r1;exact⟨x,y,rfl,hQ ρ1 H1 x1 R1 _ (((hL.ext hR x1).set i ra).set j rb)⟩
 .cases hm
def IJ(i j k:Nat)(ma:MA):MS:=Ff [k,j,i] (λls hd=>(ma ls hd).map λp=>(p.1.reverse,p.2))
def S3{i j k:Nat}{t:TA}{m:MA}(h:RA K t m):RS K (MW i j k t) (IJ i j k m):=by
 intro ρ σ H hd ls E f hd' hR hL hm hQ;obtain⟨⟨d1,h1⟩,e1,hm⟩:=ac hm;obtain⟨⟨d2,h2⟩,e2,e3⟩:=ad e1;cases e3;dsimp only at hm;split at hm
 .next c=>
  cases hm;refine h ρ σ H hd ls _ d2 _ hR hL e2 λρ1 H1 v x1 R1 r1=>?_;have c:d2.length=3:=by simpa using c
  match d2,c,r1,hQ with
  |[a,b,e],_,r1,hQ=>
   simp only[RDs]at r1;obtain⟨x,r,rfl,ra,y,r2,rfl,rb,z,r3,rfl,rc,rfl⟩:=r1;exact⟨x,y,z,rfl,hQ ρ1 H1 x1 R1 _ ((((hL.ext hR x1).set k rc).set j rb).set i ra)⟩
 .cases hm
abbrev Gd:=List (Nat×List D)
abbrev MI:=Ls->Hd->Option ((List D×Gd)×Hd)
def GOk(hd:Hd)(g:Gd):Prop:=∀p∈g,hd[p.1]?=some (.lst p.2)
@[simp] theorem B8(hd:Hd):GOk hd []:=λp h=>by cases h
def LD(K:PySem.W.Frag)(ρ:List Addr)(H:Hp)(J:It)(ds:List D)(g:Gd):Prop:=∀(ρ2:List Addr) (H2:Hp) (hd2:Hd),Ext ρ H ρ2 H2->RH K ρ2 H2 hd2->GOk hd2 g ->
 ∀i:Nat,(i<ds.length->J.go i H2/\∀x H3,J.yld i H2 x H3->∃ρ3 d,Ext ρ2 H2 ρ3 H3/\ρ3=ρ2/\RH K ρ3 H3 hd2/\ds[i]?=some d/\RD K ρ3 H3 d x)/\(i=ds.length->J.stop i H2)
def RIt(K:PySem.W.Frag)(t:TI)(m:MI):Prop:=∀(ρ:List Addr) (σ:St) (H:Hp) (hd:Hd) (ls:Ls) (Q:It->Hp->Prop) (d:List D) (g:Gd) (hd':Hd),RH K ρ H hd->RL K ρ H ls σ->m ls hd=some ((d,g),hd') ->
 (∀ρ' H' J,Ext ρ H ρ' H'->RH K ρ' H' hd'->GOk hd' g->LD K ρ' H' J d g->Q J H')->t σ H Q
def MC{a:Addr}{xs:List V}{ds:List D}(hR:RH K ρ H hd)(q:SqT K H a xs)(r:RDs K ρ H ds xs)(g:Gd):LD K ρ H (Itt K a) ds g:=by
 intro ρ2 H2 hd2 x2 R2 _ i;have q2:=(x2.grow hR).sq q;have r2:=r.ext hR x2;have uniq:∀ys,SqT K H2 a ys->True:=λ_ _=>trivial;refine⟨λhi=>?_,λhi=>⟨xs,q2,by rw[r2.len,hi];exact le_refl _⟩⟩;have e:ds[i]?=some ds[i]:=by simp[hi]
 obtain⟨x,x1,x3⟩:=r2.get e;refine⟨⟨xs,x,q2,x1⟩,λy H3 ⟨e3,hy⟩=>?_⟩;subst e3;have:=hy xs q2;rw[x1]at this;cases this;exact⟨ρ2,_,.refl,rfl,R2,e,x3⟩
def Cb(m:ME):MI:=λls hd=>(m ls hd).bind λp=>(AR p.1).map λds=>((ds,[]),p.2)
def Uu{t:TE}{m:ME}(h:RE K t m):RIt K (NE K t) (Cb m):=by
 intro ρ σ H hd ls Q d g hd' hR hL hm hQ;obtain⟨⟨d1,h1⟩,e1,hm⟩:=ac hm;obtain⟨ds,e2,e3⟩:=ad hm;cases e3;refine h ρ σ H hd ls _ d1 _ hR hL e1 λρ1 H1 v x1 R1 r1=>?_;obtain⟨a,xs,rfl,q,r⟩:=r1.tup e2;exact⟨a,rfl,⟨xs,q⟩,hQ ρ1 H1 _ x1 R1 (B8 _) (MC R1 q r [])⟩
def DV(m:ME):MI:=λls hd=>(m ls hd).bind λp=>match p.1 with
 |.mu n=>match p.2[n]? with
  |some (.lst ds)=>some ((ds,[(n,ds)]),p.2)
  |_=>none
 |.ro ns=>some ((ns.map λn=>.im (.int n),[]),p.2)
 |_=>none
def SE{t:TE}{m:ME}(h:RE K t m):RIt K (Gk K t) (DV m):=by
 intro ρ σ H hd ls Q d g hd' hR hL hm hQ;obtain⟨⟨d1,h1⟩,e1,hm⟩:=ac hm;dsimp only at hm;split at hm
 .next n=>
  split at hm
  .next ds q=>
   cases hm;refine h ρ σ H hd ls _ _ _ hR hL e1 λρ1 H1 v x1 R1 r1=>?_;simp only[RD]at r1;obtain⟨a,hn,rfl⟩:=r1;obtain⟨xs,e2,e3⟩:=R1.lst hn q;refine⟨a,rfl,⟨xs,SqL.of e2⟩,hQ ρ1 H1 _ x1 R1 (λp z=>by simp at z;subst z;exact q) ?_⟩;intro ρ2 H2 hd2 x2 R2 G2 i;have q2:=G2 (n,d) (by simp);have hn2:ρ2[n]?=some a:=by
    obtain⟨r,rfl,_⟩:=x2.pre;rw[List.getElem?_append_left (List.getElem?_eq_some_iff.mp hn).1];exact hn
   obtain⟨ys,e4,e5⟩:=R2.lst hn2 q2;refine⟨λhi=>?_,λhi=>⟨ys,SqL.of e4,by rw[e5.len,hi];exact le_refl _⟩⟩;have e:d[i]?=some d[i]:=by simp[hi]
   obtain⟨x,y1,y2⟩:=e5.get e;refine⟨⟨ys,x,SqL.of e4,y1⟩,λy H3 ⟨e6,hy⟩=>?_⟩;subst e6;have:=hy ys (SqL.of e4);rw[y1]at this;cases this;exact⟨ρ2,_,.refl,rfl,R2,e,y2⟩
  .cases hm
 .next ns=>
  cases hm;refine h ρ σ H hd ls _ _ _ hR hL e1 λρ1 H1 v x1 R1 r1=>?_;simp only[RD]at r1;obtain⟨a,rfl,q⟩:=r1;refine⟨a,rfl,⟨_,q.sq⟩,hQ ρ1 H1 _ x1 R1 (B8 _) ?_⟩;intro ρ2 H2 hd2 x2 R2 G2 i;have q2:=(q.grow (x2.grow R1)).sq;have e5:RDs K ρ2 H2 (ns.map λn=>.im (.int n)) (ns.map V.int):=FP;refine⟨λhi=>?_,λhi=>⟨_,q2,by rw[e5.len,hi];exact le_refl _⟩⟩;have e:(ns.map λn=>D.im (.int n))[i]?=some ((ns.map λn=>D.im (.int n))[i]):=by simp[hi]
  obtain⟨x,y1,y2⟩:=e5.get e;refine⟨⟨_,x,q2,y1⟩,λy H3 ⟨e6,hy⟩=>?_⟩;subst e6;have:=hy _ q2;rw[y1]at this;cases this;exact⟨ρ2,_,.refl,rfl,R2,e,y2⟩
 .cases hm
def Fg(ml:MA):MI:=λls hd=>(ml ls hd).map λp=>((p.1,[]),p.2)
def Uv{t:TE}{m:MA}(h:RN K t m):RIt K (Gk K t) (Fg m):=by
 intro ρ σ H hd ls Q d g hd' hR hL hm hQ;obtain⟨⟨d1,h1⟩,e1,e3⟩:=ad hm;obtain⟨⟨rfl,rfl⟩,rfl⟩:=Prod.mk.inj e3 |>.imp Prod.mk.inj id;clear e3 hm;refine h ρ σ H hd ls _ _ _ hR hL e1 λρ1 H1 a xs x1 R1 na oa ea r1=>?_;refine⟨a,rfl,⟨xs,SqL.of ea⟩,hQ ρ1 H1 _ x1 R1 (B8 _) ?_⟩;intro ρ2 H2 hd2 x2 R2 G2 i;have q2:SqL K H2 a xs:=SqL.of (x2.keep a _ ea oa nt);have r2:=r1.ext R1 x2;refine⟨λhi=>?_,λhi=>⟨xs,q2,by rw[r2.len,hi];exact le_refl _⟩⟩;have hi:i<d1.length:=hi;have e:d1[i]?=some d1[i]:=by simp[hi]
 obtain⟨x,y1,y2⟩:=r2.get e;refine⟨⟨xs,x,q2,y1⟩,λy H3 ⟨e6,hy⟩=>?_⟩;subst e6;have:=hy xs q2;rw[y1]at this;cases this;exact⟨ρ2,_,.refl,rfl,R2,e,y2⟩
def BC(lo:Int):Nat->List D
 |0=>[]
 |n+1=>.im (.int lo)::BC (lo+1) n
@[simp] theorem FY(lo:Int)(n:Nat):(BC lo n).length=n:=by
 induction n generalizing lo with
 |zero=>rfl
 |succ n ih=>simp[BC,ih]
def ID{n:Nat}:∀{lo:Int} {i:Nat},i<n->(BC lo n)[i]?=some (.im (.int (lo+i))):=by
 induction n with
 |zero=>intro lo i h;omega
 |succ n ih=>
  intro lo i h;cases i with
  |zero=>simp[BC]
  |succ i=>
   simp only[BC,List.getElem?_cons_succ];rw[ih (by omega)]
   congr 3
   push_cast
   omega
def MD{lo:Int}{n:Nat}{g:Gd}:LD K ρ H (Itr lo n) (BC lo n) g:=by
 intro ρ2 H2 hd2 x2 R2 G2 i;refine⟨λhi=>?_,λhi=>by rw[hi,FY];exact le_refl _⟩;rw[FY]at hi;refine⟨hi,λx H3 ⟨e1,e2⟩=>?_⟩;subst e1 e2;exact⟨ρ2,_,.refl,rfl,R2,ID hi,by simp[RD,RI]⟩
open Classical in
def E4(m:MA):MI:=λls hd=>(m ls hd).bind λp=>match p.1 with
 |[.im (.int j)]=>if HJ j then some ((BC 0 j.toNat,[]),p.2)else none
 |_=>none
def SD{t:TA}{m:MA}(h:RA K t m):RIt K (NF t) (E4 m):=by
 intro ρ σ H hd ls Q d g hd' hR hL hm hQ;obtain⟨⟨d1,h1⟩,e1,hm⟩:=ac hm;dsimp only at hm;split at hm
 .next j=>
  split at hm
  .next c=>
   cases hm;refine h ρ σ H hd ls _ _ _ hR hL e1 λρ1 H1 v x1 R1 r1=>?_;simp only[RDs,RD,RI]at r1;obtain⟨x,r,rfl,rfl,rfl⟩:=r1;exact⟨j,rfl,c.1,c.2,hQ ρ1 H1 _ x1 R1 (B8 _) MD⟩
  .cases hm
 .cases hm
open Classical in
def YA(m:MA):MI:=λls hd=>(m ls hd).bind λp=>match p.1 with
 |[.im (.int i),.im (.int j)]=>if Uo i j then some ((BC i (j-i).toNat,[]),p.2)else none
 |_=>none
open Classical in
def C2(n:MG)(b:MS)(g:Gd):List D->Ls->Hd->Option (Fl×Hd)
 |[],ls,hd=>some (.nx ls,hd)
 |d::r,ls,hd=>(n d ls hd).bind λls1=>(b ls1 hd).bind λp=>match p.1 with
  |.nx ls2=>if GOk p.2 g then C2 n b g r ls2 p.2 else none
  |.ct ls2=>if GOk p.2 g then C2 n b g r ls2 p.2 else none
  |.bk ls2=>some (.nx ls2,p.2)
  |.rt d=>some (.rt d,p.2)
def Dk(mi:MI)(n:MG)(b:MS):MS:=λls hd=>(mi ls hd).bind λp=>C2 n b p.1.2 p.1.1 ls p.2
def Um{wi:TI}{g:TG}{tb:TS}{mi:MI}{n:MG}{b:MS}(hi:RIt K wi mi)(hg:RGt K g n)(hb:RS K tb b):RS K (PJ wi g tb) (Dk mi n b):=by
 intro ρ σ H hd ls E f hd' hR hL hm hQ;obtain⟨⟨⟨ds,gd⟩,h1⟩,e1,hm⟩:=ac hm;refine hi ρ σ H hd ls _ ds gd h1 hR hL e1 λρ1 H1 J x1 R1 G1 Y=>?_;dsimp only at hm;refine⟨λi m σ2 H2=>m=ds.length-i/\i<=ds.length/\∃ρ2 ls2 hd2,Ext ρ1 H1 ρ2 H2/\RH K ρ2 H2 hd2/\RL K ρ2 H2 ls2 σ2/\GOk hd2 gd/\C2 n b gd (ds.drop i) ls2 hd2=some (f,hd'),
  ⟨ds.length,by simp,zero_le _,ρ1,ls,h1,.refl,R1,hL.ext hR x1,G1,by simpa using hm⟩,?_⟩
 rintro i m σ2 H2 ⟨rfl,hi,ρ2,ls2,hd2,x2,R2,L2',G2,hm2⟩;obtain⟨Y1,Y2⟩:=Y ρ2 H2 hd2 x2 R2 G2 i;by_cases hlt:i<ds.length
 .obtain⟨go,Y1⟩:=Y1 hlt;have ed:ds.drop i=ds[i]::ds.drop (i+1):=List.drop_eq_getElem_cons hlt;rw[ed]at hm2;unfold C2 at hm2;obtain⟨ls3,e3,hm2⟩:=ac hm2;obtain⟨⟨fl,hd4⟩,e4,hm2⟩:=ac hm2;refine .inr ⟨go,λσ' H'=>∃ρ2 ls2 hd2,Ext ρ1 H1 ρ2 H'/\RH K ρ2 H' hd2/\RL K ρ2 H' ls2 σ'/\GOk hd2 gd/\C2 n b gd (ds.drop (i+1)) ls2 hd2=some (f,hd'),λσ' H' z=>⟨ds.length-(i+1),by omega,rfl,hlt,z⟩,λx H3 y=>?_⟩;obtain⟨ρ3,d3,x3,rfl,R3,e5,r3⟩:=Y1 x H3 y;have e6:d3=ds[i]:=by
   have:ds[i]?=some ds[i]:=by simp[hlt]
   rw[this]at e5;exact(Option.some.inj e5).symm
  subst e6;refine hg ρ3 σ2 H3 hd2 ls2 ls3 _ x _ R3 (L2'.ext R2 x3) r3 e3 λσ4 L4=>?_;refine hb ρ3 σ4 H3 hd2 ls3 _ fl hd4 R3 L4 e4 λρ5 H5 x5 R5=>?_;have x15:=(x2.trans R2 x3).trans R3 x5;cases fl with
  |nx ls5=>
   intro σ5 L5;dsimp only at hm2;split at hm2
   .next c=>exact⟨ρ5,ls5,hd4,x15,R5,L5,c,hm2⟩
   .cases hm2
  |ct ls5=>
   intro σ5 L5;dsimp only at hm2;split at hm2
   .next c=>exact⟨ρ5,ls5,hd4,x15,R5,L5,c,hm2⟩
   .cases hm2
  |bk ls5=>
   intro σ5 L5;cases hm2;exact hQ ρ5 H5 (x1.trans R1 x15) R5 σ5 L5
  |rt d5=>
   intro v5 r5;cases hm2;exact hQ ρ5 H5 (x1.trans R1 x15) R5 v5 r5
 .have e:i=ds.length:=by omega
  subst e;rw[List.drop_length]at hm2;unfold C2 at hm2;cases hm2;exact .inl ⟨Y2 rfl,hQ ρ2 H2 (x1.trans R1 x2) R2 σ2 L2'⟩
open Classical in
def B6(n:MG)(c:MT)(m:ME)(g:Gd):List D->Ls->Hd->Option (List D×Hd)
 |[],_,hd=>some ([],hd)
 |d::r,ls,hd=>(n d ls hd).bind λls1=>(c ls1 hd).bind λp=>if p.1=true then(m ls1 p.2).bind λq=>if GOk q.2 g then(B6 n c m g r ls1 q.2).map λz=>(q.1::z.1,z.2)else none else if GOk p.2 g then B6 n c m g r ls1 p.2 else none
def F3(k:Nat)(ix:List Nat)(ls:Ls):Ls:=List.replicate k none++ix.map λi=>(ls[i]?).join
open Classical in
def BO(k:Nat)(ix:List Nat)(mi:MI)(n:MG)(c:MT)(m:ME):MA:=λls hd=>(mi ls hd).bind λp=>if Bh p.1.1.length then B6 n c m p.1.2 p.1.1 (F3 k ix ls) p.2 else none
def UD{k:Nat}{ix:List Nat}{ls:Ls}{σ:St}(h:RL K ρ H ls σ):RL K ρ H (F3 k ix ls) (GW k ix σ):=by
 refine⟨by simp[F3,GW],λi d e=>?_⟩;unfold F3 at e;unfold GW;by_cases hi:i<k
 .rw[List.getElem?_append_left (by simpa using hi),List.getElem?_replicate]at e;split at e<;>cases e
 .have hi':k<=i:=Nat.not_lt.mp hi;rw[List.getElem?_append_right (by simpa using hi'),List.length_replicate,List.getElem?_map]at e ⊢;cases q:ix[i-k]? with
  |none=>rw[q]at e;cases e
  |some j=>
   rw[q]at e;simp only[map_some,Option.some.injEq]at e ⊢;have e5:ls[j]?=some (some d):=by
    cases w:ls[j]? with
    |none=>rw[w]at e;cases e
    |some z=>rw[w]at e;simpa using e
   obtain⟨v,e6,e7⟩:=h.ob j d e5;exact⟨v,by rw[e6];rfl,e7⟩
def Lg{k:Nat}{ix:List Nat}{wi:TI}{g:TG}{tf:TT}{te:TE}{mi:MI}{n:MG}{c:MT}{m:ME}(hi:RIt K wi mi)(hg:RGt K g n)(hf:RT K tf c)(he:RE K te m):RN K (FX k ix wi g tf te) (BO k ix mi n c m):=by
 intro ρ σ H hd ls Q out hd' hR hL hm hQ;obtain⟨⟨⟨ds,gd⟩,h1⟩,e1,hm⟩:=ac hm;dsimp only at hm;split at hm
 .next hlen=>
  have hlen:ds.length<=sizeLine:=hlen;refine hi ρ σ H hd ls _ ds gd h1 hR hL e1 λρ1 H1 J x1 R1 G1 Y=>?_;intro Da hDa;obtain⟨R1',x1'⟩:=R1.hid (ho:=.lst []) hDa;have oD:Da∉ρ1:=R1.out hDa;have nD:H Da=none:=x1.none hR hDa R1;refine⟨λi mm σ2 ys H2=>mm=ds.length-i/\i<=ds.length/\∃ρ2 ls2 hd2 es rest,Ext ρ1 (upd H1 Da (.lst ys)) ρ2 H2/\Ext ρ1 H1 ρ2 H2/\Da∉ρ2/\H2 Da=some (.lst ys)/\RH K ρ2 H2 hd2/\RL K ρ2 H2 ls2 σ2/\RDs K ρ2 H2 es ys/\es.length<=i/\GOk hd2 gd/\B6 n c m gd (ds.drop i) ls2 hd2=some (rest,hd')/\out=es++rest,
   ⟨ds.length,by simp,zero_le _,ρ1,_,h1,[],out,.refl,x1',oD,Ag,R1',(UD ((hL.ext hR x1).ext R1 x1')),.nil,le_refl _,G1,by simpa using hm,rfl⟩,?_⟩
  rintro i mm σ2 ys H2 ⟨rfl,hi,ρ2,ls2,hd2,es,rest,x2',x2,oD2,hD2,R2,L2',r2,hle,G2,hm2,rfl⟩;refine⟨hD2,?_⟩;obtain⟨Y1,Y2⟩:=Y ρ2 H2 hd2 x2 R2 G2 i;by_cases hlt:i<ds.length
  .obtain⟨go,Y1⟩:=Y1 hlt;have ed:ds.drop i=ds[i]::ds.drop (i+1):=List.drop_eq_getElem_cons hlt;rw[ed]at hm2;unfold B6 at hm2;obtain⟨ls3,e3,hm2⟩:=ac hm2;obtain⟨⟨bb,hd4⟩,e4,hm2⟩:=ac hm2;refine .inr ⟨go,lt_of_le_of_lt (by rw[r2.len];exact hle) (by omega),λσ' ys' H'=>∃ρ2 ls2 hd2 es' rest',Ext ρ1 (upd H1 Da (.lst ys')) ρ2 H'/\Ext ρ1 H1 ρ2 H'/\Da∉ρ2/\H' Da=some (.lst ys')/\RH K ρ2 H' hd2/\RL K ρ2 H' ls2 σ'/\RDs K ρ2 H' es' ys'/\es'.length<=i+1/\GOk hd2 gd/\B6 n c m gd (ds.drop (i+1)) ls2 hd2=some (rest',hd')/\es++rest=es'++rest',λσ' ys' H' z=>⟨ds.length-(i+1),by omega,rfl,hlt,z⟩,λx H3 y=>?_⟩;obtain⟨ρ3,d3,x3,rfl,R3,e5,r3⟩:=Y1 x H3 y;have e6:d3=ds[i]:=by
    have:ds[i]?=some ds[i]:=by simp[hlt]
    rw[this]at e5;exact(Option.some.inj e5).symm
   subst e6;refine hg ρ3 σ2 H3 hd2 ls2 ls3 _ x _ R3 (L2'.ext R2 x3) r3 e3 λσ4 L4=>?_;refine hf ρ3 σ4 H3 hd2 ls3 _ bb hd4 R3 L4 e4 λρ5 H5 x5 R5=>?_;have hD5:H5 Da=some (.lst ys):=x5.keep Da _ (x3.keep Da _ hD2 oD2 nt) oD2 nt;have out5:Da∉ρ5:=by
    obtain⟨r,rfl,fr⟩:=x5.pre;intro z;rcases mem_append.mp z with z|z
    .exact oD2 z
    .have:=fr _ z;rw[x3.keep Da _ hD2 oD2 nt]at this;cases this
   cases bb with
   |false=>
    rw[if_neg Bool.false_ne_true]at hm2 ⊢;have y25:=x3.trans R3 x5;split at hm2
    .next g5=>exact⟨ρ5,ls3,hd4,es,rest,x2'.trans R2 y25,(x2.trans R2 y25),out5,hD5,R5,L4.ext R3 x5,(r2.ext R2 y25),by omega,g5,hm2,rfl⟩
    .cases hm2
   |true=>
    rw[if_pos rfl]at hm2 ⊢;obtain⟨⟨z,hd6⟩,e6,hm2⟩:=ac hm2;obtain⟨g6,hm2⟩:GOk hd6 gd/\((B6 n c m gd (ds.drop (i+1)) ls3 hd6).map λq=>(z::q.1,q.2))=some (rest,hd'):=by
     dsimp only at hm2;split at hm2
     .next g6=>exact⟨g6,hm2⟩
     .cases hm2
    obtain⟨⟨zs,hd7⟩,e7,e8⟩:=ad hm2;cases e8;refine he ρ5 σ4 H5 hd4 ls3 _ z hd6 R5 (L4.ext R3 x5) e6 λρ6 H6 v6 x6 R6 r6=>?_;have hD6:H6 Da=some (.lst ys):=x6.keep Da _ hD5 out5 nt;have out6:Da∉ρ6:=by
     obtain⟨r,rfl,fr⟩:=x6.pre;intro z;rcases mem_append.mp z with z|z
     .exact out5 z
     .have:=fr _ z;rw[hD5]at this;cases this
    refine⟨hD6,?_⟩;have y26:=(x3.trans R3 x5).trans R5 x6;have gr:Grow H6 (upd H6 Da (.lst (ys++[v6]))):=Grow.refl.put (.lst hD6);have R7:=R6.hput (ho:=.lst (ys++[v6])) out6 hD6;have x12:=x2.trans R2 y26;have ext7:Ext ρ1 H1 ρ6 (upd H6 Da (.lst (ys++[v6]))):=⟨x12.pre,λb o q nb t=>by
     have:b≠Da:=Au q hDa;rw[AZ this];exact x12.keep b o q nb t,λb ps q=>by
     have:b≠Da:=Au q hDa;rw[AZ this];exact x12.tab b ps q⟩
    have ext8:Ext ρ1 (upd H1 Da (.lst (ys++[v6]))) ρ6 (upd H6 Da (.lst (ys++[v6]))):=by
     obtain⟨r,er,fr⟩:=x12.pre;refine⟨⟨r,er,λb hb=>?_⟩,λb o q nb t=>?_,λb ps q=>?_⟩
     .have:b≠Da:=λz=>out6 (by rw[er,<- z];exact mem_append_right _ hb);rw[AZ this];exact fr b hb
     .by_cases hb:b=Da
      .subst hb;rw[Ag]at q ⊢;exact q
      .rw[AZ hb]at q ⊢;exact x12.keep b o q nb t
     .by_cases hb:b=Da
      .subst hb;rw[Ag]at q;cases q
      .rw[AZ hb]at q ⊢;exact x12.tab b ps q
    refine⟨ρ6,ls3,hd6,es++[z],zs,ext8,ext7,out6,Ag,R7,?_,?_,by simp;omega,g6,e7,by simp⟩
    .have L6:=(L4.ext R3 x5).ext R5 x6;exact⟨L6.len,λi d e=>let ⟨v,a,b⟩:=L6.ob i d e;⟨v,a,by simpa using b.mono gr []⟩⟩
    .have:=((r2.ext R2 y26).app (.cons r6 .nil)).mono gr [];simpa using this
  .have e:i=ds.length:=by omega
   subst e;rw[List.drop_length]at hm2;unfold B6 at hm2;cases hm2;refine .inl ⟨Y2 rfl,?_⟩;exact hQ ρ2 H2 Da ys (x1.trans R1 x2) R2 nD oD2 hD2 (by simpa using r2)
 .cases hm
end
mutual
def clD(w:Nat):D->Bool
 |.im _=>true
 |.mu n=>decide (n<w)
 |.tm ds=>Bj w ds
 |.ro _=>true
def Bj(w:Nat):List D->Bool
 |[]=>true
 |d::ds=>clD w d&&Bj w ds
end
def FC(w:Nat):List (Key×D)->Bool
 |[]=>true
 |d::ds=>clD w d.2&&FC w ds
def clO(w:Nat):MO->Bool
 |.lst ds=>Bj w ds
 |.dic ds=>FC w ds
section
variable{K:PySem.W.Frag}{ρ ρ' ρ1:List Addr}{H H' H1:Hp}{hd hd' h1 h2:Hd}
mutual
def RD.take(w:Nat):∀{d:D} {v:V},RD K ρ H d v->clD w d=true->RD K (ρ.take w) H d v
 |.im i,v,h,_=>by simp only[RD]at h ⊢;exact h
 |.mu n,v,h,c=>by
  simp only[RD]at h ⊢;obtain⟨a,e,q⟩:=h;exact⟨a,by rw[List.getElem?_take_of_lt (by simpa [clD]using c)];exact e,q⟩
 |.tm ds,v,h,c=>by
  simp only[RD]at h ⊢;obtain⟨a,xs,e,q,z⟩:=h;exact⟨a,xs,e,q,RDs.take' w z (by simpa [clD]using c)⟩
 |.ro ns,v,h,c=>by simp only[RD]at h ⊢;exact h
def RDs.take'(w:Nat):∀{d:List D} {v:List V},RDs K ρ H d v->Bj w d=true->RDs K (ρ.take w) H d v
 |[],v,h,_=>by simpa only[RDs]using h
 |d::ds,v,h,c=>by
  simp only[RDs]at h ⊢;obtain⟨x,r',e,q,z⟩:=h;have c:clD w d=true/\Bj w ds=true:=by simpa [Bj]using c
  exact⟨x,r',e,q.take w c.1,RDs.take' w z c.2⟩
end
def RKs.take(w:Nat):∀{d:List (Key×D)} {v:List (Key×V)},RKs K ρ H d v->FC w d=true->RKs K (ρ.take w) H d v
 |[],v,h,_=>by simpa only[RKs]using h
 |d::ds,v,h,c=>by
  simp only[RKs]at h ⊢;obtain⟨x,r',e,q1,q,z⟩:=h;have c:clD w d.2=true/\FC w ds=true:=by simpa [FC]using c
  exact⟨x,r',e,q1,q.take w c.1,RKs.take w z c.2⟩
def RC.take(w:Nat){o:MO}{ho:HO}(h:RC K ρ H o ho)(c:clO w o=true):RC K (ρ.take w) H o ho:=by
 cases o with
 |lst ds=>obtain⟨xs,e,q⟩:=h;exact⟨xs,e,q.take' w c⟩
 |dic ds=>obtain⟨xs,e,q⟩:=h;exact⟨xs,e,q.take w c⟩
def RH.take(h:RH K ρ H hd)(w:Nat)(c:(hd.take w).all (clO w)=true):RH K (ρ.take w) H (hd.take w):=by
 refine⟨by simp[h.len],h.nd.sublist (List.take_sublist _ _),h.tabs,λn o a e1 e2=>?_⟩;have co:=all_eq_true.mp c o (mem_of_getElem? e1);have hn:n<w:=by
  have:=(List.getElem?_eq_some_iff.mp e1).1;simp at this;omega
 rw[List.getElem?_take_of_lt hn]at e1 e2;obtain⟨ho,q1,q2⟩:=h.ob n o a e1 e2;exact⟨ho,q1,q2.take w co⟩
def RH.back(R1:RH K ρ1 H1 h1){w:Nat}(hw:w<=h1.length)(c1:(h1.take w).all (clO w)=true)(x:Ext (ρ1.take w) H1 ρ' H')(R':RH K ρ' H' h2)(c:(h2.take w).all (clO w)=true):
 RH K ρ1 H' (h2.take w++h1.drop w)/\Ext ρ1 H1 ρ1 H'/\ρ'.take w=ρ1.take w:=by
 obtain⟨r,rfl,fr⟩:=x.pre;have lw:(ρ1.take w).length=w:=by rw[length_take,R1.len];omega
 have l2:w<=h2.length:=by rw[<- R'.len];simp[lw]
 have tk:(ρ1.take w++r).take w=ρ1.take w:=by rw[List.take_append_of_le_length (by omega),List.take_take];simp
 refine⟨⟨?_,R1.nd,R'.tabs,λn o a e1 e2=>?_⟩,⟨⟨[],by simp,by simp⟩,λb o q nb t=>x.keep b o q (λm=>nb (mem_of_mem_take m)) t,x.tab⟩,tk⟩
 .rw[length_append,length_take,length_drop,R1.len];omega
 .by_cases hn:n<w
  .rw[List.getElem?_append_left (by rw[length_take];omega),List.getElem?_take_of_lt hn]at e1;have e3:(ρ1.take w++r)[n]?=some a:=by
    rw[List.getElem?_append_left (by omega),List.getElem?_take_of_lt hn];exact e2
   obtain⟨ho,q1,q2⟩:=R'.ob n o a e1 e3;have co:=all_eq_true.mp c o (by
    have:(h2.take w)[n]?=some o:=by rw[List.getElem?_take_of_lt hn];exact e1
    exact mem_of_getElem? this)
   have q3:=q2.take w co;rw[tk]at q3;have q4:=q3.mono (Grow.refl (H:=H')) (ρ1.drop w);rw[List.take_append_drop]at q4;exact⟨ho,q1,q4⟩
  .rw[List.getElem?_append_right (by rw[length_take];omega),length_take,List.getElem?_drop]at e1;have e1:h1[n]?=some o:=by
    have:w+(n-min w h2.length)=n:=by omega
    rw[this]at e1;exact e1
   obtain⟨ho,q1,q2⟩:=R1.ob n o a e1 e2;have out:a∉ρ1.take w:=λm=>by
    obtain⟨k,hk⟩:=List.mem_iff_getElem?.mp m;have kw:k<w:=by
     have:=(List.getElem?_eq_some_iff.mp hk).1;rw[lw]at this;exact this
    rw[List.getElem?_take_of_lt kw]at hk;have:=(List.getElem?_inj (List.getElem?_eq_some_iff.mp e2).1 R1.nd).mp (e2.trans hk.symm);omega
   have gr:=x.grow (R1.take w c1);exact⟨ho,x.keep a ho q1 out (λps z=>by rcases R1.mut (mem_of_getElem? e2)with⟨y,w⟩|⟨y,w⟩<;>(rw[q1,z]at w;cases w)),by simpa using q2.mono gr []⟩
def spF(K:PySem.W.Frag)(k:Nat)(F:List D->Hd->Option (D×Hd)):Sp:=λvs H Q _=>vs.length=k/\∃(ρ:List Addr) (hd:Hd) (ds:List D) (d:D) (hd':Hd),RH K ρ H hd/\RDs K ρ H ds vs/\F ds hd=some (d,hd')/\
 ∀ρ' H' v,Ext ρ H ρ' H'->RH K ρ' H' hd'->RD K ρ' H' d v->Q v H'
def mkF(k n:Nat)(m:MS):List D->Hd->Option (D×Hd):=λds hd=>if ds.length=k then(match m (ds.map some++List.replicate (n-k) none) hd with
 |some (.rt d,hd')=>some (d,hd')
 |some (.nx _,hd')=>some (.im .non,hd')
 | _=>none)else none
def KU{N:List Str}:∀{ds:List D} {vs:List V},RDs K ρ H ds vs->RL K ρ H (ds.map some++List.replicate (N.length-ds.length) none) (D8 N vs):=by
 intro ds vs r;have hl:=r.len;refine⟨by simp[D8,hl],λi d e=>?_⟩;unfold D8;by_cases hi:i<ds.length
 .rw[List.getElem?_append_left (by simpa using hi),List.getElem?_map]at e;have e':ds[i]?=some d:=by
   cases q:ds[i]? with
   |none=>rw[q]at e;cases e
   |some z=>rw[q]at e;simpa using e
  obtain⟨x,x1,x2⟩:=r.get e';exact⟨x,by rw[List.getElem?_append_left (by rw[length_map,hl];exact hi),List.getElem?_map,x1];rfl,x2⟩
 .rw[List.getElem?_append_right (by simpa using Nat.not_lt.mp hi),List.getElem?_replicate]at e;split at e<;>cases e
def Rq{k:Nat}{N:List Str}{m:MS}{t:TS}(h:RS K t m){vs:List V}{H:Hp}{Q:VK}{E:XK}(s:spF K k (mkF k N.length m) vs H Q E):t { nx:=λ_ H'=>Q .non H',rt:=Q } (D8 N vs) H:=by
 obtain⟨hk,ρ,hd,ds,d,hd',hR,hr,hF,hQ⟩:=s;unfold mkF at hF;split at hF
 .next hl=>
  subst hl;split at hF
  .next q=>
   cases hF;exact h ρ _ H hd _ _ _ _ hR (KU hr) q λρ' H' x R v r=>hQ ρ' H' v x R r
  .next q=>
   cases hF;exact h ρ _ H hd _ _ _ _ hR (KU hr) q λρ' H' x R σ L=>hQ ρ' H' .non x R (by simp[RD,RI])
  .cases hF
 .cases hF
def AJ(F:List D->Hd->Option (D×Hd))(ma:MA):ME:=λls hd=>(ma ls hd).bind λp=>F p.1 p.2
def Ph{k:Nat}{F:List D->Hd->Option (D×Hd)}{t:TA}{m:MA}(h:RA K t m)(hk:∀ds hd z,F ds hd=some z->ds.length=k):RE K (Et (spF K k F) [] E0 t) (AJ F m):=by
 and_intros;obtain⟨⟨d1,h1⟩,e1,hm⟩:=ac hm;refine h ρ σ H hd ls _ d1 h1 hR hL e1 λρ1 H1 v1 x1 R1 r1=>?_;rw[append_nil];exact⟨by rw[r1.len];exact hk _ _ _ hm,ρ1,h1,d1,d,hd',R1,r1,hm,λρ' H' w x2 R2 r2=>hQ ρ' H' w (x1.trans R1 x2) R2 r2⟩
def Tr{k n:Nat}{m:MS}:∀ds hd z,mkF k n m ds hd=some z->ds.length=k:=λds hd z h=>by
 unfold mkF at h;split at h
 .next e=>exact e
 .cases h
def fin(w:Nat)(d:D)(h2 rest:Hd):Option (D×Hd):=if(h2.take w).all (clO w)=true then(match d with
 | .mu k=>if k<w then some (.mu k,h2.take w++rest)else(match h2[k]? with
  |some (.lst ds)=>if Bj w ds=true then some (.mu (w+rest.length),h2.take w++rest++[.lst ds])else none
  | _=>none)
 | d=>if clD w d=true then some (d,h2.take w++rest)else none)else none
def AE(w:Nat)(F:List D->Hd->Option (D×Hd))(ma:MA):ME:=λls hd=>(ma ls hd).bind λp=>
 if w<=p.2.length/\Bj w p.1=true/\(p.2.take w).all (clO w)=true then(F p.1 (p.2.take w)).bind λr=>fin w r.1 r.2 (p.2.drop w)else none
def Pf{w k:Nat}{F:List D->Hd->Option (D×Hd)}{t:TA}{m:MA}(h:RA K t m)(hk:∀ds hd z,F ds hd=some z->ds.length=k):RE K (Et (spF K k F) [] E0 t) (AE w F m):=by
 and_intros;obtain⟨⟨d1,h1⟩,e1,hm⟩:=ac hm;dsimp only at hm;split at hm
 .next c=>
  obtain⟨c0,c1,c2⟩:=c;obtain⟨⟨d2,h2⟩,e2,hm⟩:=ac hm;refine h ρ σ H hd ls _ d1 h1 hR hL e1 λρ1 H1 v1 x1 R1 r1=>?_;rw[append_nil];refine⟨by rw[r1.len];exact hk _ _ _ e2,ρ1.take w,h1.take w,d1,d2,h2,R1.take w c2,r1.take' w c1,e2,λρ' H' v x2 R2 r2=>?_⟩;unfold fin at hm;dsimp only at hm;split at hm
  .next c3=>
   obtain⟨R3,x3,tk⟩:=R1.back c0 c2 x2 R2 c3;have up:∀{d:D} {v:V},RD K ρ' H' d v->clD w d=true->RD K ρ1 H' d v:=λr c=>by
    have q:=r.take w c;rw[tk]at q;have q:=q.mono (Grow.refl (H:=H')) (ρ1.drop w);rw[List.take_append_drop]at q;exact q
   have ups:∀{d:List D} {v:List V},RDs K ρ' H' d v->Bj w d=true->RDs K ρ1 H' d v:=λr c=>by
    have q:=r.take' w c;rw[tk]at q;have q:=q.mono (Grow.refl (H:=H')) (ρ1.drop w);rw[List.take_append_drop]at q;exact q
   split at hm
   .next k'=>
    split at hm
    .next hk'=>
     cases hm;exact hQ ρ1 H' v (x1.trans R1 x3) R3 (up r2 (by simpa [clD]using hk'))
    .next hk'=>
     split at hm
     .next ds q=>
      split at hm
      .next c4=>
       cases hm;simp only[RD]at r2;obtain⟨a,ea,rfl⟩:=r2;obtain⟨xs,l1,l2⟩:=R2.lst ea q;have len3:=R3.len;have out:a∉ρ1:=λm=>by
        -- a is one of those made behind the first w
        obtain⟨r,er,fr⟩:=x2.pre;have lw:(ρ1.take w).length=w:=by rw[length_take,R1.len];omega
        have ma:a∈r:=by
         rw[er,List.getElem?_append_right (by rw[lw];omega)]at ea;exact mem_of_getElem? ea
        exact R1.out (fr a ma) m
       have na:H1 a=none:=by
        obtain⟨r,er,fr⟩:=x2.pre;have lw:(ρ1.take w).length=w:=by rw[length_take,R1.len];omega
        have ma:a∈r:=by
         rw[er,List.getElem?_append_right (by rw[lw];omega)]at ea;exact mem_of_getElem? ea
        exact fr a ma
       refine hQ (ρ1++[a]) H' _ (x1.trans R1 (x3.name na)) (R3.name out l1 (ups l2 c4)) ?_;simp only[RD];refine⟨a,?_,rfl⟩;have:w+(List.drop w h1).length=ρ1.length:=by rw[length_drop,R1.len];omega
       rw[this];simp
      .cases hm
     .cases hm
   .next d' nd=>
    split at hm
    .next c4=>cases hm;exact hQ ρ1 H' v (x1.trans R1 x3) R3 (up r2 c4)
    .cases hm
  .cases hm
 .cases hm
def Bi(kvs:List (Key×D))(k:Key):Option D:=(kvs.find? λkv=>decide (kv.1=k)).map (·.2)
def DR(kvs:List (Key×D))(k:Key)(v:D):List (Key×D):=
 if(kvs.any λkv=>decide (kv.1=k))=true then kvs.map (λkv=>if kv.1=k then(kv.1,v)else kv)else kvs++[(k,v)]
def RKs.val:∀{kvs:List (Key×D)} {xs:List (Key×V)} {k:Key} {d:D},RKs K ρ H kvs xs->Bi kvs k=some d->∃v,DO xs k=some v/\RD K ρ H d v
 |[],xs,k,d,h,e=>by simp[Bi]at e
 |p::kvs,xs,k,d,h,e=>by
  simp only[RKs]at h;obtain⟨x,r,rfl,e1,r1,r2⟩:=h;by_cases hk:p.1=k
  .rw[EU (e1.trans hk)];simp[Bi,find?_cons,hk]at e;subst e;exact⟨_,rfl,r1⟩
  .rw[EV (by rw[e1];exact hk)];simp only[Bi,find?_cons,hk,decide_false]at e;exact RKs.val r2 e
def RKs.valN:∀{kvs:List (Key×D)} {xs:List (Key×V)} {k:Key},RKs K ρ H kvs xs->(DO xs k).isSome=(Bi kvs k).isSome
 |[],xs,k,h=>by simp only[RKs]at h;subst h;rfl
 |p::kvs,xs,k,h=>by
  simp only[RKs]at h;obtain⟨x,r,rfl,e1,r1,r2⟩:=h;by_cases hk:p.1=k
  .rw[EU (e1.trans hk)];simp[Bi,find?_cons,hk]
  .rw[EV (by rw[e1];exact hk)];simp only[Bi,find?_cons,hk,decide_false];exact RKs.valN r2
def RKs.any:∀{kvs:List (Key×D)} {xs:List (Key×V)} {k:Key},RKs K ρ H kvs xs->(xs.any λkv=>decide (kv.1=k))=(kvs.any λkv=>decide (kv.1=k))
 |[],xs,k,h=>by simp only[RKs]at h;subst h;rfl
 |p::kvs,xs,k,h=>by
  simp only[RKs]at h;obtain⟨x,r,rfl,e1,r1,r2⟩:=h;simp only[any_cons,e1,RKs.any r2]
def RKs.upd:∀{kvs:List (Key×D)} {xs:List (Key×V)} {k:Key} {d:D} {v:V},RKs K ρ H kvs xs->RD K ρ H d v->RKs K ρ H (kvs.map (λkv=>if kv.1=k then(kv.1,d)else kv)) (xs.map (λkv=>if kv.1=k then(kv.1,v)else kv))
 |[],xs,k,d,v,h,_=>by simp only[RKs]at h;subst h;simp[RKs]
 |p::kvs,xs,k,d,v,h,q=>by
  simp only[RKs]at h;obtain⟨x,r,rfl,e1,r1,r2⟩:=h;simp only[map_cons,RKs];refine⟨_,_,rfl,?_,?_,RKs.upd r2 q⟩
  .rw[e1];split<;>simp[e1]
  .rw[e1];split
   .exact q
   .exact r1
def RKs.app:∀{kvs ks:List (Key×D)} {xs ys:List (Key×V)},RKs K ρ H kvs xs->RKs K ρ H ks ys->RKs K ρ H (kvs++ks) (xs++ys)
 |[],ks,xs,ys,h,t=>by simp only[RKs]at h;subst h;simpa using t
 |d::ds,ks,xs,ys,h,t=>by
  simp only[RKs]at h;obtain⟨x,r,rfl,e,z,q⟩:=h;simp only[cons_append,RKs];exact⟨_,_,rfl,e,z,q.app t⟩
def RKs.put{kvs:List (Key×D)}{xs:List (Key×V)}{k:Key}{d:D}{v:V}(h:RKs K ρ H kvs xs)(q:RD K ρ H d v):RKs K ρ H (DR kvs k d) (CD xs k v):=by
 unfold DR CD;rw[h.any];split
 .exact h.upd q
 .exact h.app (by simp only[RKs];exact⟨_,_,rfl,rfl,q,rfl⟩)
def DH:D->Option Key
 |.im (.int i)=>some (.inl i)
 |.im (.str x)=>some (.inr x)
 |_=>none
def Gi{d:D}{v:V}{k:Key}(h:RD K ρ H d v)(e:DH d=some k):v=kV k:=by
 cases d with
 |im i=>
  cases i with
  |int i=>simp only[DH,Option.some.injEq]at e;subst e;simp only[RD,RI]at h;exact h
  |str i=>simp only[DH,Option.some.injEq]at e;subst e;simp only[RD,RI]at h;exact h
  |_=>simp[DH]at e
 |_=>simp[DH]at e
def By(hd:Hd):D->Option (List (Key×D))
 |.mu n=>match hd[n]? with
  |some (.dic kvs)=>some kvs
  |_=>none
 |_=>none
def RD.dic{d:D}{v:V}{kvs:List (Key×D)}(hR:RH K ρ H hd)(h:RD K ρ H d v)(e:By hd d=some kvs):∃n a xs,d=.mu n/\v=.ref a/\ρ[n]?=some a/\H a=some (.dK xs)/\RKs K ρ H kvs xs:=by
 cases d with
 |mu n=>
  simp only[By]at e;simp only[RD]at h;obtain⟨a,hn,rfl⟩:=h;split at e
  .next q=>
   cases e;obtain⟨xs,e1,e2⟩:=hR.dic hn q;exact⟨n,a,xs,rfl,rfl,hn,e1,e2⟩
  .cases e
 |_=>simp[By]at e
def Bv:D->D->Hd->Option (D×Hd):=λd e hd=>(By hd d).bind λkvs=>(DH e).bind λk=>(Bi kvs k).map (·,hd)
def SR{td ty:TE}{md my:ME}(hd:RE K td md)(hy:RE K ty my):RE K (Mb td ty) (mOp Bv md my):=by
 intro ρ σ H hd0 ls Q d hd' hR hL hm hQ;obtain⟨⟨d1,h1⟩,e1,hm⟩:=ac hm;obtain⟨⟨d2,h2⟩,e2,hm⟩:=ac hm;obtain⟨kvs,e3,hm⟩:=ac hm;obtain⟨k,e4,hm⟩:=ac hm;obtain⟨w,e5,e6⟩:=ad hm;cases e6;refine hd ρ σ H hd0 ls _ d1 h1 hR hL e1 λρ1 H1 v1 x1 R1 r1=>?_;refine hy ρ1 σ H1 h1 ls _ d2 _ R1 (hL.ext hR x1) e2 λρ2 H2 v2 x2 R2 r2=>?_;obtain⟨n,a,xs,rfl,rfl,hn,l1,l2⟩:=RD.dic R2 (r1.ext R1 x2) e3;have:=Gi r2 e4;subst this;obtain⟨v,v1,v2⟩:=l2.val e5;exact⟨a,v,rfl,v1 ▸ DGet.k l1,hQ ρ2 H2 v (x1.trans R1 x2) R2 v2⟩
open Classical in
def DB(md my mv:ME):MS:=λls hd=>(mv ls hd).bind λp=>(md ls p.2).bind λq=>(my ls q.2).bind λr=>(DH r.1).bind λk=>match q.1 with
 |.mu n=>match r.2[n]? with
  |some (.dic kvs)=>if Ez kvs.length then some (.nx ls,r.2.set n (.dic (DR kvs k p.1)))else none
  |_=>none
 |_=>none
def S6{td ty tv:TE}{md my mv:ME}(hd:RE K td md)(hy:RE K ty my)(hv:RE K tv mv):RS K (Mi td ty tv) (DB md my mv):=by
 intro ρ σ H hd0 ls E f hd' hR hL hm hQ;obtain⟨⟨d1,h1⟩,e1,hm⟩:=ac hm;obtain⟨⟨d2,h2⟩,e2,hm⟩:=ac hm;obtain⟨⟨d3,h3⟩,e3,hm⟩:=ac hm;obtain⟨k,e4,hm⟩:=ac hm;dsimp only at hm;split at hm
 .split at hm
  .next q=>
   split at hm
   .next c=>
    cases hm;refine hv ρ σ H hd0 ls _ d1 h1 hR hL e1 λρ1 H1 v1 x1 R1 r1=>?_;refine hd ρ1 σ H1 h1 ls _ _ h2 R1 (hL.ext hR x1) e2 λρ2 H2 v2 x2 R2 r2=>?_;refine hy ρ2 σ H2 h2 ls _ d3 _ R2 (hL.ext hR (x1.trans R1 x2)) e3 λρ3 H3 v3 x3 R3 r3=>?_;have r2:=r2.ext R2 x3;simp only[RD]at r2;obtain⟨a,hn,rfl⟩:=r2;obtain⟨xs,l1,l2⟩:=R3.dic hn q;have:=Gi r3 e4;subst this;obtain⟨R4,x4⟩:=R3.put hn (o:=.dic (DR _ k d1)) (ho:=.dK (CD xs k v1)) ⟨_,rfl,l2.put ((r1.ext R1 x2).ext R2 x3)⟩;have x13:=(x1.trans R1 x2).trans R2 x3;exact⟨a,_,rfl,DPut.k l1 (by rw[l2.len];exact c),hQ ρ3 _ (x13.trans R3 x4) R4 σ ((hL.ext hR x13).ext R3 x4)⟩
   .cases hm
  .cases hm
 .cases hm
def Dx:List (ME×ME)->Ls->Hd->Option (List (Key×D)×Hd)
 |[],_,hd=>some ([],hd)
 |(mk,mv)::r,ls,hd=>(mk ls hd).bind λp=>(mv ls p.2).bind λq=>(Dx r ls q.2).bind λz=>(DH p.1).map λk=>((k,q.1)::z.1,z.2)
def Dw(kvs more:List (Key×D)):List (Key×D):=more.foldl (λacc kv=>DR acc kv.1 kv.2) kvs
def RKs.merge:∀{more kvs:List (Key×D)} {ms xs:List (Key×V)},RKs K ρ H more ms->RKs K ρ H kvs xs->RKs K ρ H (Dw kvs more) (Dv xs ms)
 |[],kvs,ms,xs,h,t=>by simp only[RKs]at h;subst h;exact t
 |d::ds,kvs,ms,xs,h,t=>by
  simp only[RKs]at h;obtain⟨x,r,rfl,e,z,q⟩:=h;show RKs K ρ H (Dw (DR kvs d.1 d.2) ds) (Dv (CD xs x.1 x.2) r);rw[e];exact q.merge (t.put z)
def RPs(K:PySem.W.Frag):List (TE×TE)->List (ME×ME)->Prop
 |[],[]=>True
 |t::ts,m::ms=>RE K t.1 m.1/\RE K t.2 m.2/\RPs K ts ms
 |_,_=>False
def Kd:∀{trs:List (TE×TE)} {ms:List (ME×ME)},RPs K trs ms->∀(ρ:List Addr) (σ:St) (H:Hp) (hd:Hd) (ls:Ls) (Q:List (V×V)->Hp->Prop) (kvs:List (Key×D)) (hd':Hd),RH K ρ H hd->RL K ρ H ls σ->Dx ms ls hd=some (kvs,hd') ->
 (∀ρ' H' xs,Ext ρ H ρ' H'->RH K ρ' H' hd'->RKs K ρ' H' kvs xs->Q (xs.map λkv=>(kV kv.1,kv.2)) H')->G8 trs σ H Q
 |[],[],_,ρ,σ,H,hd,ls,Q,kvs,hd',hR,hL,hm,hQ=>by
  cases hm;exact hQ ρ H [] .refl hR (by simp[RKs])
 |(tk,tv)::ts,(mk,mv)::ms,⟨a,b,c⟩,ρ,σ,H,hd,ls,Q,kvs,hd',hR,hL,hm,hQ=>by
   unfold Dx at hm;obtain⟨⟨d1,h1⟩,e1,hm⟩:=ac hm;obtain⟨⟨d2,h2⟩,e2,hm⟩:=ac hm;obtain⟨⟨d3,h3⟩,e3,hm⟩:=ac hm;obtain⟨k,e4,e5⟩:=ad hm;cases e5;unfold G8;refine a ρ σ H hd ls _ d1 h1 hR hL e1 λρ1 H1 v1 x1 R1 r1=>?_;refine b ρ1 σ H1 h1 ls _ d2 h2 R1 (hL.ext hR x1) e2 λρ2 H2 v2 x2 R2 r2=>?_;refine Kd c ρ2 σ H2 h2 ls _ d3 _ R2 (hL.ext hR (x1.trans R1 x2)) e3 λρ3 H3 xs x3 R3 r3=>?_;have:=Gi r1 e4;subst this;exact hQ ρ3 H3 ((k,v2)::xs) ((x1.trans R1 x2).trans R2 x3) R3 (by simp only[RKs];exact⟨_,_,rfl,rfl,r2.ext R2 x3,r3⟩)
 |[],_::_,h,_,_,_,_,_,_,_,_,_,_,_,_=>h.elim
 |_::_,[],h,_,_,_,_,_,_,_,_,_,_,_,_=>h.elim
def Fh(ms:List (ME×ME)):ME:=λls hd=>(Dx ms ls hd).bind λp=>if p.1.length<=15 then some (.mu p.2.length,p.2++[.dic (Dw [] p.1)])else none
def RH.nameD(hR:RH K ρ H hd){a:Addr}{xs:List (Key×V)}{kvs:List (Key×D)}(out:a∉ρ){o:HO}(e:H a=some o)(ht:∀ys,o≠.tup ys)(hf:∀x u,o≠.frz x u)(r:RKs K ρ H kvs xs)(h1:∀ps,o≠.tbl ps:=by intro _ z;cases z)(h2:∀φ,o≠.ext φ:=by intro _ z;cases z):RH K (ρ++[a]) (upd H a (.dK xs)) (hd++[.dic kvs]):=by
 have gr:Grow H (upd H a (.dK xs)):=Grow.refl.put ⟨λys z=>ht ys (by rw[e]at z;exact Option.some.inj z),λx u z=>hf x u (by rw[e]at z;exact Option.some.inj z)⟩;refine⟨by simp[hR.len],?_,hR.tabs.upd (λps z=>h1 ps (Option.some.inj (e.symm.trans z))) (λps z=>h2 ps (Option.some.inj (e.symm.trans z))),λn o' b e1 e2=>?_⟩
 .rw[List.nodup_append];refine⟨hR.nd,by simp,λx hx y hy z=>?_⟩;simp at hy;subst hy;subst z;exact out hx
 .by_cases hn:n<ρ.length
  .rw[List.getElem?_append_left hn]at e2;rw[List.getElem?_append_left (by rw[<- hR.len];exact hn)]at e1;obtain⟨ho',q1,q2⟩:=hR.ob n o' b e1 e2;have:b≠a:=λz=>out (by rw[<- z];exact mem_of_getElem? e2);exact⟨ho',by rw[AZ this];exact q1,q2.mono gr [a]⟩
  .have hn':n=ρ.length:=by
    have:=(List.getElem?_eq_some_iff.mp e2).1;simp at this;omega
   subst hn';simp at e2;rw[hR.len]at e1;simp at e1;subst e1;subst e2;exact⟨_,Ag,⟨xs,rfl,r.mono gr [_]⟩⟩
def SQ{trs:List (TE×TE)}{ms:List (ME×ME)}(h:RPs K trs ms):RE K (Ma trs) (Fh ms):=by
 and_intros;obtain⟨⟨kvs,h1⟩,e1,hm⟩:=ac hm;dsimp only at hm;split at hm
 .next c=>
  cases hm;intro p hp;obtain⟨R0,x0⟩:=hR.hid (ho:=.dK []) hp;refine Kd h ρ σ _ hd ls _ kvs h1 R0 (hL.ext hR x0) e1 λρ1 H1 xs x1 R1 r1=>?_;have hp1:H1 p=some (.dK []):=x1.keep p _ Ag (hR.out hp) nt;have op:p∉ρ1:=by
   obtain⟨r,rfl,fr⟩:=x1.pre;intro z;rcases mem_append.mp z with z|z
   .exact hR.out hp z
   .have:=fr _ z;rw[Ag]at this;cases this
  refine⟨hp1,xs,rfl,by rw[r1.len];exact c,?_⟩;have mm:RKs K ρ1 H1 (Dw [] kvs) (Dv [] xs):=r1.merge (by simp[RKs]);have R2:=R1.nameD op hp1 (λ_ z=>by cases z) (λ_ _ z=>by cases z) mm;have x01:=x0.trans R0 x1;refine hQ (ρ1++[p]) _ _ ?_ R2 ?_
  .obtain⟨r,er,fr⟩:=x01.pre;refine⟨⟨r++[p],by rw[er];simp,λb m=>?_⟩,λb o q nb t=>?_,λb ps q=>?_⟩
   .rcases mem_append.mp m with m|m
    .exact fr b m
    .simp at m;subst m;exact hp
   .have:b≠p:=Au q hp;rw[AZ this];exact x01.keep b o q nb t
   .have:b≠p:=Au q hp;rw[AZ this];exact x01.tab b ps q
  .simp only[RD];exact⟨p,by rw[<- R1.len];simp,rfl⟩
 .cases hm
def Gg(mo mi mv:ME):MS:=λls hd=>(mv ls hd).bind λp=>(mo ls p.2).bind λq=>(mi ls q.2).bind λr=>match q.1,r.1 with
 |.mu n,.im (.int i)=>match r.2[n]? with
  |some (.lst ds)=>(ixN ds.length i).map λj=>(.nx ls,r.2.set n (.lst (ds.set j p.1)))
  |_=>none
 |_,_=>none
def S4{to ti tv:TE}{mo mi mv:ME}(ho:RE K to mo)(hi:RE K ti mi)(hv:RE K tv mv):RS K (EX tv (QL to ti Mq)) (Gg mo mi mv):=by
 intro ρ σ H hd0 ls E f hd' hR hL hm hQ;obtain⟨⟨d1,h1⟩,e1,hm⟩:=ac hm;obtain⟨⟨d2,h2⟩,e2,hm⟩:=ac hm;obtain⟨⟨d3,h3⟩,e3,hm⟩:=ac hm;dsimp only at hm;split at hm
 .split at hm
  .next q=>
   obtain⟨j,e4,e5⟩:=ad hm;cases e5;refine hv ρ σ H hd0 ls _ d1 h1 hR hL e1 λρ1 H1 v1 x1 R1 r1=>?_;refine ho ρ1 σ H1 h1 ls _ _ h2 R1 (hL.ext hR x1) e2 λρ2 H2 v2 x2 R2 r2=>?_;refine hi ρ2 σ H2 h2 ls _ _ _ R2 (hL.ext hR (x1.trans R1 x2)) e3 λρ3 H3 v3 x3 R3 r3=>?_;have r2:=r2.ext R2 x3;simp only[RD]at r2;obtain⟨a,hn,rfl⟩:=r2;simp only[RD,RI]at r3;subst r3;obtain⟨xs,l1,l2⟩:=R3.lst hn q;obtain⟨R4,x4⟩:=R3.put hn (o:=.lst _) (ho:=.lst (xs.set j v1)) ⟨_,rfl,l2.set j ((r1.ext R1 x2).ext R2 x3)⟩;have x13:=(x1.trans R1 x2).trans R2 x3;exact⟨a,xs,_,j,rfl,rfl,l1,by rw[l2.len];exact e4,hQ ρ3 _ (x13.trans R3 x4) R4 σ ((hL.ext hR x13).ext R3 x4)⟩
  .cases hm
 .cases hm
end
end L2
namespace L2
open PySem PySem.Spec PyProof.Rows
structure QG(K:PySem.W.Frag)(X:Cx)(e:Expr)(t:TG)(m:MG):Prop where
 p:PG X e t
 r:RGt K t m
structure QGs(K:PySem.W.Frag)(X:Cx)(e:List Expr)(t:TGs)(m:MGs):Prop where
 p:PGs X e t
 r:LG K t m
structure QI(K:PySem.W.Frag)(X:Cx)(tg e:Expr)(t:TI)(m:MI):Prop where
 p:PI X tg e t
 r:RIt K t m
structure QF(K:PySem.W.Frag)(X:Cx)(e:List Expr)(t:TT)(m:MT):Prop where
 p:PF X e t
 r:RT K t m
structure QO(K:PySem.W.Frag)(X:Cx)(e:Option Expr)(t:TO)(m:MO1):Prop where
 p:PO X e t
 r:RO1 K t m
structure QPs(K:PySem.W.Frag)(X:Cx)(pos:Pos)(keys:List (Option Expr))(values:List Expr)(t:List (TE×TE))(m:List (ME×ME)):Prop where
 p:PPs X pos keys values t
 r:RPs K t m
def YO(a b:List D):Prop:=a≠[]/\Bh (a.length+b.length)
open Classical in
def EF:D->D->Hd->Option (D×Hd):=λd e hd=>(AR d).bind λa=>(AR e).bind λb=>if YO a b then some (AK (a++b),hd)else none
def Lj{K:PySem.W.Frag}:RB K (Mu K) EF:=by
 intro ρ H hd d e v u Q z hd' hR h1 h2 hf hQ;unfold EF at hf;obtain⟨a,e1,hf⟩:=ac hf;obtain⟨b,e2,hf⟩:=ac hf;split at hf
 .next c=>
  cases hf;obtain⟨p,xs,rfl,q1,r1⟩:=h1.tup e1;obtain⟨p2,ys,rfl,q2,r2⟩:=h2.tup e2;have l1:=r1.len;have l2:=r2.len;refine⟨p,p2,xs,ys,rfl,rfl,q1,q2,λz=>c.1 (by rw[z]at l1;simpa using l1.symm),by rw[l1,l2];exact c.2,λz=>?_,λ_ p3 hp=>?_⟩
  .have:b=[]:=by rw[z]at l2;simpa using l2.symm
   subst this;exact hQ ρ H _ .refl hR (by rw[append_nil];exact BZ q1 r1)
  .obtain⟨R2,x2⟩:=hR.hid (ho:=.tup (xs++ys)) hp;exact hQ ρ _ _ x2 R2 (BZ (SqT.of Ag) ((r1.app r2).ext hR x2))
 .cases hf
abbrev AQ:=CK Ks EF
def HY(neg:Bool)(m:ME):ME:=λls hd=>(m ls hd).bind λp=>some (.im (.bl (match p.1 with
 |.im .non=>!neg
 | _=>neg)),p.2)
def Yk{K:PySem.W.Frag}{ρ:List Addr}{H:Hp}{d:D}{v:V}(h:RD K ρ H d v):decide (v=.non)=(match d with|.im .non=>true|_=>false):=by
 cases d with
 |im i=>
  cases i with
  |non=>simp only[RD,RI]at h;subst h;rfl
  |tup is=>simp only[RD,RI]at h;obtain⟨a,xs,rfl,_⟩:=h;rfl
  |_=>simp only[RD,RI]at h;subst h;rfl
 |mu n=>simp only[RD]at h;obtain⟨a,_,rfl⟩:=h;rfl
 |tm ds=>simp only[RD]at h;obtain⟨a,xs,rfl,_⟩:=h;rfl
 |ro ns=>simp only[RD]at h;obtain⟨a,rfl,_⟩:=h;rfl
def SO{K:PySem.W.Frag}{t:TE}{m:ME}(h:RE K t m):RE K (MY t) (HY true m):=by
 and_intros;obtain⟨⟨d1,h1⟩,e1,hm⟩:=ac hm;cases hm;refine h ρ σ H hd ls _ d1 _ hR hL e1 λρ1 H1 v x1 R1 r1=>?_;rw[Yk r1];refine hQ ρ1 H1 _ x1 R1 ?_;simp only[RD,RI];cases d1 with
 |im i=>cases i<;>rfl
 |_=>rfl
def CU(m:ME):ME:=λls hd=>(m ls hd).bind λp=>match p.1 with
 |.im (.int i)=>some (.im (.int (-i)),p.2)
 |_=>none
def V6{K:PySem.W.Frag}{t:TE}{m:ME}(h:RE K t m):RE K (tUn (rU λi=>.int (-i)) t) (CU m):=by
 and_intros;obtain⟨⟨d1,h1⟩,e1,hm⟩:=ac hm;dsimp only at hm;split at hm
 .cases hm;exact h ρ σ H hd ls _ _ _ hR hL e1 λρ1 H1 v x1 R1 r1=>⟨_,by simpa only[RD,RI]using r1,hQ ρ1 H1 _ x1 R1 (by simp[RD,RI])⟩
 .cases hm
def CG:MT:=λ_ hd=>some (true,hd)
def Ug{K:PySem.W.Frag}:RT K P0 CG:=by
 and_intros;cases hm;exact hQ ρ H .refl hR
section
variable(K:PySem.W.Frag){X:Cx}{a b c e:Expr}{es:List Expr}{ta tb tc te:TE}{ma mb mc me:ME}{tA tB':TT}{nA nB:MT}{t:TA}{m:MA}{pos:Pos}{x:Str}
def qv(i:Nat){x:Str}{pos:Pos}(hN:X.N[i]?=some x:=by rfl)(hv:Vis X.env.scope x:=by first|exact Or.inl rfl|exact Or.inr (Or.inl rfl)|exact Or.inr (Or.inr rfl))(hd:(x==("__debug__":Str))=false:=by decide)
 (hcd:(x==("__classdict__":Str))=false:=by decide):QE K X (.Name x pos) (P1 i) (A4 i):=⟨WD hN hv hd hcd,Uz⟩
def Vu{i:Int}{j pos}:QE K X (.Constant (.int i) j pos) (tC (.int i)) (mC (.int i)):=⟨WR,Ml λ_=>by simp[RI]⟩
def Xu{i:Bool}{j pos}:QE K X (.Constant (.bool i) j pos) (tC (.bl i)) (mC (.bl i)):=⟨Y0,Ml λ_=>by simp[RI]⟩
def Vp{j pos}:QE K X (.Constant .none j pos) (tC .non) (mC .non):=⟨WM,Ml λ_=>by simp[RI]⟩
def Vj{x:Str}{j pos}:QE K X (.Constant (.str x) j pos) (tC (.str x)) (mC (.str x)):=⟨WH,Ml λ_=>by simp[RI]⟩
def Ev{op:Operator}{r:R2}{f:D->D->Hd->Option (D×Hd)}(ho:OpR X (binaryOp op) r)(hr:RB K r f)(ha:QE K X a ta ma)(hb:QE K X b tb mb):QE K X (.BinOp a op b pos) (tOp r ta tb) (mOp f ma mb):=⟨Jz ho ha.p hb.p,Jv hr ha.r hb.r⟩
def Vr(ha:QE K X a ta ma):QE K X (.UnaryOp .USub a pos) (tUn (rU λi=>.int (-i)) ta) (CU ma):=⟨Xx UU ha.p,V6 ha.r⟩
def GF{op:CmpOp}{r:R2}{f:D->D->Hd->Option (D×Hd)}(ho:OpR X (compareOp op) r)(hr:RB K r f)(ha:QE K X a ta ma)(hb:QE K X b tb mb)(hm:behindInMarks op b=false:=by first|exact GG _|rfl):QE K X (.Compare a [op] [b] pos) (tOp r ta tb) (mOp f ma mb):=⟨Iv ho ha.p hb.p hm,Jv hr ha.r hb.r⟩
def Du{op:CmpOp}{r:R2}{f:D->D->Hd->Option (D×Hd)}(ho:OpR X (compareOp op) r)(hr:RB K r f)(ha:QE K X a ta ma)(hb:QE K X b tb mb)(hm:behindInMarks op b=false:=by first|exact GG _|rfl):QT K X (.Compare a [op] [b] pos) (Jt (tOp r ta tb)) (AI (mOp f ma mb)):=⟨Lo ho ha.p hb.p hm,EM (Jv hr ha.r hb.r)⟩
def Sa{j pos'}(ha:QE K X a ta ma):QT K X (.Compare a [.IsNot] [.Constant .none j pos'] pos) (tB (MY ta)) (AI (HY true ma)):=⟨W0 (Te ha.p),Yh (SO ha.r)⟩
def Pq(ha:QE K X a ta ma)(he:∀whole,isTrue a X.env whole=(do let v <- whole;standAt a.pos;holding [v] (truthy v)):=by intro _;rfl)(hK:X.K=K:=by rfl):
 QT K X a (λσ H Q=>ta σ H λx H'=>∃k,LF K x H' k/\Q k H') (BE ma):=by
 subst hK;exact⟨Pz ha.p he,PV ha.r⟩
def VP(ha:QT K X a tA nA):QT K X (.UnaryOp .Not a pos) (P7 tA) (Bf nA):=⟨Vz ha.p,Uh ha.r⟩
def SZ(ha:QT K X a tA nA):QW K X (.BoolOp .And [a] pos) tA nA:=⟨T7 ha.p,ha.r⟩
def VN(ha:QT K X a tA nA):QW K X (.BoolOp .Or [a] pos) tA nA:=⟨Vx ha.p,ha.r⟩
def VO{rest:List Expr}(ha:QT K X a tA nA)(hb:QW K X (.BoolOp .And (b::rest) pos) tB' nB):QW K X (.BoolOp .And (a::b::rest) pos) (PL tA tB') (Eg nA nB):=⟨Vy ha.p hb.p,Ui ha.r hb.r⟩
def Xm{rest:List Expr}(ha:QT K X a tA nA)(hb:QW K X (.BoolOp .Or (b::rest) pos) tB' nB):QW K X (.BoolOp .Or (a::b::rest) pos) (tOr tA tB') (mOr nA nB):=⟨Xv ha.p hb.p,Xe ha.r hb.r⟩
def QW.toT{K:PySem.W.Frag}{X:Cx}{e:Expr}{t:TT}{m:MT}(h:QW K X e t m):QT K X e t m:=⟨h.p.pt,h.r⟩
def Vn{op}(ha:QE K X a ta ma):QE K X (.BoolOp op [a] pos) ta ma:=⟨WJ ha.p,ha.r⟩
def Vv{rest:List Expr}(ha:QE K X a ta ma)(hb:QE K X (.BoolOp .And (b::rest) pos) tb mb):QE K X (.BoolOp .And (a::b::rest) pos) (Mc ta tb) (B1 ma mb):=⟨WW ha.p hb.p,SS ha.r hb.r⟩
def Xo{rest:List Expr}(ha:QE K X a ta ma)(hb:QE K X (.BoolOp .Or (b::rest) pos) tb mb):QE K X (.BoolOp .Or (a::b::rest) pos) (P6 ta tb) (J1 ma mb):=⟨Xy ha.p hb.p,V5 ha.r hb.r⟩
def Vo(ha:QE K X a ta ma):QE K X (.UnaryOp .Not a pos) (MX ta) (EE ma):=⟨WK ha.p,SN ha.r⟩
def Pv(hc:QT K X c tA nA)(ha:QE K X a ta ma)(hb:QE K X b tb mb):QE K X (.IfExp c a b pos) (tIf tA ta tb) (mIf nA ma mb):=⟨Q4 hc.p ha.p hb.p,Xj hc.r ha.r hb.r⟩
def Vw:QA K X [] DP A6:=⟨Ed,VI⟩
def T6(ha:QE K X e te me)(hr:QA K X es t m)(hs:starEach (e::es) X.env=(false,eval e X.env)::starEach es X.env:=by rfl):QA K X (e::es) (C8 te t) (A0 me m):=⟨DL ha.p hr.p hs,SX ha.r hr.r⟩
def Vi{x1}(h:QA K X es t m):QE K X (.Tuple es x1 pos) (P2 t) (AL m):=⟨WG h.p,V1 h.r⟩
def VZ(h:QA K X es t m):QN K X (.List es pos) (P8 t) (Aq m):=⟨WN h.p,Ur h.r⟩
def Vq(h:QN K X e te m):QE K X e te (Ad m):=⟨h.p,Nw h.r⟩
def Xq(ha:QE K X a ta ma)(hb:QE K X b tb mb)(hs:JC b:=by exact λ_ _=>rfl)(hK:X.K=K:=by rfl):QE K X (.Subscript a b pos) (tOp (Jw K) ta tb) (mOp gIx ma mb):=⟨Qy ((Ko K hK).or (Lu K hK)) ha.p hb.p hs,Jv Xl ha.r hb.r⟩
def T4(hu:X.A.units+1<cLine)(ha:QE K X a ta ma)(hb:QE K X b tb mb)(hs:Qd b:=by exact λ_ _=>rfl):QE K X (.Subscript a b pos) (Mb ta tb) (mOp Bv ma mb):=⟨Ta hu ha.p hb.p hs,SR ha.r hb.r⟩
def Sm:QO K X none Ii AT:=⟨TL,S9⟩
def Sl(h:QE K X e te me):QO K X (some e) (MV te) (Aa me):=⟨TK h.p,S8 h.r⟩
def Vk{lo hi:Option Expr}{tl th:TO}{ml mh:MO1}{p2:Pos}(h:QE K X e te me)(hl:QO K X lo tl ml)(hh:QO K X hi th mh)(hK:X.K=K:=by rfl):QE K X (.Subscript e (.Slice lo hi none p2) pos) (tSl (Ka K) te tl th) (CT me ml mh):=⟨FZ (Rr K hK) h.p hl.p hh.p,V2 h.r hl.r hh.r⟩
def VX{lo hi:Option Expr}{tl th:TO}{ml mh:MO1}{p2:Pos}(h:QE K X e te me)(hl:QO K X lo tl ml)(hh:QO K X hi th mh)(hK:X.K=K:=by rfl):QN K X (.Subscript e (.Slice lo hi none p2) pos) (tSl (Mp K) te tl th) (Fb me ml mh):=⟨FZ (PM K hK) h.p hl.p hh.p,Up h.r hl.r hh.r⟩
def IG{id:String}{p:Pos}{r:List V->Hp->VK->Prop}{f:List D->Hd->Option (D×Hd)}(hc:CallR X (.builtin id) r)(hr:RF K r f)(hm:X.mg x=none)(hv:bootBuiltins x=some (.builtin id))(ha:QA K X (e::es) t m)(hg:Gl X x:=by rfl)(hn:x≠"__name__":=by decide)(hdb:(x==("__debug__":Str))=false:=by decide)
 (he:starEach (e::es) X.env=(false,eval e X.env)::starEach es X.env:=by rfl) (hpl:(backTo pos (starEach es X.env)).any (·.1)=false:=by rfl):QE K X (.Call (.Name x p) (e::es) [] pos) (tCB r t) (mCB f m):=⟨HL hc hg hm hv ha.p hn hdb he hpl,Qp hr ha.r⟩
def Mw{id:String}{p:Pos}{r:List V->Hp->VK->Prop}{f:List D->Hd->Option (D×Hd)}(hc:CallR X (.type id) r)(hr:RF K r f)(hm:X.mg x=none)(hv:bootBuiltins x=some (.type id))(ha:QA K X (e::es) t m)(hg:Gl X x:=by rfl)(hn:x≠"__name__":=by decide)(hdb:(x==("__debug__":Str))=false:=by decide)
 (he:starEach (e::es) X.env=(false,eval e X.env)::starEach es X.env:=by rfl) (hpl:(backTo pos (starEach es X.env)).any (·.1)=false:=by rfl):QE K X (.Call (.Name x p) (e::es) [] pos) (tCB r t) (mCB f m):=⟨Ew hc hg hm hv ha.p hn hdb he hpl,Qp hr ha.r⟩
def Jx{id:String}{p:Pos}{r:List V->Hp->VK->Prop}{tp:Bool}{g:List D->Option D}(hc:CallR X (.builtin id) r)(hr:RG K tp r g)(hm:X.mg x=none)(hv:bootBuiltins x=some (.builtin id))(ha:QN K X e te m)(hg:Gl X x:=by rfl)(hn:x≠"__name__":=by decide)(hdb:(x==("__debug__":Str))=false:=by decide)
 (he:starEach [e] X.env=[(false,eval e X.env)]:=by rfl):QE K X (.Call (.Name x p) [e] [] pos) (tCB r (C8 te DP)) (Bg g m):=⟨HL hc hg hm hv (DL ha.p Ed he) hn hdb he rfl,Nx hr ha.r⟩
def Xr{id:String}{p:Pos}{r:List V->Hp->VK->Prop}{tp:Bool}{g:List D->Option D}(hc:CallR X (.type id) r)(hr:RG K tp r g)(hm:X.mg x=none)(hv:bootBuiltins x=some (.type id))(ha:QN K X e te m)(hg:Gl X x:=by rfl)(hn:x≠"__name__":=by decide)(hdb:(x==("__debug__":Str))=false:=by decide)
 (he:starEach [e] X.env=[(false,eval e X.env)]:=by rfl):QE K X (.Call (.Name x p) [e] [] pos) (tCB r (C8 te DP)) (Bg g m):=⟨Ew hc hg hm hv (DL ha.p Ed he) hn hdb he rfl,Nx hr ha.r⟩
def Sn{p:Pos}(hm:X.mg "list"=none)(ha:QE K X e te me)(hg:Gl X "list":=by rfl)(he:starEach [e] X.env=[(false,eval e X.env)]:=by rfl)(hK:X.K=K:=by rfl):QN K X (.Call (.Name "list" p) [e] [] pos) (tCB (FG K) (C8 te DP)) (Dm me):=⟨Ew (IW K hK) hg hm M6 (DL ha.p Ed he) (by decide) (by decide) he rfl,SA ha.r⟩
def Pt{p:Pos}(hm:X.mg "list"=none)(ha:QN K X e te m)(hg:Gl X "list":=by rfl)(he:starEach [e] X.env=[(false,eval e X.env)]:=by rfl)(hK:X.K=K:=by rfl):QN K X (.Call (.Name "list" p) [e] [] pos) (tCB (FG K) (C8 te DP)) (FM m):=⟨Ew (IW K hK) hg hm M6 (DL ha.p Ed he) (by decide) (by decide) he rfl,PY ha.r⟩
def Xp{id:String}{r:V->List V->Hp->VK->Prop}{f:D->List D->Hd->Option (D×Hd)}{name:Str}{apos cpos:Pos}{o:Expr}{to:TE}{mo:ME}(slot:Slot "list" name id)(hty:typeOf (.builtin id)=pure (.type "method_descriptor"))(hm:MtM X id r)(hr:RM K r f)(ho:QE K X o to mo)(ha:QA K X (e::es) t m)
 (hbase:attributeBase o name X.env (eval o X.env)=eval o X.env:=by rfl)
 (hfew:((backTo cpos (starEach (e::es) X.env)).all (λx=>!x.1)&&(backToKw cpos (keywordEach [] X.env)).all (λx=>x.1.isSome)
  && decide ((e::es).length+([]:List Keyword).length+(if([]:List Keyword).isEmpty then 0 else 1)<30))=true:=by rfl)
 (hline:(apos.endLine==cpos.line)=true:=by rfl) (hs:starEach (e::es) X.env=(false,eval e X.env)::starEach es X.env:=by rfl) (hplain:(backTo cpos (starEach es X.env)).any (·.1)=false:=by rfl) (hK:X.K=K:=by rfl):
 QE K X (.Call (.Attribute o name apos) (e::es) [] cpos) (tBM K "list" r to t) (mMt f mo m):=by
 subst hK;exact⟨Xz PySem.F.plainAttrs_list slot hty hm ho.p ha.p hbase hfew hline hs hplain,Xi hr ho.r ha.r⟩
def Px(w:Nat){j k:Nat}{f:Addr}{fd:FuncData}{ps:List Str}{n:Nat}{F:List D->Hd->Option (D×Hd)}{st:Stmt}{p:Pos}(G:FnOk X.prog X.w X.K X.mg X.base CX0 j f fd ps (spF K n F))(hr:Room k X.A)(DA:DefAt X.K X.mg x st f fd ps)(ha:QA K X (e::es) t m)(hF:∀ds hd z,F ds hd=some z->ds.length=n)
 (hjk:j<=k:=by decide) (hg:Gl X x:=by rfl) (hdb:(x==("__debug__":Str))=false:=by decide) (he:starEach (e::es) X.env=(false,eval e X.env)::starEach es X.env:=by rfl) (hpl:(backTo pos (starEach es X.env)).any (·.1)=false:=by rfl):
 QE K X (.Call (.Name x p) (e::es) [] pos) (Et (spF K n F) [] E0 t) (AE w F m):=⟨Qz G hr DA ha.p hjk hg hdb he hpl,Pf ha.r hF⟩
def Py{j k:Nat}{f:Addr}{fd:FuncData}{ps:List Str}{n:Nat}{F:List D->Hd->Option (D×Hd)}{st:Stmt}{p:Pos}(G:FnOk X.prog X.w X.K X.mg X.base CX0 j f fd ps (spF K n F))(hr:Room k X.A)(DA:DefAt X.K X.mg x st f fd ps)(ha:QA K X (e::es) t m)(hF:∀ds hd z,F ds hd=some z->ds.length=n)
 (hjk:j<=k:=by decide) (hg:Gl X x:=by rfl) (hdb:(x==("__debug__":Str))=false:=by decide) (he:starEach (e::es) X.env=(false,eval e X.env)::starEach es X.env:=by rfl) (hpl:(backTo pos (starEach es X.env)).any (·.1)=false:=by rfl):
 QE K X (.Call (.Name x p) (e::es) [] pos) (Et (spF K n F) [] E0 t) (AJ F m):=⟨Qz G hr DA ha.p hjk hg hdb he hpl,Ph ha.r hF⟩
def Sk{pos:Pos}:QPs K X pos [] [] [] []:=⟨TJ,trivial⟩
def Ps{pos:Pos}{k v:Expr}{ks:List (Option Expr)}{vs:List Expr}{tk tv:TE}{mk mv:ME}{trs:List (TE×TE)}{ms:List (ME×ME)}(hk:QE K X k tk mk)(hv:QE K X v tv mv)(hr:QPs K X pos ks vs trs ms):QPs K X pos (some k::ks) (v::vs) ((tk,tv)::trs) ((mk,mv)::ms):=⟨Q1 hk.p hv.p hr.p,hk.r,hv.r,hr.r⟩
def T0{pos:Pos}{keys:List (Option Expr)}{values:List Expr}{trs:List (TE×TE)}{ms:List (ME×ME)}(h:QPs K X pos keys values trs ms)(hall:keys.all (·.isSome)=true:=by rfl)(hl:keys.length=values.length:=by rfl)(h0:keys≠[]:=by simp)
 (h15:keys.length<=15:=by decide):QE K X (.Dict keys values pos) (Ma trs) (Fh ms):=⟨TZ h.p hall hl h0 h15,SQ h.r⟩
def Su{i:Nat}(hN:X.N.Nodup)(hi:X.N[i]?=some x)(hx:Loc X.env.scope x)(hf:X.fn x=true∨X.env.scope.names.lookup x=some .local:=by first|exact .inl rfl|exact .inr rfl|assumption):QG K X (.Name x pos) (Dq i) (Am i):=⟨TW hN hi hx hf,Iq⟩
def Ss:QGs K X [] QM Ix:=⟨TU,SF⟩
def Pu{tg:TG}{tgs:TGs}{n:MG}{ns:MGs}(h1:QG K X e tg n)(h2:QGs K X es tgs ns)(hs:(assignEach (e::es) X.env).map (·.2)=assign e X.env::(assignEach es X.env).map (·.2):=by rfl):QGs K X (e::es) (NJ tg tgs) (DT n ns):=⟨Q3 h1.p h2.p hs,PZ h1.r h2.r⟩
def Ve{k n:Nat}{tgs:TGs}{ns:MGs}(hc:X.calm=true)(h:QGs K X es tgs ns)(hK:X.K=K:=by rfl)(hn:(assignEach es X.env).length=n:=by rfl)(hst:(assignEach es X.env).findIdx? (·.1)=none:=by rfl):QG K X (.Tuple es k pos) (NI K n tgs) (HP n ns):=⟨TV K hc h.p hK hn hst,Uw h.r⟩
def Vc{tg:Expr}(h:QE K X e te me)(hK:X.K=K:=by rfl):QI K X tg e (NE K te) (Cb me):=⟨TQ K h.p hK,Uu h.r⟩
def Sr{tg:Expr}(h:QE K X e te me)(hK:X.K=K:=by rfl):QI K X tg e (Gk K te) (DV me):=⟨Kc K h.p hK,SE h.r⟩
def Vd{tg:Expr}(h:QN K X e te m)(hK:X.K=K:=by rfl):QI K X tg e (Gk K te) (Fg m):=⟨Kc K h.p hK,Uv h.r⟩
def Sq{tg:Expr}{p:Pos}(hm:X.mg "range"=none)(ha:QA K X [a] t m)(hg:Gl X "range":=by rfl)(hs:starEach [a] X.env=[(false,eval a X.env)]:=by rfl):QI K X tg (.Call (.Name "range" p) [a] [] pos) (NF t) (E4 m):=⟨O7 hg hm ha.p hs,SD ha.r⟩
def Vg:QF K X [] P0 CG:=⟨WC,Ug⟩
def Vf(h:QT K X c tA nA):QF K X [c] tA nA:=⟨WB h.p,h.r⟩
def So{elt tg iter:Expr}{ifs:List Expr}{scope:Scope}{loc fr:List Str}{ix:List Nat}{wi:TI}{g:TG}{tf:TT}{te:TE}{mi:MI}{n:MG}{mf:MT}{mm:ME}(hc:X.calm=true)(S:CSc X scope fr ix)(hi:QI K X tg iter wi mi)
 (hg:∀s H ex,QG K (cCx X (loc++fr) scope s H ex) tg g n) (hf:∀s H ex,QF K (cCx X (loc++fr) scope s H ex) ifs tf mf) (he:∀s H ex,QE K (cCx X (loc++fr) scope s H ex) elt te mm)
 (hs:∀x,foldedSetIterable iter X.env x=pure x:=by intro _;rfl):QN K X (.ListComp elt [⟨tg,iter,ifs,0⟩] scope pos) (FX loc.length ix wi g tf te) (BO loc.length ix mi n mf mm):=
 ⟨Tc hc S hi.p (λs H ex=>(hg s H ex).p) (λs H ex=>(hf s H ex).p) (λs H ex=>(he s H ex).p) hs,Lg hi.r (hg X.s₀ X.H₀ []).r (hf X.s₀ X.H₀ []).r (he X.s₀ X.H₀ []).r⟩
def Sc:QSs K X [] Ht Ae:=⟨T9,Lb⟩
def Pr{st:Stmt}{rest:List Stmt}{u v:TS}{m1 m2:MS}(h1:QS K X st u m1)(h2:QSs K X rest v m2):QSs K X (st::rest) (P3 u v) (AC m1 m2):=⟨Q0 h1.p h2.p,Uj h1.r h2.r⟩
def Sb{st:Stmt}{u:TS}{m1:MS}(h1:QS K X st u m1):QSs K X [st] u m1:=⟨T8 h1.p,h1.r⟩
def Se:QS K X (.Pass pos) Ht Ae:=⟨TC,Lb⟩
def Sh(he:QE K X e te me)(hs:swapsWith e none pos.line X.env=pure false:=by rfl):QS K X (.Expr e pos) (MZ te) (Do me):=⟨TF he.p hs,S5 he.r⟩
def VR(he:QE K X e te me):QS K X (.Return (some e) pos) (P4 te) (AO me):=⟨W2 he.p,Uk he.r⟩
def Xn{a b:List Stmt}{u v:TS}{m1 m2:MS}(hc:QT K X c tA nA)(ha:QSs K X a u m1)(hb:QSs K X b v m2):QS K X (.If c a b pos) (PH tA u v) (Ar nA m1 m2):=⟨Xw hc.p ha.p hb.p,Xf hc.r ha.r hb.r⟩
def VU{tg:Expr}{g:TG}{n:MG}(he:QE K X e te me)(hg:QG K X tg g n)(hs:swapsWithSole [tg] e pos.line X.env=pure false:=by rfl)(hw:swappedStores [tg] e X.env=pure none:=by rfl)
 (h1:(assignEach [tg] X.env).map (·.2)=[assign tg X.env]:=by rfl):QS K X (.Assign [tg] e pos) (EX te g) (Hb me n):=⟨O4 he.p hg.p hs hw h1,KR he.r hg.r⟩
def VQ{i:Nat}{pos':Pos}(hN:X.N.Nodup)(hi:X.N[i]?=some x)(hx:Loc X.env.scope x)(he:QE K X e te me)(hs:swapsWith e (some (.Name x pos')) pos.line X.env=pure false:=by rfl)(hf:X.fn x=true∨X.env.scope.names.lookup x=some .local:=by first|exact .inl rfl|exact .inr rfl|assumption):
 QS K X (.Assign [.Name x pos'] e pos) (EX te (Dq i)) (AS i me):=⟨W1 hN hi hx he.p hs hf,KR he.r Iq⟩
def Sd{i:Nat}{y:Str}{elt tg iter:Expr}{ifs:List Expr}{scope:Scope}{spos py:Pos}{loc fr:List Str}{ix:List Nat}{wi:TI}{g:TG}{tf:TT}{te:TE}{mi:MI}{n:MG}{mf:MT}{mm:ME}(hN:X.N.Nodup)(hiN:X.N[i]?=some y)(hy:X.env.scope.names.lookup y=some .local)
 (hc:X.calm=true) (S:CSc X scope fr ix) (hi:QI K X tg iter wi mi)
 (hg:∀s H ex,QG K (cCx X (loc++fr) scope s H ex) tg g n) (hf:∀s H ex,QF K (cCx X (loc++fr) scope s H ex) ifs tf mf) (he:∀s H ex,QE K (cCx X (loc++fr) scope s H ex) elt te mm)
 (hsw:swapsWith (.ListComp elt [⟨tg,iter,ifs,0⟩] scope pos) (some (.Name y py)) spos.line X.env=pure true:=by rfl) (hs:∀x,foldedSetIterable iter X.env x=pure x:=by intro _;rfl):
 QS K X (.Assign [.Name y py] (.ListComp elt [⟨tg,iter,ifs,0⟩] scope pos) spos) (EX (FX loc.length ix wi g tf te) (Dq i)) (AS i (Ad (BO loc.length ix mi n mf mm))):=
 ⟨TB hN hiN hy hc S hi.p (λs H ex=>(hg s H ex).p) (λs H ex=>(hf s H ex).p) (λs H ex=>(he s H ex).p) hsw hs,KR (Nw (Lg hi.r (hg X.s₀ X.H₀ []).r (hf X.s₀ X.H₀ []).r (he X.s₀ X.H₀ []).r)) Iq⟩
def VS{i j:Nat}{x y:Str}{a b:Expr}{px py pt:Pos}{kt k2 pt2}(hc:X.calm=true)(hN:X.N.Nodup)(hi:X.N[i]?=some x)(hj:X.N[j]?=some y)(hij:i≠j)
 (hx:X.env.scope.names.lookup x=some .local) (hy:X.env.scope.names.lookup y=some .local) (ha:QA K X [a,b] t m)
 (hw:swappedStores [.Tuple [.Name x px,.Name y py] kt pt] (.Tuple [a,b] k2 pt2) X.env=pure (some [x,y]):=by rfl)
 (hs:swapsWithSole [.Tuple [.Name x px,.Name y py] kt pt] (.Tuple [a,b] k2 pt2) pos.line X.env=pure false:=by rfl):
 QS K X (.Assign [.Tuple [.Name x px,.Name y py] kt pt] (.Tuple [a,b] k2 pt2) pos) (P5 i j t) (Ff [i,j] m):=⟨W3 hc hN hi hj hij hx hy ha.p hw,Ul ha.r⟩
def Sf{i j k:Nat}{x y z:Str}{a b c:Expr}{px py pz pt:Pos}{kt k2 pt2}(hc:X.calm=true)(hN:X.N.Nodup)(hi:X.N[i]?=some x)(hj:X.N[j]?=some y)(hk:X.N[k]?=some z)
 (hx:X.env.scope.names.lookup x=some .local) (hy:X.env.scope.names.lookup y=some .local) (hz:X.env.scope.names.lookup z=some .local) (ha:QA K X [a,b,c] t m)
 (hw:swappedStores [.Tuple [.Name x px,.Name y py,.Name z pz] kt pt] (.Tuple [a,b,c] k2 pt2) X.env=pure (some [x,y,z]):=by rfl)
 (hs:swapsWithSole [.Tuple [.Name x px,.Name y py,.Name z pz] kt pt] (.Tuple [a,b,c] k2 pt2) pos.line X.env=pure false:=by rfl):
 QS K X (.Assign [.Tuple [.Name x px,.Name y py,.Name z pz] kt pt] (.Tuple [a,b,c] k2 pt2) pos) (MW i j k t) (IJ i j k m):=⟨TD hc hN hi hj hk hx hy hz ha.p hw hs,S3 ha.r⟩
def Si{o i value:Expr}{pos':Pos}{td ty tv:TE}{md my mv:ME}(hu:X.A.units+1<cLine)(ho:QE K X o td md)(hi:QE K X i ty my)(hv:QE K X value tv mv)(hs:swapsWith value (some (.Subscript o i pos')) pos.line X.env=pure false:=by rfl):
 QS K X (.Assign [.Subscript o i pos'] value pos) (Mi td ty tv) (DB md my mv):=⟨TH hu ho.p hi.p hv.p hs,S6 ho.r hi.r hv.r⟩
def Sg{o i value:Expr}{pos':Pos}{to ti tv:TE}{mo mi mv:ME}(ho:QE K X o to mo)(hi:QE K X i ti mi)(hv:QE K X value tv mv)(hs:swapsWithSole [.Subscript o i pos'] value pos.line X.env=pure false:=by rfl)(hw:swappedStores [.Subscript o i pos'] value X.env=pure none:=by rfl)
 (h1:(assignEach [.Subscript o i pos'] X.env).map (·.2)=[assign (.Subscript o i pos') X.env]:=by rfl)
 (ha:∀v,assign (.Subscript o i pos') X.env v=(do
  let ov <- holding [v] (eval o X.env)
  let iv <- holding [v,ov] (eval i X.env)
  standAt pos'
  holding [v,ov,iv] (setItem ov iv v)
  release [v,ov,iv] []):=by intro _;rfl):QS K X (.Assign [.Subscript o i pos'] value pos) (EX tv (QL to ti Mq)) (Gg mo mi mv):=⟨O4 hv.p (W9 ho.p hi.p PQ ha) hs hw h1,S4 ho.r hi.r hv.r⟩
def VT{tg iter:Expr}{body:List Stmt}{wi:TI}{g:TG}{tb:TS}{mi:MI}{n:MG}{mb:MS}(hc:X.calm=true)(hi:QI K X tg iter wi mi)(hg:QG K X tg g n)(hb:QSs K X body tb mb)(hp:PassesOwn (model X.prog X.w) X.A X.env X.xe:=by exact PassesOwn.never)
 (hs:∀x,foldedSetIterable iter X.env x=pure x:=by intro _;rfl):QS K X (.For tg iter body [] pos) (PJ wi g tb) (Dk mi n mb):=⟨W4 hp hc hi.p hg.p hb.p hs,Um hi.r hg.r hb.r⟩
end
def Tn{P:Program}{w:World}{K:PySem.W.Frag}{mg:Str->Option Value}{base:Heap}{x:Str}{st:Stmt}{f:Addr}{fd:FuncData}{N ps:List Str}{j:Nat}{m:MS}(DA:DefAt K mg x st f fd ps)(S:FnScope N ps (AH st))
 (h:∀(cdv:Value) (A:Around) (outer:List Env) (s:Shared) (H:Hp) (E:XK),Room j (A.deeper (envOfC x (AH st) s.heap.objs.size f cdv))->∃t,QSs K (GS CX0 P w K mg base N x (AH st) f cdv A outer s H E).nox (Bl st) t m):
 FnOk P w K mg base CX0 (j+1) f fd ps (spF K ps.length (mkF ps.length N.length m)):=by
 refine DA.fn.ok S (λvs H Q E h=>h.1) (λcdv A outer s H vs Q E hr hs=>?_);obtain⟨t,q⟩:=h cdv A outer s H E hr;exact⟨t,q.p,Rq q.r hs⟩
section
variable{X:Cx}{pins:List (Addr×Obj)}{σ:List (Option V)}{H H':Hp}{s:Shared}{h':Heap}
def Inv.turns{tk:Nat}{fp:List Addr}(I:Inv X pins σ H s)(k:∀b o,b∉fp->s.heap.get? b=some o->h'.get? b=some o)(hf:∀b∈fp,Cn X pins H b):Inv X pins σ H { s with heap:=h',toks:=tk }:=by
 have out:∀b u,H b=some u->b∉fp:=λb u e z=>by rw[(hf b z).1]at e;cases e
 have hL:X.env.locals∉fp:=λz=>(hf _ z).2.1 rfl;refine I.step (g':=s.gens) (d':=s.drawn) (ch:=fp) (λb hb=>⟨(hf b hb).2.2.2.1,(hf b hb).2.1,(hf b hb).2.2.2.2.1,(hf b hb).2.2.2.2.2⟩) (λb o _ _ hc e _=>k b o hc e) (λb o _ _ hc e _=>⟨o.slots,k b o hc e⟩) (λ_ _ _ _ n=>n)
  (λb o hc e=>⟨o,k b o hc e⟩) (λ_ _ e=>e) (λ_ _ _ e=>e) (λb ps e=>⟨#[],by rw[e];simp⟩) (λm hm=>?_) (λb u e=>?_) I.bare
 .obtain⟨o,es,ep,ho,r⟩:=hm;exact⟨o,es,ep,k _ o hL ho,r⟩
 .refine(I.hok b u e).stay (λc v hc q=>k c v ?_ q) (λ_ q=>q) λ_ _ q=>q;rcases hc with z|z
  .rw[z];exact out b u e
  .exact out c _ z
end
def Inv.turnsL{X:Cx}{pins:List (Addr×Obj)}{σ:List (Option V)}{H:Hp}{s:Shared}{h':Heap}{tk:Nat}{fp:List Addr}{a:Addr}{o:HO}(I:Inv X pins σ H s)(k:∀b o,b∉fp->s.heap.get? b=some o->h'.get? b=some o)(hf:∀b∈fp,Cn X pins H b)(ha:s.heap.objs.size<=a)(new:ObjOk X.prog X.w (upd H a o) h' a o):
 Inv X pins σ (upd H a o) { s with heap:=h',toks:=tk }:=by
 have out:∀b u,H b=some u->b∉fp:=λb u e z=>by rw[(hf b z).1]at e;cases e
 have hL:X.env.locals∉fp:=λz=>(hf _ z).2.1 rfl;have fr:H a=none:=I.hok.fresh ha;refine I.step (g':=s.gens) (d':=s.drawn) (ch:=fp) (λb hb=>⟨(hf b hb).2.2.2.1,(hf b hb).2.1,(hf b hb).2.2.2.2.1,(hf b hb).2.2.2.2.2⟩) (λb o _ _ hc e _=>k b o hc e) (λb o _ _ hc e _=>⟨o.slots,k b o hc e⟩)
  (λb o _ e n=>by rw[AZ (ne_of_lt (lt_of_lt_of_le (Heap.lt_size e) ha))];exact n) (λb o hc e=>⟨o,k b o hc e⟩) (λb xs e=>by rw[AZ (Au e fr)];exact e) (λb o u e=>by rw[AZ (Au e fr)];exact e)
  (λb ps e=>⟨#[],by rw[AZ (Au e fr),e];simp⟩) (λm hm=>?_) (λb u e=>?_) I.bare
 .obtain⟨o,es,ep,ho,r⟩:=hm;exact⟨o,es,ep,k _ o hL ho,r⟩
 .by_cases hb:b=a
  .subst hb;rw[Ag]at e;cases e;exact new
  .rw[AZ hb]at e;refine(I.hok b u e).stay (λc v hc q=>k c v ?_ q) (λc q=>by rw[AZ (Au q fr)];exact q) λc xs q=>by rw[AZ (Au q fr)];exact q
   rcases hc with z|z
   .rw[z];exact out b u e
   .exact out c _ z
def RowI(tp:Bool)(h:Heap)(it l:Addr)(k:Nat):Prop:=match tp with
 |true=>h.IsTupleIter it l k
 |false=>h.IsListIter it l k
def RowL(tp:Bool)(h:Heap)(l:Addr)(xs:Array Value):Prop:=match tp with
 |true=>h.IsTuple l xs
 |false=>h.IsList l xs
def RowI.at{tp:Bool}{h h':Heap}{it l:Addr}{k:Nat}(x:RowI tp h it l k)(e:∀o,h.get? it=some o->h'.get? it=some o):RowI tp h' it l k:=by
 cases tp with
 |true=>exact Heap.IsTupleIter.at x e
 |false=>exact Heap.IsListIter.at x e
def RowL.at{tp:Bool}{h h':Heap}{l:Addr}{xs:Array Value}(x:RowL tp h l xs)(e:∀o,h.get? l=some o->h'.get? l=some o):RowL tp h' l xs:=by
 cases tp with
 |true=>obtain⟨o,e1,r⟩:=(show h.IsTuple l xs from x);exact⟨o,e _ e1,r⟩
 |false=>obtain⟨o,e1,r⟩:=(show h.IsList l xs from x);exact⟨o,e _ e1,r⟩
def RowI.obj{tp:Bool}{h:Heap}{it l:Addr}{k:Nat}(x:RowI tp h it l k):∃o,h.get? it=some o/\o.data=.fields #[.ref l,.int k 0]:=by
 cases tp with
 |true=>obtain⟨o,e,_,d⟩:=(show h.IsTupleIter it l k from x);exact⟨o,e,d⟩
 |false=>obtain⟨o,e,_,d⟩:=(show h.IsListIter it l k from x);exact⟨o,e,d⟩
def RowL.obj{tp:Bool}{h:Heap}{l:Addr}{xs:Array Value}(x:RowL tp h l xs):∃o n,h.get? l=some o/\o.data=.seq xs n:=by
 cases tp with
 |true=>obtain⟨o,e,_,n,d⟩:=(show h.IsTuple l xs from x);exact⟨o,n,e,d⟩
 |false=>obtain⟨o,e,_,n,d⟩:=(show h.IsList l xs from x);exact⟨o,n,e,d⟩
section
variable{prog:Program}{w:World}{A:Around}{E:Value->Shared->Prop}{s:Shared}{it l:Addr}{k:Nat}{xs:Array Value}{x:Value}
def Oy(hit:s.heap.IsTupleIter it l k)(hl:s.heap.IsTuple l xs)(hx:xs[k]?=some x){Q:Value->Shared->Prop}(hQ:∀g,g.IsTupleIter it l (k+1)->Heap.SameBut it s.heap g->Q x { s with heap:=g }):
 wpAny (model prog w) A (Builtin.SmallTypes.nextOf (.ref it)) Q E s:=by
 obtain⟨o,eo,ec,ed⟩:=id hit;obtain⟨ol,el,_,nl,edl⟩:=hl;unfold Builtin.SmallTypes.nextOf;refine wpAny_bind (wpAny_callSpecial?_slot (name:=Str.ofString "__next__") hit.typeIs PyProof.Rows.slot_tupleiter_next (wpAny_call_entry PyProof.Rows.slot_tupleiter_next hit.typeIs PyProof.Rows.entry_tupleiter_next ?_ (PyProof.Rows.args_tupleiter_next _)));show wpAny _ _ (field (.ref it) 0 >>= _) _ _ s;refine wpAny_bind (wpAny_field eo ed (x:=.ref l) rfl ?_);show wpAny _ _ (if(Value.ref l==Value.none)=true then _ else _) _ _ s;rw[if_neg (show ¬ (Value.ref l==Value.none)=true from Bool.false_ne_true)];show wpAny _ _ (field (.ref it) 1 >>= _) _ _ s;refine wpAny_bind (wpAny_field eo ed (x:=.int k 0) rfl ?_);show wpAny _ _ (seqItems? (.ref l) >>= _) _ _ s;refine wpAny_bind (wpAny_seqItems el edl ?_);simp only[toNat_natCast,hx];refine wpAny_bind (wpAny_setField eo ed (by simp) (wpAny_pure ⟨x,rfl,wpAny_pure (hQ _ ⟨_,Heap.get?_update_self _ eo (Obj.isFreed_of_fields (Obj.data_mapFields ed _)),(Obj.cls_mapFields ..).trans ec,?_⟩ (Heap.SameBut.update ..))⟩));rw[Obj.data_mapFields ed];simp[rawInt]
def Ox(hh:A.handled=none)(hit:s.heap.IsTupleIter it l k)(hl:s.heap.IsTuple l xs)(hx:xs[k]?=none){Q:Value->Shared->Prop}(hE:∀g e,Heap.ExtBut it s.heap g->(∃o,g.get? e=some o/\o.cls=.type "StopIteration")->E (.ref e) { s with heap:=g }):
 wpAny (model prog w) A (Builtin.SmallTypes.nextOf (.ref it)) Q E s:=by
 obtain⟨o,eo,ec,ed⟩:=id hit;obtain⟨ol,el,_,nl,edl⟩:=hl;unfold Builtin.SmallTypes.nextOf;refine wpAny_bind (wpAny_callSpecial?_slot (name:=Str.ofString "__next__") hit.typeIs PyProof.Rows.slot_tupleiter_next (wpAny_call_entry PyProof.Rows.slot_tupleiter_next hit.typeIs PyProof.Rows.entry_tupleiter_next ?_ (PyProof.Rows.args_tupleiter_next _)));show wpAny _ _ (field (.ref it) 0 >>= _) _ _ s;refine wpAny_bind (wpAny_field eo ed (x:=.ref l) rfl ?_);show wpAny _ _ (if(Value.ref l==Value.none)=true then _ else _) _ _ s;rw[if_neg (show ¬ (Value.ref l==Value.none)=true from Bool.false_ne_true)];show wpAny _ _ (field (.ref it) 1 >>= _) _ _ s;refine wpAny_bind (wpAny_field eo ed (x:=.int k 0) rfl ?_);show wpAny _ _ (seqItems? (.ref l) >>= _) _ _ s;refine wpAny_bind (wpAny_seqItems el edl ?_);simp only[toNat_natCast,hx];refine wpAny_bind (wpAny_rule (wpAny_bind (wpAny_setField eo ed (by simp) ?_)));show wpAny _ _ (newExc (.type "StopIteration") [] >>= _) _ _ _;refine wpAny_bind ?_;simp only[newExc,newTuple];refine wpAny_bind (wpAny_newObj_type ?_ (by size_fits));refine wpAny_bind (m:=firstArgMember _ _) (wpAny_of_eq (a:=Value.none) (by first|rfl|(simp only[firstArgMember];rfl)) ?_);refine wpAny_newObj_type ?_ (by size_fits);simp only[raiseNew];refine wpAny_bind (wpAny_handled ?_)
 first|rw[show A.in1.handled=none from hh]|rw[hh]
 exact wpAny_bind (wpAny_pure (wpAny_throw (hE _ _ (((Heap.SameBut.update ..).extBut.push _).push _) ⟨_,Heap.get?_push_size _ rfl,rfl⟩)))
def HI{tp:Bool}(hit:RowI tp s.heap it l k)(hl:RowL tp s.heap l xs)(hx:xs[k]?=some x){Q:Value->Shared->Prop}(hQ:∀g,RowI tp g it l (k+1)->Heap.SameBut it s.heap g->Q x { s with heap:=g }):
 wpAny (model prog w) A (Builtin.SmallTypes.nextOf (.ref it)) Q E s:=by
 cases tp with
 |true=>exact Oy hit hl hx hQ
 |false=>exact wpAny_nextOf_list_item hit hl hx hQ
def KS{tp:Bool}(hh:A.handled=none)(hit:RowI tp s.heap it l k)(hl:RowL tp s.heap l xs)(hx:xs[k]?=none){Q:Value->Shared->Prop}(hE:∀g e,Heap.ExtBut it s.heap g->(∃o,g.get? e=some o/\o.cls=.type "StopIteration")->E (.ref e) { s with heap:=g }):
 wpAny (model prog w) A (Builtin.SmallTypes.nextOf (.ref it)) Q E s:=by
 cases tp with
 |true=>exact Ox hh hit hl hx hE
 |false=>exact wpAny_nextOf_list_end hh hit hl hx hE
end
structure ZAt(t1 t2:Bool)(h:Heap)(z a b i1 i2 l1 l2:Addr)(f0:Value)(j k:Nat):Prop where
 z:IsZip h z a b f0
 p:IsPair h a (.ref i1) (.ref i2)
 o:∃u v,IsPair h b u v
 r1:RowI t1 h i1 l1 j
 r2:RowI t2 h i2 l2 k
structure ZNe(z a b i1 i2 l1 l2:Addr):Prop where
 az:a≠z
 bz:b≠z
 iz:i1≠z
 jz:i2≠z
 ab:a≠b
 ai:a≠i1
 aj:a≠i2
 bi:b≠i1
 bj:b≠i2
 ij:i1≠i2
 lz:l1≠z
 lb:l1≠b
 li:l1≠i1
 lj:l1≠i2
 mz:l2≠z
 mb:l2≠b
 mi:l2≠i1
 mj:l2≠i2
section
variable{prog:Program}{w:World}{A:Around}{E:Value->Shared->Prop}{s:Shared}{t1 t2:Bool}{z a b i1 i2 l1 l2:Addr}{j k:Nat}{xs ys:Array Value}{x y:Value}
abbrev NV(z b i1 i2:Addr)(h h':Heap):Prop:=∀c o,c≠z->c≠b->c≠i1->c≠i2->h.get? c=some o->h'.get? c=some o
def Oo(N:ZNe z a b i1 i2 l1 l2)(Z:ZAt t1 t2 s.heap z a b i1 i2 l1 l2 .none j k)(hl1:RowL t1 s.heap l1 xs)(hl2:RowL t2 s.heap l2 ys)(hx:xs[j]?=some x)(hy:ys[k]?=some y){Q:Value->Shared->Prop}
 (hQ:∀g,ZAt t1 t2 g z a b i1 i2 l1 l2 (rawInt s.heap.objs.size) (j+1) (k+1)->IsPair g s.heap.objs.size x y->NV z b i1 i2 s.heap g->Q (.ref s.heap.objs.size) { s with heap:=g }):
 wpAny (model prog w) A (Builtin.«zip.__next__» ⟨[.ref z],[]⟩) (λfin s'=>∃v,fin=.done (.ret v)/\Q v s') E s:=by
 obtain⟨hz,hp,⟨u,v,hb⟩,q1,q2⟩:=Z;show wpAny _ _ (field (.ref z) 2 >>= _) _ _ _;refine wpAny_bind (wpAny_field hz rfl (x:=.bool false) rfl ?_);show wpAny _ _ (field (.ref z) 3 >>= _) _ _ _;refine wpAny_bind (wpAny_field hz rfl (x:=.ref a) rfl (wpAny_bind (wpAny_seqItems hp rfl ?_)));show wpAny _ _ (Builtin.SmallTypes.ownedTupleIsFree (.ref z) >>= _) _ _ _;unfold Builtin.SmallTypes.ownedTupleIsFree;refine wpAny_bind (wpAny_bind (wpAny_field hz rfl (x:=.none) rfl (wpAny_pure ?_)));simp only[if_true];refine wpAny_bind (wpAny_rule (wpAny_bind (wpAny_field hz rfl (x:=.ref b) rfl ?_)));refine wpAny_bind (wpAny_setField_rec hz (by simp) λg1 z1 s1=>?_);have z1:IsZip g1 z a b .ellipsis:=z1;refine wpAny_bind ?_;simp only[List.zipIdx_cons,List.zipIdx_nil,List.forIn_cons,List.forIn_nil];refine wpAny_bind (wpAny_bind (wpAny_onRaise ?_));show wpAny _ _ (Builtin.SmallTypes.nextOf (.ref i1) >>= _) _ _ _;refine wpAny_bind (HI (s:={ s with heap:=g1 }) (q1.at λo e=>s1.extBut _ _ N.iz e) (hl1.at λo e=>s1.extBut _ _ N.lz e) hx λg2 r2 s2=>wpAny_pure ?_);have b2:IsPair g2 b u v:=s2.extBut _ _ N.bi (s1.extBut _ _ N.bz hb);refine wpAny_bind (wpAny_seqItems b2 rfl (wpAny_bind (wpAny_updateSeq_pair b2 λg3 b3 s3=>?_)));have b3:IsPair g3 b x v:=b3;refine wpAny_bind (wpAny_letGo (wpAny_pure (wpAny_bind (wpAny_bind (wpAny_onRaise ?_)))));show wpAny _ _ (Builtin.SmallTypes.nextOf (.ref i2) >>= _) _ _ _;have q3:RowI t2 g3 i2 l2 k:=q2.at λo e=>s3.extBut _ _ N.bj.symm (s2.extBut _ _ N.ij.symm (s1.extBut _ _ N.jz e));have m3:RowL t2 g3 l2 ys:=hl2.at λo e=>s3.extBut _ _ N.mb (s2.extBut _ _ N.mi (s1.extBut _ _ N.mz e));refine wpAny_bind (HI (s:={ s with heap:=g3 }) q3 m3 hy λg4 r4 s4=>wpAny_pure ?_);have b4:IsPair g4 b x v:=s4.extBut _ _ N.bj b3;refine wpAny_bind (wpAny_seqItems b4 rfl (wpAny_bind (wpAny_updateSeq_pair b4 λg5 b5 s5=>?_)));have b5:IsPair g5 b x y:=b5;refine wpAny_bind (wpAny_letGo (wpAny_pure (wpAny_pure (wpAny_bind (wpAny_seqItems b5 rfl (wpAny_bind (wpAny_newTuple ?_)))))));have sz:g5.objs.size=s.heap.objs.size:=by rw[s5.1,s4.1,s3.1,s2.1,s1.1]
 have z5:IsZip g5 z a b .ellipsis:=s5.extBut _ _ N.bz.symm (s4.extBut _ _ N.jz.symm (s3.extBut _ _ N.bz.symm (s2.extBut _ _ N.iz.symm z1)));have kp:NV z b i1 i2 s.heap g5:=λc o c1 c2 c3 c4 e=>s5.extBut _ _ c2 (s4.extBut _ _ c4 (s3.extBut _ _ c2 (s2.extBut _ _ c3 (s1.extBut _ _ c1 e))));have w1:RowI t1 g5 i1 l1 (j+1):=r2.at λo e=>s5.extBut _ _ N.bi.symm (s4.extBut _ _ N.ij (s3.extBut _ _ N.bi.symm e));have w2:RowI t2 g5 i2 l2 (k+1):=r4.at λo e=>s5.extBut _ _ N.bj.symm e;have zlt:=Heap.lt_size z5;show wpAny _ _ (Builtin.SmallTypes.ownedTupleHandOut (.ref z) (.ref g5.objs.size) >>= _) _ _ _;unfold Builtin.SmallTypes.ownedTupleHandOut;have z6:IsZip (g5.push { cls:=.type "tuple",data:=.seq #[x,y] }) z a b .ellipsis:=Heap.get?_push_of_some _ z5;refine wpAny_bind (wpAny_bind (wpAny_setField_rec z6 (by simp) λg7 z7 s7=>?_));have z7:IsZip g7 z a b (rawInt g5.objs.size):=z7;refine wpAny_setField_rec z7 (by simp) λg8 z8 s8=>wpAny_pure ⟨_,rfl,?_⟩;have z8:IsZip g8 z a b (rawInt g5.objs.size):=z8;have up:∀c o,c≠z->g5.get? c=some o->g8.get? c=some o:=λc o c1 e=>s8.extBut _ _ c1 (s7.extBut _ _ c1 (Heap.get?_push_of_some _ e));have t8:IsPair g8 g5.objs.size x y:=s8.extBut _ _ (ne_of_gt zlt) (s7.extBut _ _ (ne_of_gt zlt) (Heap.get?_push_size _ rfl));show Q (.ref g5.objs.size) _;rw[sz]at z8 t8 ⊢;exact hQ g8 ⟨z8,up _ _ N.az (kp _ _ N.az N.ab N.ai N.aj hp),⟨_,_,up _ _ N.bz b5⟩,w1.at λo e=>up _ o N.iz e,w2.at λo e=>up _ o N.jz e⟩ t8 λc o c1 c2 c3 c4 e=>up c o c1 (kp c o c1 c2 c3 c4 e)
def On(hh:A.handled=none)(N:ZNe z a b i1 i2 l1 l2)(Z:ZAt t1 t2 s.heap z a b i1 i2 l1 l2 .none j k)(hl1:RowL t1 s.heap l1 xs)(hl2:RowL t2 s.heap l2 ys)(hend:xs[j]?=none∨ys[k]?=none){Q:Fin->Shared->Prop}
 (hE:∀g e,NV z b i1 i2 s.heap g->(∃o,g.get? e=some o/\o.cls=.type "StopIteration")->E (.ref e) { s with heap:=g }):
 wpAny (model prog w) A (Builtin.«zip.__next__» ⟨[.ref z],[]⟩) Q E s:=by
 obtain⟨hz,hp,⟨u,v,hb⟩,q1,q2⟩:=Z;show wpAny _ _ (field (.ref z) 2 >>= _) _ _ _;refine wpAny_bind (wpAny_field hz rfl (x:=.bool false) rfl ?_);show wpAny _ _ (field (.ref z) 3 >>= _) _ _ _;refine wpAny_bind (wpAny_field hz rfl (x:=.ref a) rfl (wpAny_bind (wpAny_seqItems hp rfl ?_)));show wpAny _ _ (Builtin.SmallTypes.ownedTupleIsFree (.ref z) >>= _) _ _ _;unfold Builtin.SmallTypes.ownedTupleIsFree;refine wpAny_bind (wpAny_bind (wpAny_field hz rfl (x:=.none) rfl (wpAny_pure ?_)));simp only[if_true];refine wpAny_bind (wpAny_rule (wpAny_bind (wpAny_field hz rfl (x:=.ref b) rfl ?_)));refine wpAny_bind (wpAny_setField_rec hz (by simp) λg1 z1 s1=>?_);have z1:IsZip g1 z a b .ellipsis:=z1;refine wpAny_bind ?_;simp only[List.zipIdx_cons,List.zipIdx_nil,List.forIn_cons,List.forIn_nil];refine wpAny_bind (wpAny_bind (wpAny_onRaise ?_));show wpAny _ _ (Builtin.SmallTypes.nextOf (.ref i1) >>= _) _ _ _;have o1:RowI t1 g1 i1 l1 j:=q1.at λo e=>s1.extBut _ _ N.iz e;have m1:RowL t1 g1 l1 xs:=hl1.at λo e=>s1.extBut _ _ N.lz e;cases hx:xs[j]? with
 |none=>
  refine wpAny_bind (KS (s:={ s with heap:=g1 }) hh o1 m1 hx λg2 e s2 he=>?_);obtain⟨oe,he1,he2⟩:=he;have z2:IsZip g2 z a b .ellipsis:=s2 _ _ N.iz.symm z1;have ne:e≠z:=λq=>by subst q;rw[z2]at he1;cases he1;simp at he2
  exact wpAny_setField_rec z2 (by simp) λg3 _ s3=>hE g3 e (λc o c1 _ c3 _ q=>s3.extBut _ _ c1 (s2 _ _ c3 (s1.extBut _ _ c1 q))) ⟨oe,s3.extBut _ _ ne he1,he2⟩
 |some x=>
  have hy:ys[k]?=none:=by
   rcases hend with q|q
   .rw[hx]at q;cases q
   .exact q
  refine wpAny_bind (HI (s:={ s with heap:=g1 }) o1 m1 hx λg2 r2 s2=>wpAny_pure ?_);have b2:IsPair g2 b u v:=s2.extBut _ _ N.bi (s1.extBut _ _ N.bz hb);refine wpAny_bind (wpAny_seqItems b2 rfl (wpAny_bind (wpAny_updateSeq_pair b2 λg3 b3 s3=>?_)));refine wpAny_bind (wpAny_letGo (wpAny_pure (wpAny_bind (wpAny_bind (wpAny_onRaise ?_)))));show wpAny _ _ (Builtin.SmallTypes.nextOf (.ref i2) >>= _) _ _ _;have q3:RowI t2 g3 i2 l2 k:=q2.at λo e=>s3.extBut _ _ N.bj.symm (s2.extBut _ _ N.ij.symm (s1.extBut _ _ N.jz e));have m3:RowL t2 g3 l2 ys:=hl2.at λo e=>s3.extBut _ _ N.mb (s2.extBut _ _ N.mi (s1.extBut _ _ N.mz e));refine wpAny_bind (KS (s:={ s with heap:=g3 }) hh q3 m3 hy λg4 e s4 he=>?_);obtain⟨oe,he1,he2⟩:=he;have z4:IsZip g4 z a b .ellipsis:=s4 _ _ N.jz.symm (s3.extBut _ _ N.bz.symm (s2.extBut _ _ N.iz.symm z1));have ne:e≠z:=λq=>by subst q;rw[z4]at he1;cases he1;simp at he2
  exact wpAny_setField_rec z4 (by simp) λg5 _ s5=>hE g5 e (λc o c1 c2 c3 c4 q=>s5.extBut _ _ c1 (s4 _ _ c4 (s3.extBut _ _ c2 (s2.extBut _ _ c3 (s1.extBut _ _ c1 q))))) ⟨oe,s5.extBut _ _ ne he1,he2⟩
end
def SqS(K:PySem.W.Frag)(tp:Bool)(H:Hp)(a:Addr)(xs:List V):Prop:=match tp with
 |true=>SqT K H a xs
 |false=>SqL K H a xs
def Itz(K:PySem.W.Frag)(t1 t2:Bool)(a b:Addr):It:=
 ⟨λi H=>∃xs ys x y,SqS K t1 H a xs/\SqS K t2 H b ys/\xs[i]?=some x/\ys[i]?=some y,
  λi H x H'=>∃p u v,H p=none/\H'=upd H p (.tup [u,v])/\x=.ref p/\(∀xs,SqS K t1 H a xs->xs[i]?=some u)/\∀ys,SqS K t2 H b ys->ys[i]?=some v,
  λi H=>∃xs ys,SqS K t1 H a xs/\SqS K t2 H b ys/\(xs.length<=i∨ys.length<=i)⟩
section
variable{X:Cx}{pins:List (Addr×Obj)}{σ:List (Option V)}{H:Hp}{s:Shared}
def Inv.row{tp:Bool}{a:Addr}{xs:List V}(I:Inv X pins σ H s)(h:SqS X.K tp H a xs):∃its:List Value,Vals xs its/\RowL tp s.heap a its.toArray/\xs.length<=sizeLine:=by
 cases tp with
 |true=>obtain⟨its,r,p,z⟩:=I.tuple h;exact⟨its,r,(show s.heap.IsTuple a its.toArray from p),z⟩
 |false=>obtain⟨its,r,p,z⟩:=I.list h;exact⟨its,r,p.isList,z⟩
def Inv.row_inj{tp:Bool}{a:Addr}{xs ys:List V}(I:Inv X pins σ H s)(h:SqS X.K tp H a xs)(h':SqS X.K tp H a ys):xs=ys:=by
 cases tp with
 |true=>exact I.tuple_inj h h'
 |false=>exact I.list_inj h h'
end
def RowL.lt{tp:Bool}{h:Heap}{l:Addr}{xs:Array Value}(x:RowL tp h l xs):l<h.objs.size:=by
 obtain⟨o,n,e,_⟩:=x.obj;exact Heap.lt_size e
def UJ{M:Model}{A:Around}{E:Value->Shared->Prop}{s:Shared}{elts:List Expr}{x1}{pos:Pos}{z a b T:Addr}{Q:Unit->Shared->Prop}(hz:IsZip s.heap z a b (rawInt T)){prog:Program}{w:World}
 (hQ:∀g,IsZip g z a b .none->Heap.SameBut z s.heap g->Q () { s with heap:=g }):wpAny (model prog w) A (letOwnedTupleGo (.Tuple elts x1 pos) (.ref z) (.ref T)) Q E s:=wpAny_letOwnedTupleGo_zip hz hQ
def Ow{P:Program}{w:World}{K:PySem.W.Frag}{elts:List Expr}{kk:Nat}{tpos:Pos}{t1 t2:Bool}{z a b i1 i2 l1 l2:Addr}(N:ZNe z a b i1 i2 l1 l2):Turn P w K (.Tuple elts kk tpos) (Itz K t1 t2 l1 l2) [z,a,b,i1,i2] z (λi h=>ZAt t1 t2 h z a b i1 i2 l1 l2 .none i i) where
 mem:=by simp
 obj:=λi h st c hc=>by
  obtain⟨hz,hp,⟨u,v,hb⟩,q1,q2⟩:=st;simp only[mem_cons,not_mem_nil,or_false]at hc;rcases hc with rfl|rfl|rfl|rfl|rfl
  .exact⟨_,hz,λv z=>by cases(show Data.fields _=Data.cell v from z)⟩
  .exact⟨_,hp,λv z=>by cases(show Data.seq _ _=Data.cell v from z)⟩
  .exact⟨_,hb,λv z=>by cases(show Data.seq _ _=Data.cell v from z)⟩
  .obtain⟨o,e,d⟩:=q1.obj;exact⟨o,e,λv z=>by rw[d]at z;cases z⟩
  .obtain⟨o,e,d⟩:=q2.obj;exact⟨o,e,λv z=>by rw[d]at z;cases z⟩
 keep:=λi h h' st k=>by
  obtain⟨hz,hp,⟨u,v,hb⟩,q1,q2⟩:=st;exact⟨k z (by simp) _ hz,k a (by simp) _ hp,⟨u,v,k b (by simp) _ hb⟩,q1.at λo e=>k i1 (by simp) o e,q2.at λo e=>k i2 (by simp) o e⟩
 item:=by
  intro X hP hw hK hc i pins s σ H E I hf st hg;subst hP hw hK;obtain⟨xs,ys,x,y,h1,h2,hx,hy⟩:=hg;obtain⟨ix,rx,px,zx⟩:=I.row h1;obtain⟨iy,ry,py,zy⟩:=I.row h2;obtain⟨u,hu,ru⟩:=rx.get hx;obtain⟨v,hv,rv⟩:=ry.get hy;have hT:s.TypeIs (.ref z) "zip":=⟨_,st.z,rfl⟩
  unfold pyNext;refine wpAny_bind (wpAny_attempt (wpAny_callSpecial?_slot (name:=Str.ofString "__next__") hT F.slot_zip_next (wpAny_call_entry F.slot_zip_next hT F.entry_zip_next
   (Oo N st px py (x:=u) (y:=v) (by simpa using hu) (by simpa using hv) λg Z g5 kp=>wpAny_pure ⟨_,rfl,?_⟩) (F.args_zip_next_1 _))))
  refine UJ (M:=model X.prog X.w) (s:={ s with heap:=g }) Z.z λg' z' sb=>?_;have kp2:∀c o,c∉[z,a,b,i1,i2]->s.heap.get? c=some o->g'.get? c=some o:=λc o nc e=>by
   simp only[mem_cons,not_mem_nil,or_false,not_or]at nc;exact sb.extBut _ _ nc.1 (kp c o nc.1 nc.2.2.1 nc.2.2.2.1 nc.2.2.2.2 e)
  have hTz:s.heap.objs.size≠z:=ne_of_gt (Heap.lt_size st.z);have hpair:IsPair g' s.heap.objs.size u v:=sb.extBut _ _ hTz g5;have fresh:H s.heap.objs.size=none:=I.hok.fresh (le_refl _);have I2:Inv X pins σ (upd H s.heap.objs.size (.tup [x,y])) { s with heap:=g' }:=I.turnsL (tk:=s.toks) (o:=.tup [x,y]) kp2 hf (le_refl _)
   (show ObjOk X.prog X.w _ g' _ (.tup [x,y])from⟨by show 2<=sizeLine;decide,[u,v],.cons ru (.cons rv .nil),⟨_,hpair,rfl,⟨_,rfl⟩,rfl⟩⟩)
  refine⟨.ref s.heap.objs.size,_,I2,rfl,⟨_,x,y,fresh,rfl,rfl,λxs' q=>by rw[I.row_inj q h1];exact hx,λys' q=>by rw[I.row_inj q h2];exact hy⟩,⟨z',?_,?_,?_,?_⟩,λc hc=>?_⟩
  .exact sb.extBut _ _ N.az Z.p
  .obtain⟨p,q,e⟩:=Z.o;exact⟨p,q,sb.extBut _ _ N.bz e⟩
  .exact Z.r1.at λo e=>sb.extBut _ _ N.iz e
  .exact Z.r2.at λo e=>sb.extBut _ _ N.jz e
  .have lt:c<s.heap.objs.size:=by
    obtain⟨hz,hp,⟨u,v,hb⟩,q1,q2⟩:=st;simp only[mem_cons,not_mem_nil,or_false]at hc;rcases hc with rfl|rfl|rfl|rfl|rfl
    .exact Heap.lt_size hz
    .exact Heap.lt_size hp
    .exact Heap.lt_size hb
    .obtain⟨o,e,_⟩:=q1.obj;exact Heap.lt_size e
    .obtain⟨o,e,_⟩:=q2.obj;exact Heap.lt_size e
   rw[AZ (ne_of_lt lt)];exact(hf c hc).1
 done:=by
  intro X hP hw hK hc i pins s σ H E I hf st hg;subst hP hw hK;obtain⟨xs,ys,h1,h2,hend⟩:=hg;obtain⟨ix,rx,px,zx⟩:=I.row h1;obtain⟨iy,ry,py,zy⟩:=I.row h2;have l1':=rx.length;have l2':=ry.length;have hT:s.TypeIs (.ref z) "zip":=⟨_,st.z,rfl⟩
  unfold pyNext;refine wpAny_bind (wpAny_attempt (wpAny_callSpecial?_slot (name:=Str.ofString "__next__") hT F.slot_zip_next (wpAny_call_entry F.slot_zip_next hT F.entry_zip_next
   (On (A:=X.A.in1) (show X.A.in1.handled=none from I.ok.hd hc) N st px py (hend.imp (λq=>by simp;omega) λq=>by simp;omega) λg e kp he=>?_) (F.args_zip_next_1 _))))
  obtain⟨o,ho,hcl⟩:=he;refine wpAny_bind (wpAny_isInstance (T:="StopIteration") (b:=true) ⟨o,ho,hcl⟩ isSubtype_stop (wpAny_pure ⟨rfl,?_⟩));exact I.turns (tk:=s.toks) (λc o nc e=>by
   simp only[mem_cons,not_mem_nil,or_false,not_or]at nc;exact kp c o nc.1 nc.2.2.1 nc.2.2.2.1 nc.2.2.2.2 e) hf
 self:=λ_ _ _ _ _ st h=>wpAny_pyIter_zip st.z h
abbrev Dp(tp:Bool)(l:Addr):Obj:={ cls:=.type (match tp with|true=>"tuple_iterator" | false=>"list_iterator"),data:=.fields #[.ref l,.int 0 0] }
abbrev zh1(t1:Bool)(h:Heap)(l1:Addr):Heap:=h.push (Dp t1 l1)
abbrev zh2(t1 t2:Bool)(h:Heap)(l1 l2:Addr):Heap:=(zh1 t1 h l1).push (Dp t2 l2)
abbrev zh3(t1 t2:Bool)(h:Heap)(l1 l2:Addr):Heap:=(zh2 t1 t2 h l1 l2).push { cls:=.type "tuple",data:=.seq #[.ref h.objs.size,.ref (zh1 t1 h l1).objs.size] }
abbrev zh4(t1 t2:Bool)(h:Heap)(l1 l2:Addr):Heap:=(zh3 t1 t2 h l1 l2).push { cls:=.type "tuple",data:=.seq #[.none,.none] }
abbrev zh5(t1 t2:Bool)(h:Heap)(l1 l2:Addr):Heap:=(zh4 t1 t2 h l1 l2).push { cls:=.type "zip",data:=.fields #[.none,.bool false,.bool false,.ref (zh2 t1 t2 h l1 l2).objs.size,.ref (zh3 t1 t2 h l1 l2).objs.size] }
set_option maxHeartbeats 4000000 in
def Op(t1 t2:Bool)(l1 l2:Addr)(xs ys:Array Value):
 Meets (Builtin.«zip.__new__» ⟨[.type "zip",.ref l1,.ref l2],[]⟩) (λ_ R s=>RowL t1 s.heap l1 xs/\RowL t2 s.heap l2 ys/\R (.ok (.ret (.ref (zh4 t1 t2 s.heap l1 l2).objs.size))) { s with heap:=zh5 t1 t2 s.heap l1 l2 }):=
 .of_wp λprog w A R s h=>by
  obtain⟨hp,g,d,tk,os⟩:=s;obtain⟨q1,q2,h⟩:=h;have hsub:=sub_zip;have q2':RowL t2 (hp.push (Dp t1 l1)) l2 ys:=q2.at λo e=>Heap.get?_push_of_some _ e;cases t1<;>cases t2
  .have p1:Heap.IsList (Shared.heap ⟨hp,g,d,tk,os⟩) l1 xs:=q1;have p2:Heap.IsList (Shared.heap ⟨hp.push (Dp false l1),g,d,tk,os⟩) l2 ys:=q2'
   wp_walk using wpAny_pyIter_list p1,wpAny_pyIter_list p2
   exact⟨_,rfl,h⟩
  .have p1:Heap.IsList (Shared.heap ⟨hp,g,d,tk,os⟩) l1 xs:=q1;have p2:Heap.IsTuple (Shared.heap ⟨hp.push (Dp false l1),g,d,tk,os⟩) l2 ys:=q2'
   wp_walk using wpAny_pyIter_list p1,wpAny_pyIter_tuple p2
   exact⟨_,rfl,h⟩
  .have p1:Heap.IsTuple (Shared.heap ⟨hp,g,d,tk,os⟩) l1 xs:=q1;have p2:Heap.IsList (Shared.heap ⟨hp.push (Dp true l1),g,d,tk,os⟩) l2 ys:=q2'
   wp_walk using wpAny_pyIter_tuple p1,wpAny_pyIter_list p2
   exact⟨_,rfl,h⟩
  .have p1:Heap.IsTuple (Shared.heap ⟨hp,g,d,tk,os⟩) l1 xs:=q1;have p2:Heap.IsTuple (Shared.heap ⟨hp.push (Dp true l1),g,d,tk,os⟩) l2 ys:=q2'
   wp_walk using wpAny_pyIter_tuple p1,wpAny_pyIter_tuple p2
   exact⟨_,rfl,h⟩
def RY{n l1 l2:Addr}(h1:l1<n)(h2:l2<n):ZNe (n+4) (n+2) (n+3) n (n+1) l1 l2:=by
 have k1:@LT.lt Nat _ l1 n:=h1;have k2:@LT.lt Nat _ l2 n:=h2;constructor<;>(intro z;have z:@Eq Nat _ _:=z;omega)
def Lf{tp:Bool}{h:Heap}{a l:Addr}(e:h.get? a=some (Dp tp l)):RowI tp h a l 0:=by
 cases tp with
 |true=>exact⟨_,e,rfl,rfl⟩
 |false=>exact⟨_,e,rfl,rfl⟩
section
variable{prog:Program}{w:World}{A:Around}{E:Value->Shared->Prop}{s:Shared}
def Oq{t1 t2:Bool}{l1 l2:Addr}{xs ys:Array Value}{Q:Value->Shared->Prop}(q1:RowL t1 s.heap l1 xs)(q2:RowL t2 s.heap l2 ys)
 (h:∀g,ZAt t1 t2 g (s.heap.objs.size+4) (s.heap.objs.size+2) (s.heap.objs.size+3) s.heap.objs.size (s.heap.objs.size+1) l1 l2 .none 0 0->(∀c o,s.heap.get? c=some o->g.get? c=some o)->Q (.ref (s.heap.objs.size+4)) { s with heap:=g }):
 wpAny (model prog w) A (call (.type "zip") [.ref l1,.ref l2]) Q E s:=by
 refine callType_new F.called_zip (by decide) (F.typeCall_zip_2 _ _) (F.newCall_zip_2 _ _) (λobj=>F.args_object_init_3 obj _ _) F.entry_zip_new (Op t1 t2 l1 l2 xs ys) ⟨q1,q2,?_⟩;have n1:(zh1 t1 s.heap l1).objs.size=s.heap.objs.size+1:=Heap.size_push ..;have n2:(zh2 t1 t2 s.heap l1 l2).objs.size=s.heap.objs.size+2:=by rw[Heap.size_push,n1]
 have n3:(zh3 t1 t2 s.heap l1 l2).objs.size=s.heap.objs.size+3:=by rw[Heap.size_push,n2]
 have n4:(zh4 t1 t2 s.heap l1 l2).objs.size=s.heap.objs.size+4:=by rw[Heap.size_push,n3]
 have up:∀{g:Heap} {c:Addr} {o x:Obj},g.get? c=some o->(g.push x).get? c=some o:=λe=>Heap.get?_push_of_some _ e;have e5:(zh5 t1 t2 s.heap l1 l2).get? (zh4 t1 t2 s.heap l1 l2).objs.size=some _:=Heap.get?_push_size _ rfl;have e4:(zh5 t1 t2 s.heap l1 l2).get? (zh3 t1 t2 s.heap l1 l2).objs.size=some _:=up (Heap.get?_push_size _ rfl);have e3:(zh5 t1 t2 s.heap l1 l2).get? (zh2 t1 t2 s.heap l1 l2).objs.size=some _:=up (up (Heap.get?_push_size _ rfl));have e2:(zh5 t1 t2 s.heap l1 l2).get? (zh1 t1 s.heap l1).objs.size=some (Dp t2 l2):=up (up (up (Heap.get?_push_size _ (by cases t2<;>rfl))));have e1:(zh5 t1 t2 s.heap l1 l2).get? s.heap.objs.size=some (Dp t1 l1):=up (up (up (up (Heap.get?_push_size _ (by cases t1<;>rfl)))));show _/\_;rw[n2,n3,n4]at e5;rw[n1,n2]at e3;rw[n3]at e4;rw[n1]at e2;rw[n4];exact⟨⟨_,e5,rfl⟩,h _ ⟨e5,e3,⟨_,_,e4⟩,Lf e1,Lf e2⟩ λc o x=>up (up (up (up (up x))))⟩
end
def ND(K:PySem.W.Frag)(t1 t2:Bool)(ta:TA):TI:=λσ H R=>ta σ H λvs H1=>∃a b xs ys,vs=[.ref a,.ref b]/\SqS K t1 H1 a xs/\SqS K t2 H1 b ys/\R (Itz K t1 t2 a b) H1
section
variable{X:Cx}
def W6{t1 t2:Bool}{a b:Expr}{ta:TA}{elts:List Expr}{kk:Nat}{tpos p pos:Pos}(hg:Gl X "zip")(hm:X.mg "zip"=none)(ha:PA X [a,b] ta)(hs:starEach [a,b] X.env=[(false,eval a X.env),(false,eval b X.env)]:=by rfl)(hs2:starEach [b] X.env=[(false,eval b X.env)]:=by rfl):
 PI X (.Tuple elts kk tpos) (.Call (.Name "zip" p) [a,b] [] pos) (ND X.K t1 t2 ta):=by
 intro pins s σ H R I h;refine Call_ (FO I hg hm boot_zip (PyProof.Rows.callWith_type1 (thn (ha pos pins s σ H _ I h) λus s1 ⟨vs,H1,I1,r1,q1⟩=>?_) (by rw[hs,hs2]) (by rw[hs2];rfl)));obtain⟨l1,l2,xs,ys,e,c1,c2,q⟩:=q1;subst e;obtain⟨u,v,rfl,ru,rv⟩:=Qg r1;cases ru;cases rv;obtain⟨ix,rx,px,zx⟩:=I1.row c1;obtain⟨iy,ry,py,zy⟩:=I1.row c2;refine Oq px py λg Z kp=>wpAny_pyIter_zip Z.z ?_;refine⟨_,_,_,_,H1,rfl,I1.kept (t':=s1.toks) kp,Ow (RY px.lt py.lt),Z,λc hc=>?_,q⟩;simp only[mem_cons,not_mem_nil,or_false]at hc;have le:s1.heap.objs.size<=c:=by
  rcases hc with rfl|rfl|rfl|rfl|rfl
  .exact Nat.le_add_right _ _
  .exact Nat.le_add_right _ _
  .exact Nat.le_add_right _ _
  .exact le_refl _
  .exact Nat.le_add_right _ _
 exact I1.fpOk le (I1.hok.fresh le)
def TN(K:PySem.W.Frag){t1 t2:Bool}{a b:Expr}{ta:TA}{elts:List Expr}{kk:Nat}{tpos p pos:Pos}(hg:Gl X "zip")(hm:X.mg "zip"=none)(ha:PA X [a,b] ta)(hK:X.K=K:=by rfl)(hs:starEach [a,b] X.env=[(false,eval a X.env),(false,eval b X.env)]:=by rfl)(hs2:starEach [b] X.env=[(false,eval b X.env)]:=by rfl):
 PI X (.Tuple elts kk tpos) (.Call (.Name "zip" p) [a,b] [] pos) (ND K t1 t2 ta):=by subst hK;exact W6 hg hm ha hs hs2
end
def YR(K:PySem.W.Frag)(ρ:List Addr)(H:Hp)(tp:Bool)(a:Addr)(ds:List D)(g:Gd):Prop:=∀(ρ2:List Addr) (H2:Hp) (hd2:Hd),Ext ρ H ρ2 H2->RH K ρ2 H2 hd2->GOk hd2 g->∃xs,SqS K tp H2 a xs/\RDs K ρ2 H2 ds xs
def RRw(K:PySem.W.Frag)(tp:Bool)(t:TE)(m:MI):Prop:=∀(ρ:List Addr) (σ:St) (H:Hp) (hd:Hd) (ls:Ls) (Q:VK) (d:List D) (g:Gd) (hd':Hd),RH K ρ H hd->RL K ρ H ls σ->m ls hd=some ((d,g),hd') ->
 (∀ρ' H' a,Ext ρ H ρ' H'->RH K ρ' H' hd'->GOk hd' g->YR K ρ' H' tp a d g->Q (.ref a) H')->t σ H Q
structure QR(K:PySem.W.Frag)(tp:Bool)(X:Cx)(e:Expr)(t:TE)(m:MI):Prop where
 p:PE X e t
 r:RRw K tp t m
section
variable{K:PySem.W.Frag}{ρ ρ':List Addr}{H H':Hp}{hd hd':Hd}
def S0{t:TE}{m:ME}(h:RE K t m):RRw K false t (DV m):=by
 intro ρ σ H hd ls Q d g hd' hR hL hm hQ;obtain⟨⟨d1,h1⟩,e1,hm⟩:=ac hm;dsimp only at hm;split at hm
 .next n=>
  split at hm
  .next ds q=>
   cases hm;refine h ρ σ H hd ls _ _ _ hR hL e1 λρ1 H1 v x1 R1 r1=>?_;simp only[RD]at r1;obtain⟨a,hn,rfl⟩:=r1;refine hQ ρ1 H1 a x1 R1 (λp z=>by simp at z;subst z;exact q) λρ2 H2 hd2 x2 R2 G2=>?_;have hn2:ρ2[n]?=some a:=by
    obtain⟨r,rfl,_⟩:=x2.pre;rw[List.getElem?_append_left (List.getElem?_eq_some_iff.mp hn).1];exact hn
   obtain⟨ys,e4,e5⟩:=R2.lst hn2 (G2 (n,d) (by simp));exact⟨ys,SqL.of e4,e5⟩
  .cases hm
 .next ns=>
  cases hm;refine h ρ σ H hd ls _ _ _ hR hL e1 λρ1 H1 v x1 R1 r1=>?_;simp only[RD]at r1;obtain⟨a,rfl,q⟩:=r1;exact hQ ρ1 H1 a x1 R1 (B8 _) λρ2 H2 hd2 x2 R2 _=>⟨_,(q.grow (x2.grow R1)).sq,FP⟩
 .cases hm
def Ue{t:TE}{m:MA}(h:RN K t m):RRw K false t (Fg m):=by
 intro ρ σ H hd ls Q d g hd' hR hL hm hQ;obtain⟨⟨d1,h1⟩,e1,e3⟩:=ad hm;cases e3;refine h ρ σ H hd ls _ _ _ hR hL e1 λρ1 H1 a xs x1 R1 na oa ea r1=>?_;exact hQ ρ1 H1 a x1 R1 (B8 _) λρ2 H2 hd2 x2 R2 _=>⟨xs,SqL.of (x2.keep a _ ea oa nt),r1.ext R1 x2⟩
open Classical in
def Iz(ma mb:MI):MI:=λls hd=>(ma ls hd).bind λp=>(mb ls p.2).bind λq=>if GOk q.2 p.1.2 then some ((List.zipWith (λx y=>AK [x,y]) p.1.1 q.1.1,p.1.2++q.1.2),q.2)else none
def Ut{t1 t2:Bool}{ta tb:TE}{ma mb:MI}(ha:RRw K t1 ta ma)(hb:RRw K t2 tb mb):RIt K (ND K t1 t2 (C8 ta (C8 tb DP))) (Iz ma mb):=by
 intro ρ σ H hd ls Q d g hd' hR hL hm hQ;obtain⟨⟨⟨d1,g1⟩,h1⟩,e1,hm⟩:=ac hm;obtain⟨⟨⟨d2,g2⟩,h2⟩,e2,hm⟩:=ac hm;dsimp only at hm;split at hm
 .next gk=>
  cases hm;refine ha ρ σ H hd ls _ d1 g1 h1 hR hL e1 λρ1 H1 a x1 R1 G1 S1=>?_;refine hb ρ1 σ H1 h1 ls _ d2 g2 _ R1 (hL.ext hR x1) e2 λρ2 H2 b x2 R2 G2 S2=>?_;obtain⟨xs,c1,r1⟩:=S1 ρ2 H2 _ x2 R2 gk;obtain⟨ys,c2,r2⟩:=S2 ρ2 H2 _ .refl R2 G2;refine⟨a,b,xs,ys,rfl,c1,c2,hQ ρ2 H2 _ (x1.trans R1 x2) R2 (λp hp=>(mem_append.mp hp).elim (gk p) (G2 p)) ?_⟩;intro ρ3 H3 hd3 x3 R3 G3 i;obtain⟨xs,c1,r1⟩:=S1 ρ3 H3 _ (x2.trans R2 x3) R3 λp hp=>G3 p (mem_append_left _ hp);obtain⟨ys,c2,r2⟩:=S2 ρ3 H3 _ x3 R3 λp hp=>G3 p (mem_append_right _ hp);have l1:=r1.len;have l2:=r2.len;refine⟨λhi=>?_,λhi=>⟨xs,ys,c1,c2,?_⟩⟩
  .simp only[List.length_zipWith]at hi;have i1:d1[i]?=some (d1[i]'(by omega)):=List.getElem?_eq_getElem _;have i2:d2[i]?=some (d2[i]'(by omega)):=List.getElem?_eq_getElem _;obtain⟨x,x4,x5⟩:=r1.get i1;obtain⟨y,y4,y5⟩:=r2.get i2;refine⟨⟨xs,ys,x,y,c1,c2,x4,y4⟩,λz H4 hz=>?_⟩;obtain⟨p,u,v,fp,rfl,rfl,hu,hv⟩:=hz;have eu:=hu xs c1;rw[x4]at eu;cases eu;have ev:=hv ys c2;rw[y4]at ev;cases ev;obtain⟨R4,x6⟩:=R3.hid (ho:=.tup [x,y]) fp;refine⟨ρ3,AK [d1[i]'(by omega),d2[i]'(by omega)],x6,rfl,R4,?_,BZ (SqT.of Ag) (.cons (x5.ext R3 x6) (.cons (y5.ext R3 x6) .nil))⟩;simp[List.getElem?_zipWith,i1,i2]
  .simp only[List.length_zipWith]at hi;omega
 .cases hm
end
section
variable(K:PySem.W.Frag){X:Cx}{a b e:Expr}{ta tb te:TE}{me:ME}{m:MA}
def Sj(h:QE K X e te me):QR K false X e te (DV me):=⟨h.p,S0 h.r⟩
def VW(h:QN K X e te m):QR K false X e te (Fg m):=⟨h.p,Ue h.r⟩
def Vb{t1 t2:Bool}{ma mb:MI}{elts:List Expr}{kk:Nat}{tpos p pos:Pos}(hm:X.mg "zip"=none)(ha:QR K t1 X a ta ma)(hb:QR K t2 X b tb mb)(hg:Gl X "zip":=by rfl)(hK:X.K=K:=by rfl)(hs:starEach [a,b] X.env=[(false,eval a X.env),(false,eval b X.env)]:=by rfl)(hs2:starEach [b] X.env=[(false,eval b X.env)]:=by rfl):
 QI K X (.Tuple elts kk tpos) (.Call (.Name "zip" p) [a,b] [] pos) (ND K t1 t2 (C8 ta (C8 tb DP))) (Iz ma mb):=⟨TN K hg hm (DL ha.p (DL hb.p Ed hs2) (by rw[hs,hs2])) hK hs hs2,Ut ha.r hb.r⟩
end
section
variable{K:PySem.W.Frag}
def Cm(ml:MA)(mb:ME):ME:=λls hd=>(ml ls hd).bind λp=>(mb ls p.2).bind λq=>match q.1 with
 |.im (.int i)=>(atI p.1 i).map (·,q.2)
 |_=>none
def V7{ta tb:TE}{ml:MA}{mb:ME}(ha:RN K ta ml)(hb:RE K tb mb):RE K (tOp (Jw K) ta tb) (Cm ml mb):=by
 and_intros;obtain⟨⟨d1,h1⟩,e1,hm⟩:=ac hm;obtain⟨⟨d2,h2⟩,e2,hm⟩:=ac hm;dsimp only at hm;split at hm
 .obtain⟨w,e3,e4⟩:=ad hm;cases e4;refine ha ρ σ H hd ls _ d1 h1 hR hL e1 λρ1 H1 a xs x1 R1 na oa ea r1=>?_;refine hb ρ1 σ H1 h1 ls _ _ _ R1 (hL.ext hR x1) e2 λρ2 H2 v2 x2 R2 r2=>?_;simp only[RD,RI]at r2;subst r2;have r1':=r1.ext R1 x2;obtain⟨j,j1,j2⟩:=M8 r1'.len e3;obtain⟨x,y1,y2⟩:=r1'.get j1;exact .inl ⟨a,xs,_,x,rfl,rfl,SqL.of (x2.keep a _ ea oa nt),j2 x y1,hQ ρ2 H2 x (x1.trans R1 x2) R2 y2⟩
 .cases hm
def J4(neg:Bool)(x y:PyData)(hd:Hd):Option (D×Hd):=if x.canLay0=true/\y.canLay0=true/\min x.depth y.depth<=60 then some (.im (.bl (if neg then !PyData.eqv x y else PyData.eqv x y)),hd)else none
def CH(neg:Bool)(ma:ME)(ml:MA):ME:=λls hd=>(ma ls hd).bind λp=>(ml ls p.2).bind λq=>(pyD q.2 p.1).bind λx=>(BP q.1).bind λis=>J4 neg x (.list (I.pys is)) q.2
def rEN(K:PySem.W.Frag)(neg:Bool):R2:=λx y H Q=>∃d e,Rep K H d x/\Rep K H e y/\d.canLay0=true/\e.canLay0=true/\min d.depth e.depth<=60/\Q (.bl (if neg then !PyData.eqv d e else PyData.eqv d e)) H
def SJ{ρ:List Addr}{H:Hp}{a:Addr}{xs:List V}{ds:List D}{is:List I}(ea:H a=some (.lst xs))(r:RDs K ρ H ds xs)(e:BP ds=some is):Rep K H (.list (I.pys is)) (.ref a):=by
 rw[DI e]at r;simp only[Rep];exact⟨a,xs,rfl,SqL.of ea,r.is.rep⟩
def Li{neg:Bool}{ta tb:TE}{ma:ME}{ml:MA}(ha:RE K ta ma)(hb:RN K tb ml):RE K (tOp (rEN K neg) ta tb) (CH neg ma ml):=by
 and_intros;obtain⟨⟨d1,h1⟩,e1,hm⟩:=ac hm;obtain⟨⟨d2,h2⟩,e2,hm⟩:=ac hm;obtain⟨x,e3,hm⟩:=ac hm;obtain⟨is,e4,hm⟩:=ac hm;unfold J4 at hm;split at hm
 .next c=>
  cases hm;refine ha ρ σ H hd ls _ d1 h1 hR hL e1 λρ1 H1 v x1 R1 r1=>?_;refine hb ρ1 σ H1 h1 ls _ d2 _ R1 (hL.ext hR x1) e2 λρ2 H2 a xs x2 R2 na oa ea r2=>?_;exact⟨_,_,Dh R2 (r1.ext R1 x2) e3,SJ ea r2 e4,c.1,c.2.1,c.2.2,hQ ρ2 H2 _ (x1.trans R1 x2) R2 (by simp[RD,RI])⟩
 .cases hm
end
def O9(K:PySem.W.Frag){X:Cx}(hu:X.A.units+64<cLine)(hK:X.K=K:=by rfl):OpR X (compareOp .Eq) (rEN K false):=FJ K hu hK
def Wb(K:PySem.W.Frag){X:Cx}(hu:X.A.units+64<cLine)(hK:X.K=K:=by rfl):OpR X (compareOp .NotEq) (rEN K true):=Iw K hu hK
section
variable(K:PySem.W.Frag){X:Cx}{a b e:Expr}{ta tb te:TE}{ma mb me:ME}{m mk:MA}{pos:Pos}{op:CmpOp}{neg:Bool}
def Vs(ha:QN K X a ta m)(hb:QE K X b tb mb)(hs:JC b:=by exact λ_ _=>rfl)(hK:X.K=K:=by rfl):QE K X (.Subscript a b pos) (tOp (Jw K) ta tb) (Cm m mb):=⟨Qy ((Ko K hK).or (Lu K hK)) ha.p hb.p hs,V7 ha.r hb.r⟩
def Sz(ho:OpR X (compareOp op) (rEN K neg))(ha:QE K X a ta ma)(hb:QN K X b tb m)(hm:behindInMarks op b=false:=by first|exact GG _|rfl):QE K X (.Compare a [op] [b] pos) (tOp (rEN K neg) ta tb) (CH neg ma m):=⟨Iv ho ha.p hb.p hm,Li ha.r hb.r⟩
def Lm(ho:OpR X (compareOp op) (rEN K neg))(ha:QE K X a ta ma)(hb:QN K X b tb m)(hm:behindInMarks op b=false:=by first|exact GG _|rfl):QT K X (.Compare a [op] [b] pos) (Jt (tOp (rEN K neg) ta tb)) (AI (CH neg ma m)):=⟨Lo ho ha.p hb.p hm,EM (Li ha.r hb.r)⟩
end
section
variable{K:PySem.W.Frag}
open Classical in
def Q9(m:MA):MA:=λls hd=>(m ls hd).bind λp=>match p.1 with
 |[.im (.int j)]=>if Qo j then some (BC 0 j.toNat,p.2)else none
 |[.im (.int i),.im (.int j)]=>if Qn i j then some (BC i (j-i).toNat,p.2)else none
 |_=>none
def Y8(m:MA):ME:=λls hd=>(Q9 m ls hd).bind λp=>some (AK p.1,p.2)
def FI:∀{xs ys:List Int},xs.Perm ys->xs.Pairwise (·<=·)->ys.Pairwise (·<=·)->xs=ys:=λ{xs ys} p a b=>
 p.eq_of_pairwise (le:=(·<=·)) (λ_ _ _ _ h1 h2=>Int.le_antisymm h1 h2) a b
def EC(xs:List Int):List Int:=xs.mergeSort (λa b=>decide (a<=b))
def Hu(xs:List Int):(EC xs).Perm xs:=List.mergeSort_perm ..
def EY(xs:List Int):(EC xs).Pairwise (·<=·):=by
 have:=List.pairwise_mergeSort (le:=λa b:Int=>decide (a<=b)) (by intro a b c h1 h2;simp at *;omega) (by intro a b;simp;omega) xs;exact this.imp (by simp)
def Dj(m:MI):MA:=λls hd=>(m ls hd).bind λp=>(Bb p.1.1).bind λns=>if ns.length<64 then some ((EC ns).map λi=>.im (.int i),p.2)else none
def Mj{t:TE}{m:MI}(h:RRw K false t m):RN K (tCB (Iu K) (C8 t DP)) (Dj m):=by
 and_intros;obtain⟨⟨⟨d1,g1⟩,h1⟩,e1,hm⟩:=ac hm;obtain⟨ns,e2,hm⟩:=ac hm;split at hm
 .next c=>
  cases hm;refine h ρ σ H hd ls _ d1 g1 _ hR hL e1 λρ1 H1 a x1 R1 G1 S1=>?_;obtain⟨xs,q,r⟩:=S1 ρ1 H1 _ .refl R1 G1;have e3:d1=ns.map λi=>.im (.int i):=He e2;rw[e3]at r;have:=Ir r;subst this;refine⟨a,ns,rfl,q,c,λp ns' hp pm pw=>?_⟩;have:ns'=EC ns:=FI (pm.trans (Hu ns).symm) pw (EY ns);subst this;obtain⟨R2,x2⟩:=R1.hid (ho:=.lst ((EC ns).map V.int)) hp;exact hQ ρ1 _ p _ (x1.trans R1 x2) R2 (x1.none hR hp R1) (R1.out hp) Ag FP
 .cases hm
end
section
variable(K:PySem.W.Frag){X:Cx}{a b e:Expr}{ta tb te:TE}{me:ME}{m:MA}{t:TA}{p p2 pos pos2:Pos}{es:List Expr}
def Mv{mi:MI}(hm:X.mg "sorted"=none)(ha:QR K false X e te mi)(hg:Gl X "sorted":=by rfl)(he:starEach [e] X.env=[(false,eval e X.env)]:=by rfl)(hK:X.K=K:=by rfl):QN K X (.Call (.Name "sorted" p) [e] [] pos) (tCB (Iu K) (C8 te DP)) (Dj mi):=
 ⟨HL (LA K hK) hg hm Oe (DL ha.p Ed he) (by decide) (by decide) he rfl,Mj ha.r⟩
end
end L2
namespace L2
structure BltA(mg:PySem.Str->Option PySem.Value):Prop where
 list:mg "list"=none
 tuple:mg "tuple"=none
 len:mg "len"=none
 range:mg "range"=none
 repr:mg "repr"=none
 sum:mg "sum"=none
 min:mg "min"=none
 max:mg "max"=none
 abs:mg "abs"=none
 all:mg "all"=none
 any:mg "any"=none
 sorted:mg "sorted"=none
 zip:mg "zip"=none
 isinstance:mg "isinstance"=none
 int:mg "int"=none
 bool:mg "bool"=none
 str:mg "str"=none
 set:mg "set"=none
 enumerate:mg "enumerate"=none
 reversed:mg "reversed"=none
 dict:mg "dict"=none
end L2
namespace L2
open PySem PySem.Spec PyProof.Rows
section
variable{ls:Ls}{hd:Hd}{a b c:MS}{ma mb mc:ME}{ta tb:MT}{m m1 m2:MA}{n:MG}{ns:MGs}{d e:D}
@[simp] theorem FQ:AC a b ls hd=(a ls hd).bind λp=>match p.1 with
 |.nx ls1=>b ls1 p.2
 |f=>some (f,p.2):=rfl
@[simp] theorem ZL:Ae ls hd=some (.nx ls,hd):=rfl
@[simp] theorem ZQ:Do ma ls hd=(ma ls hd).bind λp=>some (.nx ls,p.2):=rfl
@[simp] theorem Zi:AO ma ls hd=(ma ls hd).bind λp=>some (.rt p.1,p.2):=rfl
@[simp] theorem ZG:Y9 ls hd=some (.rt (.im .non),hd):=rfl
@[simp] theorem Yz:Wo ls hd=some (.bk ls,hd):=rfl
@[simp] theorem ZU:YB ls hd=some (.ct ls,hd):=rfl
@[simp] theorem Zp:Ar ta a b ls hd=(ta ls hd).bind λp=>if p.1=true then a ls p.2 else b ls p.2:=rfl
@[simp] theorem En:Hb ma n ls hd=(ma ls hd).bind λp=>(n p.1 ls p.2).map λls'=>(.nx ls',p.2):=rfl
@[simp] theorem U6(i:Nat):Am i d ls hd=some (ls.set i (some d)):=rfl
@[simp] theorem ZI(k:Nat):HP k ns d ls hd=(AR d).bind λds=>if ds.length=k then ns ds ls hd else none:=rfl
@[simp] theorem Yv(d:D)(ds:List D):DT n ns (d::ds) ls hd=(n d ls hd).bind λls1=>ns ds ls1 hd:=rfl
@[simp] theorem ZK:Ix [] ls hd=some ls:=rfl
@[simp] theorem X9(ix:List Nat):Ff ix m ls hd=(m ls hd).bind λp=>if p.1.length=ix.length then some (.nx ((ix.zip p.1).foldl (λl q=>l.set q.1 (some q.2)) ls),p.2)else none:=rfl
@[simp] theorem ZH(i j k:Nat):IJ i j k m ls hd=Ff [k,j,i] (λls hd=>(m ls hd).map λp=>(p.1.reverse,p.2)) ls hd:=rfl
@[simp] theorem X5(i:Nat):A4 i ls hd=match ls[i]? with
 |some (some d)=>some (d,hd)
 |_=>none:=rfl
@[simp] theorem aV(i:I):mC i ls hd=some (.im i,hd):=rfl
@[simp] theorem aJ(f:D->D->Hd->Option (D×Hd)):mOp f ma mb ls hd=(ma ls hd).bind λp=>(mb ls p.2).bind λq=>f p.1 q.1 q.2:=rfl
@[simp] theorem Zu:Eg ta tb ls hd=(ta ls hd).bind λp=>if p.1=true then tb ls p.2 else some (false,p.2):=rfl
@[simp] theorem aI:mOr ta tb ls hd=(ta ls hd).bind λp=>if p.1=true then some (true,p.2)else tb ls p.2:=rfl
@[simp] theorem Zk:Bf ta ls hd=(ta ls hd).bind λp=>some (!p.1,p.2):=rfl
@[simp] theorem X6:BE ma ls hd=(ma ls hd).bind λp=>(E3 p.2 p.1).map (·,p.2):=rfl
@[simp] theorem U4:AI ma ls hd=(ma ls hd).bind λp=>match p.1 with
 |.im (.bl b)=>some (b,p.2)
 |_=>none:=rfl
@[simp] theorem aK:mIf ta ma mb ls hd=(ta ls hd).bind λp=>if p.1=true then ma ls p.2 else mb ls p.2:=rfl
@[simp] theorem ZX:B1 ma mb ls hd=(AI ma ls hd).bind λp=>if p.1=true then mb ls p.2 else some (.im (.bl false),p.2):=rfl
@[simp] theorem Zj:J1 ma mb ls hd=(AI ma ls hd).bind λp=>if p.1=true then some (.im (.bl true),p.2)else mb ls p.2:=rfl
@[simp] theorem ZJ:EE ma ls hd=(AI ma ls hd).bind λp=>some (.im (.bl (!p.1)),p.2):=rfl
@[simp] theorem Zl:A6 ls hd=some ([],hd):=rfl
@[simp] theorem ZV:A0 ma m ls hd=(ma ls hd).bind λp=>(m ls p.2).bind λq=>some (p.1::q.1,q.2):=rfl
open Classical in
@[simp] theorem Zf:AL m ls hd=(m ls hd).bind λp=>if Bh p.1.length then some (AK p.1,p.2)else none:=rfl
open Classical in
@[simp] theorem Zn:Aq m ls hd=(m ls hd).bind λp=>if Bh p.1.length then some (p.1,p.2)else none:=rfl
@[simp] theorem Zm:Ad m ls hd=(m ls hd).bind λp=>some (.mu p.2.length,p.2++[.lst p.1]):=rfl
@[simp] theorem XA:CU ma ls hd=(ma ls hd).bind λp=>match p.1 with
 |.im (.int i)=>some (.im (.int (-i)),p.2)
 |_=>none:=rfl
@[simp] theorem Zo(neg:Bool):HY neg ma ls hd=(ma ls hd).bind λp=>some (.im (.bl (match p.1 with
 |.im .non=>!neg
 | _=>neg)),p.2):=rfl
@[simp] theorem aL(g:Int->Int->Option I)(i j:Int):fI g (.im (.int i)) (.im (.int j)) hd=(g i j).map (.im ·,hd):=rfl
@[simp] theorem ZP(f g:D->D->Hd->Option (D×Hd)):CK f g d e hd=match f d e hd with
 |some z=>some z
 |none=>g d e hd:=rfl
@[simp] theorem Zt(neg:Bool)(i j:Int):FA neg (.im (.int i)) (.im (.int j)) hd=some (.im (.bl (if neg then !decide (i=j)else decide (i=j))),hd):=by simp[FA,scI,KL]
@[simp] theorem Zr(neg:Bool)(i j:Str):FA neg (.im (.str i)) (.im (.str j)) hd=some (.im (.bl (if neg then !decide (i=j)else decide (i=j))),hd):=by simp[FA,scI,KL]
@[simp] theorem YJ(i:Int):gIx d (.im (.int i)) hd=(BL hd d).bind λds=>(atI ds i).map (·,hd):=rfl
@[simp] theorem ZT:Bv d e hd=(By hd d).bind λkvs=>(DH e).bind λk=>(Bi kvs k).map (·,hd):=rfl
@[simp] theorem aM(f:List D->Hd->Option (D×Hd)):mCB f m ls hd=(m ls hd).bind λp=>f p.1 p.2:=rfl
@[simp] theorem YK(tp:Bool)(g:List D->Option D):f1 tp g [d] hd=((if tp then BL hd d else B7 hd d)).bind λds=>(g ds).map (·,hd):=rfl
@[simp] theorem XG(g:List D->Option D):Bg g m ls hd=(m ls hd).bind λp=>(g p.1).map (·,p.2):=rfl
@[simp] theorem YI(f:D->List D->Hd->Option (D×Hd)):mMt f ma m ls hd=(ma ls hd).bind λp=>match B7 p.2 p.1 with
 |some _=>(m ls p.2).bind λq=>f p.1 q.1 q.2
 |none=>none:=rfl
@[simp] theorem ZN(i j:Int):YG [.im (.int i),.im (.int j)] hd=some (.im (.int (if j>i then j else i)),hd):=rfl
@[simp] theorem ZM(i j:Int):Go [.im (.int i),.im (.int j)] hd=some (.im (.int (if j<i then j else i)),hd):=rfl
@[simp] theorem Zv(i:Int):Ys [.im (.int i)] hd=some (.im (.int (if i<0 then -i else i)),hd):=rfl
@[simp] theorem XB:Cm m ma ls hd=(m ls hd).bind λp=>(ma ls p.2).bind λq=>match q.1 with
 |.im (.int i)=>(atI p.1 i).map (·,q.2)
 |_=>none:=rfl
@[simp] theorem XC:Cb ma ls hd=(ma ls hd).bind λp=>(AR p.1).map λds=>((ds,[]),p.2):=rfl
@[simp] theorem XF:Fg m ls hd=(m ls hd).map λp=>((p.1,[]),p.2):=rfl
@[simp] theorem XE:DV ma ls hd=(ma ls hd).bind λp=>match p.1 with
 |.mu n=>match p.2[n]? with
  |some (.lst ds)=>some ((ds,[(n,ds)]),p.2)
  |_=>none
 |.ro ns=>some ((ns.map λn=>.im (.int n),[]),p.2)
 |_=>none:=rfl
open Classical in
@[simp] theorem XD:E4 m ls hd=(m ls hd).bind λp=>match p.1 with
 |[.im (.int j)]=>if HJ j then some ((BC 0 j.toNat,[]),p.2)else none
 |_=>none:=rfl
open Classical in
@[simp] theorem ZO:YA m ls hd=(m ls hd).bind λp=>match p.1 with
 |[.im (.int i),.im (.int j)]=>if Uo i j then some ((BC i (j-i).toNat,[]),p.2)else none
 |_=>none:=rfl
@[simp] theorem Zq(mi:MI):Dk mi n a ls hd=(mi ls hd).bind λp=>C2 n a p.1.2 p.1.1 ls p.2:=rfl
open Classical in
@[simp] theorem ZW(k:Nat)(ix:List Nat)(mi:MI):BO k ix mi n ta ma ls hd=(mi ls hd).bind λp=>if Bh p.1.1.length then B6 n ta ma p.1.2 p.1.1 (F3 k ix ls) p.2 else none:=rfl
@[simp] theorem Ze:CG ls hd=some (true,hd):=rfl
@[simp] theorem Yy(F:List D->Hd->Option (D×Hd)):AJ F m ls hd=(m ls hd).bind λp=>F p.1 p.2:=rfl
@[simp] theorem YX:AT ls hd=some (none,hd):=rfl
@[simp] theorem U5:Aa ma ls hd=(ma ls hd).bind λp=>match p.1 with
 |.im (.int i)=>some (some i,p.2)
 |_=>none:=rfl
@[simp] theorem U8:Dm ma ls hd=(ma ls hd).bind λp=>(BL p.2 p.1).map (·,p.2):=rfl
@[simp] theorem Yw:FM m ls hd=m ls hd:=rfl
@[simp] theorem X8(ml mh:MO1):Fb ma ml mh ls hd=(ma ls hd).bind λp=>(ml ls p.2).bind λl=>(mh ls l.2).bind λh=>(B7 h.2 p.1).bind λds=>some (CB ds l.1 h.1,h.2):=rfl
@[simp] theorem X7(ml mh:MO1):CT ma ml mh ls hd=(ma ls hd).bind λp=>(ml ls p.2).bind λl=>(mh ls l.2).bind λh=>(AR p.1).bind λds=>if ¬ (HT.sIx ds.length 0 l.1=0/\HT.sIx ds.length ds.length h.1=ds.length)then some (AK (CB ds l.1 h.1),h.2)else none:=rfl
@[simp] theorem ZF:Y8 m ls hd=(Q9 m ls hd).bind λp=>some (AK p.1,p.2):=rfl
open Classical in
@[simp] theorem Zh:Q9 m ls hd=(m ls hd).bind λp=>match p.1 with
 |[.im (.int j)]=>if Qo j then some (BC 0 j.toNat,p.2)else none
 |[.im (.int i),.im (.int j)]=>if Qn i j then some (BC i (j-i).toNat,p.2)else none
 |_=>none:=rfl
@[simp] theorem YV(mi:MI):Dj mi ls hd=(mi ls hd).bind λp=>(Bb p.1.1).bind λns=>if ns.length<64 then some ((EC ns).map λi=>.im (.int i),p.2)else none:=rfl
@[simp] theorem ZS(ms:List (ME×ME)):Fh ms ls hd=(Dx ms ls hd).bind λp=>if p.1.length<=15 then some (.mu p.2.length,p.2++[.dic (Dw [] p.1)])else none:=rfl
@[simp] theorem YW:Dx [] ls hd=some ([],hd):=rfl
@[simp] theorem Yu(r:List (ME×ME)):Dx ((ma,mb)::r) ls hd=(ma ls hd).bind λp=>(mb ls p.2).bind λq=>(Dx r ls q.2).bind λz=>(DH p.1).map λk=>((k,q.1)::z.1,z.2):=rfl
open Classical in
@[simp] theorem ZR:DB ma mb mc ls hd=(mc ls hd).bind λp=>(ma ls p.2).bind λq=>(mb ls q.2).bind λr=>(DH r.1).bind λk=>match q.1 with
 |.mu n=>match r.2[n]? with
  |some (.dic kvs)=>if Ez kvs.length then some (.nx ls,r.2.set n (.dic (DR kvs k p.1)))else none
  |_=>none
 |_=>none:=rfl
@[simp] theorem U7:Gg ma mb mc ls hd=(mc ls hd).bind λp=>(ma ls p.2).bind λq=>(mb ls q.2).bind λr=>match q.1,r.1 with
 |.mu n,.im (.int i)=>match r.2[n]? with
  |some (.lst ds)=>(ixN ds.length i).map λj=>(.nx ls,r.2.set n (.lst (ds.set j p.1)))
  |_=>none
 |_,_=>none:=rfl
@[simp] theorem ZY(is:List I):AR (.im (.tup is))=some (is.map .im):=rfl
@[simp] theorem a7(ds:List D):AR (.tm ds)=some ds:=rfl
@[simp] theorem a9(k:Nat):AR (.mu k)=none:=rfl
@[simp] theorem a8(k:List Int):AR (.ro k)=none:=rfl
@[simp] theorem Zb(is:List I):BL hd (.im (.tup is))=some (is.map .im):=rfl
@[simp] theorem aD(ds:List D):BL hd (.tm ds)=some ds:=rfl
@[simp] theorem Md(k:Nat):BL hd (.mu k)=B7 hd (.mu k):=rfl
@[simp] theorem aE(k:List Int):BL hd (.ro k)=some (k.map λn=>.im (.int n)):=rfl
@[simp] theorem NB(k:Nat):B7 hd (.mu k)=match hd[k]? with
 |some (.lst ds)=>some ds
 |_=>none:=rfl
@[simp] theorem aF(k:List Int):B7 hd (.ro k)=some (k.map λn=>.im (.int n)):=rfl
@[simp] theorem aN(k:Nat):By hd (.mu k)=match hd[k]? with
 |some (.dic ds)=>some ds
 |_=>none:=rfl
@[simp] theorem aH(i:Int):DH (.im (.int i))=some (.inl i):=rfl
@[simp] theorem aG(i:Str):DH (.im (.str i))=some (.inr i):=rfl
@[simp] theorem Zz:BP []=some []:=rfl
@[simp] theorem aP(i:I)(r:List D):BP (.im i::r)=(BP r).map (i::·):=rfl
@[simp] theorem Zc:Bb []=some []:=rfl
@[simp] theorem Zd(i:Int)(r:List D):Bb (.im (.int i)::r)=(Bb r).map (i::·):=rfl
@[simp] theorem Zy:Cf []=some []:=rfl
@[simp] theorem aO(i:Bool)(r:List D):Cf (.im (.bl i)::r)=(Cf r).map (i::·):=rfl
@[simp] theorem CF(is:List I):AK (is.map .im)=.im (.tup is):=by simp[AK]
@[simp] theorem JN:AK []=.im (.tup []):=rfl
@[simp] theorem ZD(i:I):AK [.im i]=.im (.tup [i]):=rfl
@[simp] theorem ZC(i j:I):AK [.im i,.im j]=.im (.tup [i,j]):=rfl
@[simp] theorem ZB(i j k:I):AK [.im i,.im j,.im k]=.im (.tup [i,j,k]):=rfl
@[simp] theorem ZA(i j k l:I):AK [.im i,.im j,.im k,.im l]=.im (.tup [i,j,k,l]):=rfl
@[simp] theorem Zx(w:Nat)(i:I):clD w (.im i)=true:=by simp[clD]
@[simp] theorem Zw(w n:Nat):clD w (.mu n)=decide (n<w):=by simp[clD]
@[simp] theorem Z0(w:Nat):Bj w []=true:=by simp[Bj]
@[simp] theorem OY(w:Nat)(d:D)(ds:List D):Bj w (d::ds)=(clD w d&&Bj w ds):=by simp[Bj]
@[simp] theorem aY{α:Type}(x:α)(r:List α):atI (x::r) 0=some x:=FW (j:=0) rfl
@[simp] theorem aX{α:Type}(x y:α)(r:List α):atI (x::y::r) 1=some y:=FW (j:=1) rfl
@[simp] theorem aW{α:Type}(x y z:α)(r:List α):atI (x::y::z::r) 2=some z:=FW (j:=2) rfl
def Aj{α:Type}{xs:List α}{i:Int}{k:Nat}{x:α}(hi:i=k)(h:xs[k]?=some x):atI xs i=some x:=by subst hi;exact FW h
@[simp] theorem D0:Bh 0:=AM (by decide)
@[simp] theorem BG:Bh 1:=AM (by decide)
@[simp] theorem Cz:Bh 2:=AM (by decide)
@[simp] theorem Ay:Bh 3:=AM (by decide)
@[simp] theorem X0:Bh 4:=AM (by decide)
@[simp] theorem ZE:Ez 4:=Ej (by decide)
open Classical in
@[simp] theorem XH(k:Nat)(x:D):Bx (.mu k) [x] hd=match hd[k]? with
 |some (.lst ds)=>if Ez ds.length then some (.im .non,hd.set k (.lst (ds++[x])))else none
 |_=>none:=rfl
def Oc{F:List D->Hd->Option (D×Hd)}{ds:List D}{hd1 h2:Hd}{i:I}(h1:m ls hd=some (ds,hd1))(hc:Bj 0 ds=true)(hF:F ds []=some (.im i,h2)):AE 0 F m ls hd=some (.im i,hd1):=by
 simp[AE,h1,hc,hF,fin]
def Hg{w:Nat}{F:List D->Hd->Option (D×Hd)}{ds:List D}{pre pre' rest g:Hd}{i:I}(hw:pre.length=w)(hw':pre'.length=w)(h1:m ls hd=some (ds,pre++rest))(hc:Bj w ds=true)(hp:pre.all (clO w)=true)(hp':pre'.all (clO w)=true)(hF:F ds pre=some (.im i,pre'++g)):AE w F m ls hd=some (.im i,pre'++rest):=by
 subst hw;have e1:(pre++rest).take pre.length=pre:=by simp
 have e2:(pre'++g).take pre.length=pre':=by rw[<- hw'];simp
 simp only[AE,h1,bind_some,e1,hc,hp,hF,fin,e2,hp'];simp
end
def QB{n:MG}{b:MS}{g:Gd}{ls:Ls}{hd:Hd}:C2 n b g [] ls hd=some (.nx ls,hd):=by unfold C2;rfl
def OK{n:MG}{b:MS}{g:Gd}{d:D}{r:List D}{ls ls1 ls2:Ls}{hd hd2:Hd}(h1:n d ls hd=some ls1)(h2:b ls1 hd=some (.nx ls2,hd2))(h3:GOk hd2 g):C2 n b g (d::r) ls hd=C2 n b g r ls2 hd2:=by
 conv=>lhs;unfold C2
 simp[h1,h2,h3]
open Classical in
def mIn(k:Nat)(n:MG)(c:MT)(m:ME)(g:Gd):List D->Ls->Hd->Option (Ls×Hd)
 |[],ls,hd=>some (ls,hd)
 |d::r,ls,hd=>(n d ls hd).bind λls1=>(c ls1 hd).bind λp=>if p.1=true then(m ls1 p.2).bind λq=>(Bx (.mu k) [q.1] q.2).bind λz=>if GOk z.2 g then mIn k n c m g r ls1 z.2 else none else if GOk p.2 g then mIn k n c m g r ls1 p.2 else none
open Classical in
def NA(k:Nat)(n:MG)(c:MT)(mi:MI)(n2:MG)(c2:MT)(m:ME)(g:Gd):List D->Ls->Hd->Option Hd
 |[],ls,hd=>some hd
 |d::r,ls,hd=>(n d ls hd).bind λls1=>(c ls1 hd).bind λp=>if p.1=true then(mi ls1 p.2).bind λq=>(mIn k n2 c2 m q.1.2 q.1.1 ls1 q.2).bind λz=>if GOk z.2 g then NA k n c mi n2 c2 m g r z.1 z.2 else none else if GOk p.2 g then NA k n c mi n2 c2 m g r ls1 p.2 else none
def Wn(j:Nat)(ix:List Nat)(mi:MI)(n:MG)(c:MT)(mi2:MI)(n2:MG)(c2:MT)(m:ME):ME:=λls hd=>(mi ls hd).bind λp=>(NA p.2.length n c mi2 n2 c2 m p.1.2 p.1.1 (F3 j ix ls) (p.2++[.lst []])).map λh=>(.mu p.2.length,h)
open Classical in
def CA(ma mb:ME):MA:=λls hd=>(ma ls hd).bind λp=>(mb ls p.2).bind λq=>match p.1,q.1 with
 |.mu i,.mu j=>match q.2[i]?,q.2[j]? with
  |some (.lst xs),some (.lst ys)=>if Bh (xs.length+ys.length)then some (xs++ys,q.2)else none
  |_,_=>none
 |_,_=>none
def Us{K:PySem.W.Frag}{ta tb:TE}{ma mb:ME}(ha:RE K ta ma)(hb:RE K tb mb):RN K (tOp Pp ta tb) (CA ma mb):=by
 and_intros;obtain⟨⟨d1,h1⟩,e1,hm⟩:=ac hm;obtain⟨⟨d2,h2⟩,e2,hm⟩:=ac hm;dsimp only at hm;split at hm
 .next i j=>
  split at hm
  .next xs ys q1 q2=>
   split at hm
   .next c=>
    cases hm;refine ha ρ σ H hd ls _ _ h1 hR hL e1 λρ1 H1 v x1 R1 r1=>?_;refine hb ρ1 σ H1 h1 ls _ _ _ R1 (hL.ext hR x1) e2 λρ2 H2 u x2 R2 r2=>?_;have r1':=r1.ext R1 x2;simp only[RD]at r1' r2;obtain⟨a,ka,rfl⟩:=r1';obtain⟨b,kb,rfl⟩:=r2;obtain⟨vs,f1,f2⟩:=R2.lst ka q1;obtain⟨us,f3,f4⟩:=R2.lst kb q2;refine⟨a,b,vs,us,rfl,rfl,f1,f3,by rw[f2.len,f4.len];exact c,λp hp=>?_⟩;obtain⟨R3,x3⟩:=R2.hid (ho:=.lst (vs++us)) hp;have x12:=x1.trans R1 x2;exact hQ ρ2 _ p _ (x12.trans R2 x3) R3 (x12.none hR hp R2) (R2.out hp) Ag ((f2.app f4).ext R2 x3)
   .cases hm
  .cases hm
 .cases hm
def Va(K:PySem.W.Frag){X:Cx}{a b:Expr}{pos:Pos}{ta tb:TE}{ma mb:ME}(ha:QE K X a ta ma)(hb:QE K X b tb mb):QN K X (.BinOp a .Add b pos) (tOp Pp ta tb) (CA ma mb):=⟨Jz Wg ha.p hb.p,Us ha.r hb.r⟩
@[simp] theorem Yx(j:Nat)(ix:List Nat)(mi mi2:MI)(n n2:MG)(c c2:MT)(m:ME)(ls:Ls)(hd:Hd):Wn j ix mi n c mi2 n2 c2 m ls hd=(mi ls hd).bind λp=>(NA p.2.length n c mi2 n2 c2 m p.1.2 p.1.1 (F3 j ix ls) (p.2++[.lst []])).map λh=>(.mu p.2.length,h):=rfl
end L2
namespace L2
open PySem PySem.Spec PyProof.Rows PySem.W
section
variable(r:Nat->Int)(n:Nat)
def kv(p:Array Nat)(i:Nat):Int:=r (p.getD i 0)
end
def W5(p:Int×Int):Int:=p.1*4000000000+p.2
def pok(p:Int×Int):Prop:=-1000000000<=p.1/\p.1<=1000000000/\-1000000000<=p.2/\p.2<=1000000000
def R8(p:Int×Int):D:=.im (.tup [.int p.1,.int p.2])
def Ke:List D->Option (List (Int×Int))
 |[]=>some []
 |.im (.tup [.int a,.int b])::r=>(Ke r).map ((a,b)::·)
 |_=>none
def Qk(ps:List (Int×Int)):List (Int×Int):=ps.mergeSort λa b=>decide (W5 a<=W5 b)
open Classical in
def Q8(m:MI):MA:=λls hd=>(m ls hd).bind λp=>(Ke p.1.1).bind λps=>if ps.length<64/\∀q∈ps,pok q then some ((Qk ps).map R8,p.2)else none
section
variable{K:PySem.W.Frag}{ρ:List Addr}{H:Hp}{hd:Hd}
open Classical in
def X4:D->List D->Hd->Option (D×Hd)
 |.mu n,[.im (.int i)],hd=>match hd[n]? with
  |some (.lst ds)=>if HJ i then(ixN ds.length i).bind λk=>(ds[k]?).map λy=>(y,hd.set n (.lst (ds.eraseIdx k)))else none
  |_=>none
 |_,_,_=>none
end
section
variable{ls:Ls}{hd:Hd}
open Classical in
@[simp] theorem Yt(k:Nat)(i:Int):X4 (.mu k) [.im (.int i)] hd=match hd[k]? with
 |some (.lst ds)=>if HJ i then(ixN ds.length i).bind λj=>(ds[j]?).map λy=>(y,hd.set k (.lst (ds.eraseIdx j)))else none
 |_=>none:=rfl
open Classical in
@[simp] theorem YH(mi:MI):Q8 mi ls hd=(mi ls hd).bind λp=>(Ke p.1.1).bind λps=>if ps.length<64/\∀q∈ps,pok q then some ((Qk ps).map R8,p.2)else none:=rfl
end
def Cv(p:Int×Int):I:=.tup [.int p.1,.int p.2]
end L2
namespace L2
open PySem PySem.Spec PyProof.Rows
def WP{α:Type}(o:Option (α×Hd))(Q:α->Hd->Prop):Prop:=∃z h,o=some (z,h)/\Q z h
abbrev WS(m:MS)(ls:Ls)(hd:Hd)(Q:Fl->Hd->Prop):Prop:=WP (m ls hd) Q
abbrev WE(m:ME)(ls:Ls)(hd:Hd)(Q:D->Hd->Prop):Prop:=WP (m ls hd) Q
abbrev WT(m:MT)(ls:Ls)(hd:Hd)(Q:Bool->Hd->Prop):Prop:=WP (m ls hd) Q
abbrev WA(m:MA)(ls:Ls)(hd:Hd)(Q:List D->Hd->Prop):Prop:=WP (m ls hd) Q
abbrev WO(m:MO1)(ls:Ls)(hd:Hd)(Q:Option Int->Hd->Prop):Prop:=WP (m ls hd) Q
abbrev WI(m:MI)(ls:Ls)(hd:Hd)(Q:List D×Gd->Hd->Prop):Prop:=WP (m ls hd) Q
abbrev WF(F:List D->Hd->Option (D×Hd))(ds:List D)(hd:Hd)(Q:D->Hd->Prop):Prop:=WP (F ds hd) Q
section
variable{α β:Type}{o:Option (α×Hd)}{Q:α->Hd->Prop}{R:β->Hd->Prop}{ls:Ls}{hd:Hd}{d e:D}
def WP.some{z:α}{h:Hd}(q:Q z h):WP (some (z,h)) Q:=⟨z,h,rfl,q⟩
def WP.mono{Q':α->Hd->Prop}(h:WP o Q)(k:∀z h,Q z h->Q' z h):WP o Q':=let ⟨z,x,e,q⟩:=h;⟨z,x,e,k z x q⟩
def WP.bind{f:α×Hd->Option (β×Hd)}(h:WP o λz x=>WP (f (z,x)) R):WP (o.bind f) R:=by
 obtain⟨z,x,e,q⟩:=h;rw[e];exact q
def WP.eq{z:α}{h:Hd}(e:o=Option.some (z,h))(q:Q z h):WP o Q:=⟨z,h,e,q⟩
end
section
variable{ls:Ls}{hd:Hd}{a b:MS}{ma mb mc:ME}{ta tb:MT}{m m1 m2:MA}{n:MG}{ns:MGs}{mi:MI}{d e:D}{i j:Nat}{QS:Fl->Hd->Prop}{QE:D->Hd->Prop}{QT:Bool->Hd->Prop}{QA:List D->Hd->Prop}{QO:Option Int->Hd->Prop}{QI:List D×Gd->Hd->Prop}
def MQ(b:MS)(Q:Fl->Hd->Prop):Fl->Hd->Prop
 |.nx l,h=>WS b l h Q
 |f,h=>Q f h
def AB(h:WS a ls hd (MQ b QS)):WS (AC a b) ls hd QS:=by
 obtain⟨f,x,e,q⟩:=h;show WP (AC a b ls hd) QS;rw[FQ,e];cases f<;>first|exact q|exact⟨_,_,rfl,q⟩
def A9{l:Ls}{h:Hd}(q:WS b l h QS):MQ b QS (.nx l) h:=q
def AU(h:QS (.nx ls) hd):WS Ae ls hd QS:=⟨_,_,rfl,h⟩
def AF(h:WE ma ls hd λd x=>QS (.rt d) x):WS (AO ma) ls hd QS:=WP.bind (h.mono λ_ _ q=>WP.some q)
def Ac(h:WE ma ls hd λd x=>QS (.nx (ls.set i (some d))) x):WS (AS i ma) ls hd QS:=by
 obtain⟨d,x,e,q⟩:=h;exact⟨_,_,by simp only[En,e,bind_some,U6,map_some],q⟩
def NX(h:WE ma ls hd λd x=>∃l,n d ls x=some l/\QS (.nx l) x):WS (Hb ma n) ls hd QS:=by
 obtain⟨d,x,e,l,e2,q⟩:=h;exact⟨_,_,by simp only[En,e,bind_some,e2,map_some],q⟩
def Ic(h:WE ma ls hd λ_ x=>QS (.nx ls) x):WS (Do ma) ls hd QS:=WP.bind (h.mono λ_ _ q=>WP.some q)
def XY(h:WT ta ls hd λc x=>if c=true then WS a ls x QS else WS b ls x QS):WS (Ar ta a b) ls hd QS:=by
 refine WP.bind (h.mono λc x q=>?_);dsimp only;cases c<;>simpa using q
def AY(h:WT ta ls hd λc x=>(c=true->WS a ls x QS)/\(c=false->WS b ls x QS)):WS (Ar ta a b) ls hd QS:=
 XY (h.mono λc x q=>by cases c<;>simp_all)
def UK{ix:List Nat}(h:WA m ls hd λds x=>ds.length=ix.length/\QS (.nx ((ix.zip ds).foldl (λl q=>l.set q.1 (some q.2)) ls)) x):WS (Ff ix m) ls hd QS:=by
 obtain⟨d,x,e,q,q2⟩:=h;exact⟨_,_,by simp only[X9,e,bind_some,q,if_true],q2⟩
def WL(n:MG)(b:MS)(g:Gd)(ds:List D)(ls:Ls)(hd:Hd)(Q:Fl->Hd->Prop):Prop:=WP (C2 n b g ds ls hd) Q
def G0(h:WI mi ls hd λp x=>WL n b p.2 p.1 ls x QS):WS (Dk mi n b) ls hd QS:=WP.bind (h.mono λ_ _ q=>q)
def Qh(g:Gd)(P:Ls->Hd->Prop)(Q:Fl->Hd->Prop):Fl->Hd->Prop
 |.nx l,h=>GOk h g/\P l h
 |.ct l,h=>GOk h g/\P l h
 |.bk l,h=>Q (.nx l) h
 |.rt d,h=>Q (.rt d) h
def ES{g:Gd}(P:List D->Ls->Hd->Prop):∀{ds:List D} {ls:Ls} {hd:Hd},P ds ls hd ->
 (∀d r ls hd,P (d::r) ls hd->∃ls1,n d ls hd=some ls1/\WS b ls1 hd (Qh g (P r) QS))->(∀ls hd,P [] ls hd->QS (.nx ls) hd)->WL n b g ds ls hd QS
 |[],ls,hd,h,_,z=>⟨_,_,by unfold C2;rfl,z _ _ h⟩
 |d::r,ls,hd,h,k,z=>by
  obtain⟨ls1,e1,f,x,e2,q⟩:=k d r ls hd h;unfold WL;unfold C2;rw[e1,bind_some,e2,bind_some];cases f with
  |nx l=>exact(show GOk x g/\P r l x from q).1 |> λg1=>by dsimp only;rw[if_pos g1];exact ES P q.2 k z
  |ct l=>exact(show GOk x g/\P r l x from q).1 |> λg1=>by dsimp only;rw[if_pos g1];exact ES P q.2 k z
  |bk l=>exact⟨_,_,rfl,q⟩
  |rt l=>exact⟨_,_,rfl,q⟩
def A5(h:ls[i]?=some (some d))(q:QE d hd):WE (A4 i) ls hd QE:=⟨d,hd,by rw[X5,h],q⟩
def A8{i:I}(q:QE (.im i) hd):WE (mC i) ls hd QE:=⟨_,_,rfl,q⟩
def AA{f:D->D->Hd->Option (D×Hd)}(h:WE ma ls hd λd x=>WE mb ls x λe y=>WP (f d e y) QE):WE (mOp f ma mb) ls hd QE:=WP.bind (h.mono λ_ _ q=>WP.bind (q.mono λ_ _ q=>q))
def MK(h:WT ta ls hd λc x=>if c=true then WE ma ls x QE else WE mb ls x QE):WE (mIf ta ma mb) ls hd QE:=by
 refine WP.bind (h.mono λc x q=>?_);dsimp only;cases c<;>simpa using q
def AN(h:WA m ls hd λds x=>Bh ds.length/\QE (AK ds) x):WE (AL m) ls hd QE:=WP.bind (h.mono λds x q=>by dsimp only;rw[if_pos q.1];exact WP.some q.2)
def Ah(h:WA m ls hd λds x=>QE (.mu x.length) (x++[.lst ds])):WE (Ad m) ls hd QE:=WP.bind (h.mono λ_ _ q=>WP.some q)
def Cs{g:List D->Option D}(h:WA m ls hd λds x=>∃d,g ds=some d/\QE d x):WE (Bg g m) ls hd QE:=by
 obtain⟨ds,x,e,d,e2,q⟩:=h;exact⟨d,x,by simp only[XG,e,bind_some,e2,map_some],q⟩
def UQ(h:WA m ls hd λds x=>WE ma ls x λe y=>∃i d,e=.im (.int i)/\atI ds i=some d/\QE d y):WE (Cm m ma) ls hd QE:=by
 obtain⟨ds,x,e,d,y,e2,i,z,rfl,e4,q⟩:=h;exact⟨z,y,by simp only[XB,e,bind_some,e2,e4,map_some],q⟩
def Az{f:List D->Hd->Option (D×Hd)}(h:WA m ls hd λds x=>WP (f ds x) QE):WE (mCB f m) ls hd QE:=WP.bind (h.mono λ_ _ q=>q)
def MJ{f:D->List D->Hd->Option (D×Hd)}(h:WE ma ls hd λd x=>(∃l,B7 x d=some l)/\WA m ls x λds y=>WP (f d ds y) QE):WE (mMt f ma m) ls hd QE:=by
 obtain⟨d,x,e,⟨l,hl⟩,q⟩:=h;unfold WE;rw[YI,e,bind_some];dsimp only;rw[hl];exact WP.bind (q.mono λ_ _ q=>q)
def AX{F:List D->Hd->Option (D×Hd)}(h:WA m ls hd λds x=>WF F ds x QE):WE (AJ F m) ls hd QE:=WP.bind (h.mono λ_ _ q=>q)
def Cr(h:WE ma ls hd λd x=>∃i,d=.im (.int i)/\QE (.im (.int (-i))) x):WE (CU ma) ls hd QE:=by
 obtain⟨d,x,e,i,rfl,q⟩:=h;exact⟨_,x,by simp only[XA,e,bind_some],q⟩
def B5(h:WT (AI ma) ls hd λc x=>if c=true then WE mb ls x QE else QE (.im (.bl false)) x):WE (B1 ma mb) ls hd QE:=by
 refine WP.bind (h.mono λc x q=>?_);dsimp only;cases c
 .exact WP.some (by simpa using q)
 .simpa using q
def UP(h:WT (AI ma) ls hd λc x=>if c=true then QE (.im (.bl true)) x else WE mb ls x QE):WE (J1 ma mb) ls hd QE:=by
 refine WP.bind (h.mono λc x q=>?_);dsimp only;cases c
 .simpa using q
 .exact WP.some (by simpa using q)
def Ig(h:WT (AI ma) ls hd λc x=>QE (.im (.bl (!c))) x):WE (EE ma) ls hd QE:=WP.bind (h.mono λ_ _ q=>WP.some q)
def AG(h:WE ma ls hd λd x=>∃b,d=.im (.bl b)/\QT b x):WT (AI ma) ls hd QT:=by
 obtain⟨d,x,e,b,rfl,q⟩:=h;exact⟨b,x,by simp only[U4,e,bind_some],q⟩
def Af(h:WE ma ls hd λd x=>∃b,E3 x d=some b/\QT b x):WT (BE ma) ls hd QT:=by
 obtain⟨d,x,e,b,e2,q⟩:=h;exact⟨b,x,by simp only[X6,e,bind_some,e2,map_some],q⟩
def BX(h:WT ta ls hd λc x=>QT (!c) x):WT (Bf ta) ls hd QT:=WP.bind (h.mono λ_ _ q=>WP.some q)
def Hj(h:WT ta ls hd λc x=>if c=true then WT tb ls x QT else QT false x):WT (Eg ta tb) ls hd QT:=by
 refine WP.bind (h.mono λc x q=>?_);dsimp only;cases c
 .exact WP.some (by simpa using q)
 .simpa using q
def Bs(h:WT ta ls hd λc x=>if c=true then QT true x else WT tb ls x QT):WT (mOr ta tb) ls hd QT:=by
 refine WP.bind (h.mono λc x q=>?_);dsimp only;cases c
 .simpa using q
 .exact WP.some (by simpa using q)
def CY(h:QT true hd):WT CG ls hd QT:=⟨_,_,rfl,h⟩
def A7(h:QA [] hd):WA A6 ls hd QA:=⟨_,_,rfl,h⟩
def A1(h:WE ma ls hd λd x=>WA m ls x λds y=>QA (d::ds) y):WA (A0 ma m) ls hd QA:=WP.bind (h.mono λ_ _ q=>WP.bind (q.mono λ_ _ q=>WP.some q))
def B9(h:WA m ls hd λds x=>Bh ds.length/\QA ds x):WA (Aq m) ls hd QA:=WP.bind (h.mono λds x q=>by dsimp only;rw[if_pos q.1];exact WP.some q.2)
def Gc(h:WE ma ls hd λd x=>∃ds,BL x d=some ds/\QA ds x):WA (Dm ma) ls hd QA:=by
 obtain⟨d,x,e,ds,e2,q⟩:=h;exact⟨ds,x,by simp only[U8,e,bind_some,e2,map_some],q⟩
def Na{ml mh:MO1}(h:WE ma ls hd λd x=>WO ml ls x λl y=>WO mh ls y λu z=>∃ds,B7 z d=some ds/\QA (CB ds l u) z):WA (Fb ma ml mh) ls hd QA:=by
 obtain⟨d,x,e,l,y,e2,u,z,e3,ds,e4,q⟩:=h;exact⟨_,z,by simp only[X8,e,bind_some,e2,e3,e4],q⟩
def KA{ml mh:MO1}(h:WE ma ls hd λd x=>WO ml ls x λl y=>WO mh ls y λu z=>∃ds,AR d=some ds/\¬ (HT.sIx ds.length 0 l=0/\HT.sIx ds.length ds.length u=ds.length)/\QE (AK (CB ds l u)) z):WE (CT ma ml mh) ls hd QE:=by
 obtain⟨d,x,e,l,y,e2,u,z,e3,ds,e4,c,q⟩:=h;exact⟨_,z,by simp only[X7,e,bind_some,e2,e3,e4];rw[if_pos c],q⟩
def D7(h:QO none hd):WO AT ls hd QO:=⟨_,_,rfl,h⟩
def Bc(h:WE ma ls hd λd x=>∃i,d=.im (.int i)/\QO (some i) x):WO (Aa ma) ls hd QO:=by
 obtain⟨d,x,e,i,rfl,q⟩:=h;exact⟨_,x,by simp only[U5,e,bind_some],q⟩
def MH(h:WA m ls hd λds x=>∃k,ds=[.im (.int k)]/\HJ k/\QI (BC 0 k.toNat,[]) x):WI (E4 m) ls hd QI:=by
 obtain⟨ds,x,e,k,rfl,c,q⟩:=h;exact⟨_,x,by simp only[XD,e,bind_some,c,if_true],q⟩
def E1(h:WE ma ls hd λd x=>∃ds,AR d=some ds/\QI (ds,[]) x):WI (Cb ma) ls hd QI:=by
 obtain⟨d,x,e,ds,e2,q⟩:=h;exact⟨_,x,by simp only[XC,e,bind_some,e2,map_some],q⟩
def YY(h:WA m ls hd λds x=>QI (ds,[]) x):WI (Fg m) ls hd QI:=by
 obtain⟨ds,x,e,q⟩:=h;exact⟨_,x,by simp only[XF,e,map_some],q⟩
def K9(h:WE ma ls hd λd x=>∃k ds,d=.mu k/\x[k]?=some (.lst ds)/\QI (ds,[(k,ds)]) x):WI (DV ma) ls hd QI:=by
 obtain⟨d,x,e,k,ds,rfl,e2,q⟩:=h;exact⟨_,x,by simp only[XE,e,bind_some,e2],q⟩
def BY{k:Nat}{ix:List Nat}(h:WI mi ls hd λp x=>Bh p.1.length/\WP (B6 n ta ma p.2 p.1 (F3 k ix ls) x) QA):WA (BO k ix mi n ta ma) ls hd QA:=WP.bind (h.mono λp x q=>by dsimp only;rw[if_pos q.1];exact q.2)
def KC{g:Gd}(P:List D->List D->Ls->Hd->Prop):∀{ds es:List D} {ls:Ls} {hd:Hd},P ds es ls hd ->
 (∀d r es ls hd,P (d::r) es ls hd->∃ls1,n d ls hd=some ls1/\WT ta ls1 hd λc x=>if c=true then WE ma ls1 x λz y=>GOk y g/\P r (es++[z]) ls1 y else GOk x g/\P r es ls1 x) ->
 WP (B6 n ta ma g ds ls hd) λzs x=>∃ls',P [] (es++zs) ls' x
 |[],es,ls,hd,h,k=>⟨_,_,by unfold B6;rfl,ls,by simpa using h⟩
 |d::r,es,ls,hd,h,k=>by
  obtain⟨ls1,e1,c,x,e2,q⟩:=k d r es ls hd h;unfold B6;rw[e1,bind_some,e2,bind_some];cases c with
  |true=>
   rw[if_pos rfl]at q ⊢;obtain⟨z,y,e3,g3,p3⟩:=q;obtain⟨zs,y2,e4,ls',p4⟩:=KC P p3 k;rw[e3,bind_some];dsimp only;rw[if_pos g3,e4];exact⟨z::zs,y2,rfl,ls',by simpa using p4⟩
  |false=>
   rw[if_neg Bool.false_ne_true]at q ⊢;dsimp only;rw[if_pos q.1];exact KC P q.2 k
def DN{i j:Int}(q:QE (.im (.int (i+j))) hd):WP (AQ (.im (.int i)) (.im (.int j)) hd) QE:=⟨_,_,by simp,q⟩
def Hk{i j:Int}(q:QE (.im (.int (i-j))) hd):WP (CI (.im (.int i)) (.im (.int j)) hd) QE:=⟨_,_,by simp,q⟩
def UL{i j:Int}(c:Ex i j)(q:QE (.im (.int (i*j))) hd):WP (DY (.im (.int i)) (.im (.int j)) hd) QE:=⟨_,_,by simp[c],q⟩
def Ga{i j:Int}(q:QE (.im (.bl (decide (i<j)))) hd):WP (gLt (.im (.int i)) (.im (.int j)) hd) QE:=⟨_,_,by simp,q⟩
def XZ{i j:Int}(q:QE (.im (.bl (decide (i<=j)))) hd):WP (gLe (.im (.int i)) (.im (.int j)) hd) QE:=⟨_,_,by simp,q⟩
def Jr{i j:Int}(q:QE (.im (.bl (decide (j<i)))) hd):WP (gGt (.im (.int i)) (.im (.int j)) hd) QE:=⟨_,_,by simp,q⟩
def MF{i j:Int}(q:QE (.im (.bl (decide (j<=i)))) hd):WP (gGe (.im (.int i)) (.im (.int j)) hd) QE:=⟨_,_,by simp,q⟩
def FE{i j:Int}(q:QE (.im (.bl (decide (i=j)))) hd):WP (gEq (.im (.int i)) (.im (.int j)) hd) QE:=⟨_,_,by simp,q⟩
def K5{i j:Int}(q:QE (.im (.bl (!decide (i=j)))) hd):WP (gNe (.im (.int i)) (.im (.int j)) hd) QE:=⟨_,_,by simp,q⟩
def G7{i j:Str}(q:QE (.im (.bl (decide (i=j)))) hd):WP (gEq (.im (.str i)) (.im (.str j)) hd) QE:=⟨_,_,by simp,q⟩
def Hn{i j:Str}(q:QE (.im (.bl (!decide (i=j)))) hd):WP (gNe (.im (.str i)) (.im (.str j)) hd) QE:=⟨_,_,by simp,q⟩
def Ab{i:Int}{ds:List D}(e1:BL hd d=some ds)(e2:atI ds i=some e)(q:QE e hd):WP (gIx d (.im (.int i)) hd) QE:=⟨_,_,by rw[YJ,e1,bind_some,e2];rfl,q⟩
def CC{tp:Bool}{g:List D->Option D}{ds:List D}{z:D}(e1:(if tp then BL hd d else B7 hd d)=some ds)(e2:g ds=some z)(q:QE z hd):WP (f1 tp g [d] hd) QE:=⟨_,_,by rw[YK,e1,bind_some,e2];rfl,q⟩
def K7{k:Nat}{x:D}{ds:List D}(e1:hd[k]?=some (.lst ds))(c:Ez ds.length)(q:QE (.im .non) (hd.set k (.lst (ds++[x])))):WP (Bx (.mu k) [x] hd) QE:=⟨_,_,by rw[XH,e1];simp only[c,if_true],q⟩
def RZ(h:WE mc ls hd λp x=>WE ma ls x λq y=>WE mb ls y λr z=>∃w i j ds,q=.mu w/\r=.im (.int i)/\z[w]?=some (.lst ds)/\ixN ds.length i=some j/\QS (.nx ls) (z.set w (.lst (ds.set j p)))):WS (Gg ma mb mc) ls hd QS:=by
 obtain⟨p,x,e1,q,y,e2,r,z,e3,w,i,j,ds,rfl,rfl,e5,c,qq⟩:=h;exact⟨_,_,by simp only[U7,e1,bind_some,e2,e3,e5,c,map_some],qq⟩
def BH{k n:Nat}{m:MS}{ds:List D}{Q:D->Hd->Prop}(hl:ds.length=k)(h:WS m (ds.map some++List.replicate (n-k) none) hd λf x=>match f with
 |.rt d=>Q d x
 |.nx _=>Q (.im .non) x
 | _=>False):WF (mkF k n m) ds hd Q:=by
 obtain⟨f,x,e,q⟩:=h;unfold WF mkF;rw[if_pos hl,e];cases f with
 |nx l=>exact⟨_,_,rfl,q⟩
 |rt l=>exact⟨_,_,rfl,q⟩
 |bk l=>exact q.elim
 |ct l=>exact q.elim
def C5{F:List D->Hd->Option (D×Hd)}(h:WA m ls hd λds x=>Bj 0 ds=true/\WF F ds [] λd _=>∃i,d=.im i/\QE (.im i) x):WE (AE 0 F m) ls hd QE:=by
 obtain⟨ds,x,e,c,d,y,e2,i,rfl,q⟩:=h;exact⟨_,_,Oc e c e2,q⟩
end
structure Tap(T:Nat->MO->MO->Prop)(P:List D->Hd->Option (D×Hd)):Prop where
 cl:∀{k:Nat} {a b:MO},T k a b->clO 2 a=true/\clO 2 b=true
 le:∀{j k:Nat} {a b:MO},T k a b->j<=k->T j a b
 pick:∀{k:Nat} {a b:MO} {many:Int},T (k+1) a b->0<many->many<1073741824->∃r a' b',0<=r/\r<many/\P [.mu 1,.im (.int many)] [a,b]=some (.im (.int r),[a',b'])/\T k a' b'
section
variable{T:Nat->MO->MO->Prop}{P:List D->Hd->Option (D×Hd)}{a b:MO}{rest:Hd}{ls:Ls}{m:MA}{QE:D->Hd->Prop}{n c:Nat}
def Tap.draw(t:Tap T P)(hT:T (n+1) a b){many:Int}{hd:Hd}(e:m ls hd=some ([.mu 1,.im (.int many)],a::b::rest))(h0:0<many)(h1:many<1073741824)
 (k:∀r a' b',T n a' b'->0<=r->r<many->QE (.im (.int r)) (a'::b'::rest)):WE (AE 2 P m) ls hd QE:=by
 obtain⟨r,a',b',p1,p2,e2,hT'⟩:=t.pick hT h0 h1;refine⟨_,_,Hg (w:=2) (ds:=[.mu 1,.im (.int many)]) (pre:=[a,b]) (pre':=[a',b']) (rest:=rest) (g:=[]) rfl rfl e (by simp) ?_ ?_ (by simpa using e2),k r a' b' hT' p1 p2⟩
 .simp[t.cl hT]
 .simp[t.cl hT']
end
mutual
def L8{v w:Nat}(h:v<=w):∀{d:D},clD v d=true->clD w d=true
 |.im i,_=>by simp
 |.mu n,c=>by simp at c ⊢;omega
 |.tm ds,c=>by rw[clD]at c ⊢;exact GV h c
 |.ro ns,_=>by rw[clD]
def GV{v w:Nat}(h:v<=w):∀{ds:List D},Bj v ds=true->Bj w ds=true
 |[],_=>by simp
 |d::ds,c=>by
  simp only[OY,Bool.and_eq_true]at c ⊢;exact⟨L8 h c.1,GV h c.2⟩
end
def JU{v w:Nat}(h:v<=w):∀{ds:List (Key×D)},FC v ds=true->FC w ds=true
 |[],_=>by simp[FC]
 |d::ds,c=>by
  simp only[FC,Bool.and_eq_true]at c ⊢;exact⟨L8 h c.1,JU h c.2⟩
def QX{v w:Nat}(h:v<=w){o:MO}(c:clO v o=true):clO w o=true:=by
 cases o with
 |lst ds=>exact GV h c
 |dic ds=>exact JU h c
section
variable{T:Nat->MO->MO->Prop}{P:List D->Hd->Option (D×Hd)}{a b:MO}{rest:Hd}{ls:Ls}{m:MA}{QE:D->Hd->Prop}
def Tap.callX(t:Tap T P){n c:Nat}(hT:T (n+c) a b)(ex:Hd){w:Nat}{F:List D->Hd->Option (D×Hd)}{as:List D}{hd:Hd}{R:I->Prop}(e:m ls hd=some (.mu 1::as,a::b::(ex++rest)))(hw:w=ex.length+2)(ha:Bj w as=true)(hx:ex.all (clO w)=true)
 (hF:∀a b,T (n+c) a b->WF F (.mu 1::as) (a::b::ex) λd x=>∃i a' b' g,d=.im i/\R i/\T n a' b'/\x=a'::b'::(ex++g))
 (k:∀i a' b',T n a' b'->R i->QE (.im i) (a'::b'::(ex++rest))):WE (AE w F m) ls hd QE:=by
 subst hw;have hcl:∀o,clO 2 o=true->clO (ex.length+2) o=true:=λo h=>QX (by omega) h;obtain⟨d,x,e2,i,a',b',g,rfl,hR,hT',rfl⟩:=hF a b hT;refine⟨_,_,Hg (w:=ex.length+2) (ds:=.mu 1::as) (pre:=a::b::ex) (pre':=a'::b'::ex) (rest:=rest) (g:=g) rfl rfl e (by simp[ha]) ?_ ?_ e2,k i a' b' hT' hR⟩
 .simp[hcl _ (t.cl hT).1,hcl _ (t.cl hT).2];simpa using hx
 .simp[hcl _ (t.cl hT').1,hcl _ (t.cl hT').2];simpa using hx
def Tap.call(t:Tap T P){n c:Nat}(hT:T (n+c) a b){F:List D->Hd->Option (D×Hd)}{as:List D}{hd:Hd}{R:I->Prop}(e:m ls hd=some (.mu 1::as,a::b::rest))(ha:Bj 2 as=true)
 (hF:∀a b,T (n+c) a b->WF F (.mu 1::as) [a,b] λd x=>∃i a' b' g,d=.im i/\R i/\T n a' b'/\x=a'::b'::g)
 (k:∀i a' b',T n a' b'->R i->QE (.im i) (a'::b'::rest)):WE (AE 2 F m) ls hd QE:=
 t.callX hT [] (w:=2) e rfl ha rfl hF k
end
end L2
namespace Bd
open PySem L2
@[reducible] def aZ:MS:=(AO (Fh [((mC (.str "cells")),(Ad (FM (Fb (A4 0) AT (Aa (mC (.int 63))))))),((mC (.str "next")),(mC (.int 0))),((mC (.str "left")),(mC (.int 0))),((mC (.str "turn")),(mC (.int 0)))]))
def F_tape:List D->Hd->Option (D×Hd):=mkF 1 1 aZ
@[reducible] def aa:MS:=(AC (DB (A4 0) (mC (.str "turn")) (mOp AQ (mOp Bv (A4 0) (mC (.str "turn"))) (mC (.int 1))))
 (AC (Ar (AI (mOp gGt (mOp Bv (A4 0) (mC (.str "left"))) (mC (.int 0))))
  (AC (AS 2 (mOp CV (mOp Bv (A4 0) (mC (.str "left"))) (A4 1)))
 (AC (DB (A4 0) (mC (.str "left")) (mOp Ey (mOp Bv (A4 0) (mC (.str "left"))) (A4 1)))
 (AO (A4 2))))
  Ae)
 (AC (IJ 3 4 5 (A0 (mOp Bv (A4 0) (mC (.str "cells"))) (A0 (mOp Bv (A4 0) (mC (.str "next"))) (A0 (mOp Bv (A4 0) (mC (.str "turn"))) A6))))
 (AC (AS 6 (mIf (AI (CH true (A4 3) (Aq A6))) (mOp gIx (A4 3) (mOp CV (A4 4) (mCB (f1 true BA) (A0 (A4 3) A6)))) (mC (.int 23))))
 (AC (DB (A4 0) (mC (.str "next")) (mOp AQ (A4 4) (mC (.int 1))))
 (AC (Ar (Eg (AI (mOp gGe (A4 6) (mOp GM (mC (.int 10)) (mC (.int 18))))) (AI (mOp gLt (A4 4) (mCB (f1 true BA) (A0 (A4 3) A6)))))
  (AC (DB (A4 0) (mC (.str "left")) (mOp Ey (A4 6) (A4 1)))
 (AO (mOp CV (A4 6) (A4 1))))
  Ae)
 (AC (AS 7 (mOp CV (mOp AQ (mOp AQ (mOp CV (A4 6) (mC (.int 2147483587))) (mOp DY (mC (.int 104729)) (A4 5))) (mC (.int 17))) (mC (.int 2147483629))))
 (AC (AS 7 (mOp CV (mOp AQ (mOp DY (A4 7) (A4 7)) (mOp DY (mC (.int 48271)) (A4 5))) (mC (.int 2147483647))))
 (AC (AS 7 (mOp CV (mOp AQ (mOp AQ (mOp DY (A4 7) (A4 7)) (mOp DY (mC (.int 7919)) (A4 7))) (A4 5)) (mC (.int 2147483629))))
 (AO (mOp CV (mOp Ey (A4 7) (mC (.int 128))) (A4 1))))))))))))
def F_pick:List D->Hd->Option (D×Hd):=mkF 2 8 aa
@[reducible] def HR:MS:=(AC (AS 2 (mIf (AI (mOp gEq (AE 2 F_pick (A0 (A4 0) (A0 (mC (.int 4)) A6))) (mC (.int 0)))) (mOp CI (AE 2 F_pick (A0 (A4 0) (A0 (mC (.int 500)) A6))) (mC (.int 99))) (mOp CI (AE 2 F_pick (A0 (A4 0) (A0 (mC (.int 40)) A6))) (mC (.int 5)))))
 (AC (AS 3 (AE 2 F_pick (A0 (A4 0) (A0 (mC (.int 10)) A6))))
 (AC (Ar (AI (mOp gLt (A4 1) (mC (.int 4))))
  (AO (Cm (Aq (A0 (AL (A0 (mC (.str "late")) (A0 (A4 2) A6))) (A0 (AL (A0 (mC (.str "tardy")) (A0 (A4 2) (A0 (A4 3) A6)))) (A0 (AL (A0 (mC (.str "miss")) (A0 (A4 2) (A0 (A4 3) A6)))) (A0 (AL (A0 (mC (.str "ends")) (A0 (A4 3) A6))) A6))))) (A4 1)))
  Ae)
 (AC (Ff [4,5] (A0 (mCB Go (A0 (A4 2) (A0 (mC (.int 200)) A6))) (A0 (mC (.int 0)) A6)))
 (AC (AS 6 (Ad (Aq A6)))
 (AC (Dk (E4 (A0 (mOp AQ (mC (.int 1)) (AE 2 F_pick (A0 (A4 0) (A0 (mC (.int 5)) A6)))) A6)) (Am 7)
  (AC (AS 4 (mOp AQ (mOp AQ (A4 4) (mC (.int 1))) (AE 2 F_pick (A0 (A4 0) (A0 (mC (.int 40)) A6)))))
 (AC (AS 5 (mOp AQ (A4 5) (AE 2 F_pick (A0 (A4 0) (A0 (mC (.int 20)) A6)))))
 (Do (mMt Bx (A4 6) (A0 (AL (A0 (A4 4) (A0 (A4 5) A6))) A6))))))
 (AO (AL (A0 (mC (.str "steps")) (A0 (mCB (f1 true DW) (A0 (A4 6) A6)) A6))))))))))
def F_cost:List D->Hd->Option (D×Hd):=mkF 2 8 HR
structure Tp where
 cells:List Int
 nx:Int
 lf:Int
 tn:Int
def BI(t:Tp):List (Key×D):=[(.inr "cells",.mu 0),(.inr "next",.im (.int t.nx)),(.inr "left",.im (.int t.lf)),(.inr "turn",.im (.int t.tn))]
def tp(t:Tp):Hd:=[.lst (t.cells.map λi=>.im (.int i)),.dic (BI t)]
@[simp] theorem ZZ(t:Tp):(tp t).length=2:=rfl
@[simp] theorem aU(t:Tp)(r:Hd):(tp t++r)[0]?=some (.lst (t.cells.map λi=>.im (.int i))):=rfl
@[simp] theorem aT(t:Tp)(r:Hd):(tp t++r)[1]?=some (.dic (BI t)):=rfl
@[simp] theorem tp0(t:Tp):(tp t)[0]?=some (.lst (t.cells.map λi=>.im (.int i))):=rfl
@[simp] theorem tp1(t:Tp):(tp t)[1]?=some (.dic (BI t)):=rfl
@[simp] theorem aA(t t':Tp)(h:t'.cells=t.cells):(tp t).set 1 (.dic (BI t'))=tp t':=by unfold tp;rw[h];rfl
section
variable(t:Tp)(v:Int)
@[simp] theorem Ye:Bi (BI t) (.inr "cells")=some (.mu 0):=by simp[Bi,BI]
@[simp] theorem Z8:Bi (BI t) (.inr "next")=some (.im (.int t.nx)):=by simp[Bi,BI,ne1]
@[simp] theorem Z9:Bi (BI t) (.inr "left")=some (.im (.int t.lf)):=by simp[Bi,BI,ne2,ne4]
@[simp] theorem Z7:Bi (BI t) (.inr "turn")=some (.im (.int t.tn)):=by simp[Bi,BI,ne3,ne5,ne6]
@[simp] theorem Yc:DR (BI t) (.inr "next") (.im (.int v))=BI { t with nx:=v }:=by simp[DR,BI,ne1,Yn,Ym]
@[simp] theorem Yd:DR (BI t) (.inr "left") (.im (.int v))=BI { t with lf:=v }:=by simp[DR,BI,ne2,ne4,Yl]
@[simp] theorem Yb:DR (BI t) (.inr "turn") (.im (.int v))=BI { t with tn:=v }:=by simp[DR,BI,ne3,ne5,ne6]
@[simp] theorem Za:(BI t).length=4:=rfl
end
def DG:∀ns:List Int,I.pys (ns.map I.int)=ns.map PyData.int
 |[]=>by simp[I.pys]
 |n::ns=>by simp[I.pys,I.py,DG ns]
def Cl(ns:List Int):BP (ns.map λi=>D.im (.int i))=some (ns.map I.int):=by
 have:(ns.map λi=>D.im (.int i))=(ns.map I.int).map D.im:=by rw[map_map];rfl
 rw[this];exact Ol _
def eqv_nil(ns:List Int):PyData.eqv (.list (ns.map PyData.int)) (.list [])=decide (ns=[]):=by
 cases ns<;>simp[PyData.eqv,PyData.eqvAll]
def lay_ints(ns:List Int):(PyData.list (ns.map PyData.int)).canLay0=true:=by simp[PyData.canLay0,HA]
def FS(ns:List Int)(hd:Hd)(neg:Bool):J4 neg (.list (ns.map PyData.int)) (.list []) hd=some (.im (.bl (if neg then !decide (ns=[])else decide (ns=[]))),hd):=by
 unfold J4;rw[if_pos,eqv_nil];refine⟨lay_ints ns,by simp[PyData.canLay0,PyData.canLayAll0],?_⟩;have:(PyData.list []).depth<=1:=by simp[PyData.depth,PyData.depthAll]
 omega
def ED{x:Int}(m:Int)(h:0<m):0<=x%m/\x%m<m:=⟨Int.emod_nonneg _ (by omega),Int.emod_lt_of_pos _ h⟩
def Fa(cell turn:Int):Int:=(cell%2147483587+104729*turn+17)%2147483629
def Iy(x turn:Int):Int:=(x*x+48271*turn)%2147483647
def Wl(x turn:Int):Int:=(x*x+7919*x+turn)%2147483629
def XQ(hd:Hd)(neg:Bool):J4 neg (.list []) (.list []) hd=some (.im (.bl (if neg then false else true)),hd):=by
 have:=FS [] hd neg;simpa using this
def YQ{xs:List Int}(h:xs≠[])(n:Int):∃c,atI (xs.map λi=>D.im (.int i)) (n%(xs.length:Int))=some (.im (.int c)):=by
 have hl:0<xs.length:=J2 h;obtain⟨a,b⟩:=ED (x:=n) (xs.length:Int) (by omega);obtain⟨k,hk⟩:=Int.eq_ofNat_of_zero_le a;have hk':k<xs.length:=by omega
 exact⟨xs[k],Aj hk (by simp[hk'])⟩
def mk1(j:Int):Ex 104729 j:=EO (by decide) (by decide)
def mk2(j:Int):Ex 48271 j:=EO (by decide) (by decide)
def mk3(j:Int):Ex 7919 j:=EO (by decide) (by decide)
def mo1:D9 2147483587:=by unfold D9;decide
def mo2:D9 2147483629:=by unfold D9;decide
def mo3:D9 2147483647:=by unfold D9;decide
def di1:K2 128:=by unfold K2;decide
def po1:Jy 10 18:=by unfold Jy;decide
def TM(τ:Tp)(many:Int)(h0:0<many)(h1:many<1073741824):∃r τ',F_pick [.mu 1,.im (.int many)] (tp τ)=some (.im (.int r),tp τ')/\0<=r/\r<many/\τ'.cells=τ.cells:=by
 have hm:D9 many:=h0;have hv:K2 many:=⟨h0,h1⟩
 by_cases hl:τ.lf>0
 .refine⟨τ.lf%many,{ τ with tn:=τ.tn+1,lf:=τ.lf/many },?_,(ED many h0).1,(ED many h0).2,rfl⟩;simp[F_pick,mkF,hl,hm,hv]
 .have key:∀cell:Int,(if τ.cells=[]then cell=23 else atI (τ.cells.map λi=>D.im (.int i)) (τ.nx%(τ.cells.length:Int))=some (.im (.int cell))) ->
   ∃r τ',F_pick [.mu 1,.im (.int many)] (tp τ)=some (.im (.int r),tp τ')/\0<=r/\r<many/\τ'.cells=τ.cells:=by
   intro cell hcell;have b1:=ED (x:=cell%2147483587+104729*(τ.tn+1)+17) 2147483629 (by decide);have b2:=ED (x:=Fa cell (τ.tn+1)*Fa cell (τ.tn+1)+48271*(τ.tn+1)) 2147483647 (by decide);have c1:∀j,Ex (Fa cell (τ.tn+1)) j:=λj=>EO (by unfold Fa;omega) (by unfold Fa;omega);have c2:∀j,Ex (Iy (Fa cell (τ.tn+1)) (τ.tn+1)) j:=λj=>EO (by unfold Iy;omega) (by unfold Iy;omega);by_cases hb:cell>=1000000000000000000/\τ.nx<(τ.cells.length:Int)
   .refine⟨cell%many,{ τ with tn:=τ.tn+1,nx:=τ.nx+1,lf:=cell/many },?_,(ED many h0).1,(ED many h0).2,rfl⟩;by_cases hc:τ.cells=[]
    .rw[if_pos hc]at hcell;subst hcell;omega
    .rw[if_neg hc]at hcell;have hl0:0<τ.cells.length:=J2 hc;have hl0':D9 (τ.cells.length:Int):=by unfold D9;omega
     simp[F_pick,mkF,hl,hm,hv,mk1,mk2,mk3,mo1,mo2,mo3,di1,po1,CH,pyD,Cl,DG,I.pys,FS,hc,hcell,hl0',hb.1,hb.2,BA]
   .refine⟨Wl (Iy (Fa cell (τ.tn+1)) (τ.tn+1)) (τ.tn+1)/128%many,{ τ with tn:=τ.tn+1,nx:=τ.nx+1 },?_,(ED many h0).1,(ED many h0).2,rfl⟩;have hb':1000000000000000000<=cell->¬ τ.nx<(τ.cells.length:Int):=λa b=>hb ⟨a,b⟩;unfold Fa at c1 c2;unfold Iy at c2;unfold Wl Iy Fa;by_cases hc:τ.cells=[]
    .rw[if_pos hc]at hcell;subst hcell;simp only[Int.reduceMod]at c1 c2;simp[F_pick,mkF,hl,hm,hv,mk1,mk2,mk3,mo1,mo2,mo3,di1,po1,CH,pyD,Cl,DG,I.pys,FS,XQ,hc,BA,c1,c2]
    .rw[if_neg hc]at hcell;have hl0:0<τ.cells.length:=J2 hc;have hl0':D9 (τ.cells.length:Int):=by unfold D9;omega
     by_cases hd:1000000000000000000<=cell
     .simp[F_pick,mkF,hl,hm,hv,mk1,mk2,mk3,mo1,mo2,mo3,di1,po1,CH,pyD,Cl,DG,I.pys,FS,hc,hcell,hl0',BA,c1,c2,hd,hb' hd]
     .simp[F_pick,mkF,hl,hm,hv,mk1,mk2,mk3,mo1,mo2,mo3,di1,po1,CH,pyD,Cl,DG,I.pys,FS,hc,hcell,hl0',BA,c1,c2,hd]
  by_cases hc:τ.cells=[]
  .exact key 23 (by rw[if_pos hc])
  .obtain⟨c,e⟩:=YQ hc τ.nx;exact key c (by rw[if_neg hc];exact e)
inductive Cost where
 |late (d:Int)|tardy (d w:Int)|miss (d w:Int)|ends (w:Int)|steps (rows:List (Int×Int))
def C9(r:Int×Int):I:=.tup [.int r.1,.int r.2]
def BW:Cost->I
 |.late d=>.tup [.str "late",.int d]
 |.tardy d w=>.tup [.str "tardy",.int d,.int w]
 |.miss d w=>.tup [.str "miss",.int d,.int w]
 |.ends w=>.tup [.str "ends",.int w]
 |.steps rows=>.tup [.str "steps",.tup (rows.map C9)]
def n1:¬ (("late":Str)="steps"):=by decide +kernel
def n2:¬ (("tardy":Str)="steps"):=by decide +kernel
def n3:¬ (("miss":Str)="steps"):=by decide +kernel
def n4:¬ (("ends":Str)="steps"):=by decide +kernel
def n7:¬ (("miss":Str)="ends"):=by decide +kernel
def n10:¬ (("miss":Str)="tardy"):=by decide +kernel
@[simp high] theorem aS(t:Tp)(x:MO)(r:Hd):(tp t++(x::r))[2]?=some x:=rfl
@[simp high] theorem aR(t:Tp)(x y:MO)(r:Hd):(tp t++(x::y::r))[3]?=some y:=rfl
@[simp high] theorem aQ(t:Tp)(x y z:MO)(r:Hd):(tp t++(x::y::z::r))[4]?=some z:=rfl
@[simp high] theorem aC(t:Tp)(x y:MO)(r:Hd):(tp t++(x::r)).set 2 y=tp t++(y::r):=rfl
@[simp high] theorem aB(t:Tp)(x y z:MO)(r:Hd):(tp t++(x::y::r)).set 3 z=tp t++(x::z::r):=rfl
def OX(w:Nat)(ns:List Int):Bj w (ns.map λi=>D.im (.int i))=true:=by induction ns<;>simp_all [Bj,clD]
@[simp] theorem MN(t:Tp):(tp t).all (clO 2)=true:=by simp[tp,clO,OX,BI,FC,clD]
structure Drawn(τ:Tp)(many:Int)(r:Int)(τ':Tp):Prop where
 lo:0<=r
 hi:r<many
 cl:τ'.cells=τ.cells
 eq:F_pick [.mu 1,.im (.int many)] (tp τ)=some (.im (.int r),tp τ')
def Drawn.gen{τ τ':Tp}{many r:Int}(h:Drawn τ many r τ'){ls:Ls}{hd rest:Hd}{m:MA}(e:m ls hd=some ([.mu 1,.im (.int many)],tp τ++rest)):AE 2 F_pick m ls hd=some (.im (.int r),tp τ'++rest):=
 Hg (w:=2) (ds:=[.mu 1,.im (.int many)]) (pre:=tp τ) (pre':=tp τ') (rest:=rest) (g:=[]) rfl rfl e (by simp) (MN _) (MN _) (by rw[append_nil];exact h.eq)
def Drawn.genN{τ τ':Tp}{many r:Int}(h:Drawn τ many r τ'){ls:Ls}{hd:Hd}{m:MA}(e:m ls hd=some ([.mu 1,.im (.int many)],tp τ)):AE 2 F_pick m ls hd=some (.im (.int r),tp τ'):=by
 have:=h.gen (rest:=[]) (e:=by rw[append_nil];exact e)
 rwa [append_nil]at this
def Drawn.c{τ τ':Tp}{many r:Int}(h:Drawn τ many r τ')(ls:Ls)(rest:Hd)(i:Nat)(hi:ls[i]?=some (some (.mu 1))):AE 2 F_pick (A0 (A4 i) (A0 (mC (.int many)) A6)) ls (tp τ++rest)=some (.im (.int r),tp τ'++rest):=h.gen (by simp[hi])
def Drawn.cN{τ τ':Tp}{many r:Int}(h:Drawn τ many r τ')(ls:Ls)(i:Nat)(hi:ls[i]?=some (some (.mu 1))):AE 2 F_pick (A0 (A4 i) (A0 (mC (.int many)) A6)) ls (tp τ)=some (.im (.int r),tp τ'):=h.genN (by simp[hi])
def draw(τ:Tp)(many:Int)(h0:0<many)(h1:many<1073741824):∃r τ',Drawn τ many r τ':=by
 obtain⟨r,τ',e,a,b,c⟩:=TM τ many h0 h1;exact⟨r,τ',a,b,c,e⟩
def RowsOk(lo bot:Int):List (Int×Int)->Prop
 |[]=>True
 |(b,a)::r=>lo<b/\b<=lo+40/\bot<=a/\a<=bot+19/\RowsOk b a r
def Cost.ok:Cost->Prop
 |.late d=>-99<=d/\d<=400
 |.tardy d w=>(-99<=d/\d<=400)/\0<=w/\w<=9
 |.miss d w=>(-99<=d/\d<=400)/\0<=w/\w<=9
 |.ends w=>0<=w/\w<=9
 |.steps rows=>rows≠[]/\rows.length<=5/\∃lo,-99<=lo/\lo<=200/\RowsOk lo 0 rows
def RowsOk.snoc:∀{rows:List (Int×Int)} {lo bot b a:Int},RowsOk lo bot rows->(rows.getLastD (lo,bot)).1<b->b<=(rows.getLastD (lo,bot)).1+40->(rows.getLastD (lo,bot)).2<=a->a<=(rows.getLastD (lo,bot)).2+19->RowsOk lo bot (rows++[(b,a)])
 |[],lo,bot,b,a,h,h1,h2,h3,h4=>⟨h1,h2,h3,h4,trivial⟩
 |(x,y)::r,lo,bot,b,a,⟨p1,p2,p3,p4,p5⟩,h1,h2,h3,h4=>by
   have e:((x,y)::r).getLastD (lo,bot)=r.getLastD (x,y):=by cases r<;>rfl
   rw[e]at h1 h2 h3 h4;exact⟨p1,p2,p3,p4,RowsOk.snoc p5 h1 h2 h3 h4⟩
abbrev QV:MS:=(AC (AS 4 (mOp AQ (mOp AQ (A4 4) (mC (.int 1))) (AE 2 F_pick (A0 (A4 0) (A0 (mC (.int 40)) A6)))))
 (AC (AS 5 (mOp AQ (A4 5) (AE 2 F_pick (A0 (A4 0) (A0 (mC (.int 20)) A6)))))
 (Do (mMt Bx (A4 6) (A0 (AL (A0 (A4 4) (A0 (A4 5) A6))) A6)))))
def JT(w way due wt:D)(lo:Int):∀(k:Nat) (τ:Tp) (rows:List (Int×Int)) (z:Option D) (ds:List D),ds.length=k->rows.length+k<=5->RowsOk lo 0 rows->∃τ' rows' s t z',C2 (Am 7) QV [] ds
 [some (.mu 1),some way,some due,some wt,some (.im (.int (rows.getLastD (lo,0)).1)),some (.im (.int (rows.getLastD (lo,0)).2)),some (.mu 2),z] (tp τ++[.lst ((rows.map C9).map .im)]) =
 some (.nx [some (.mu 1),some way,some due,some wt,s,t,some (.mu 2),z'],tp τ'++[.lst ((rows'.map C9).map .im)])/\rows'.length=rows.length+k/\RowsOk lo 0 rows'/\τ'.cells=τ.cells
 |0,τ,rows,z,ds,hk,hr,hR=>by
  have:ds=[]:=List.length_eq_zero_iff.mp hk;subst this;exact⟨τ,rows,_,_,z,QB,rfl,hR,rfl⟩
 |k+1,τ,rows,z,[],hk,hr,hR=>by simp at hk
 |k+1,τ,rows,z,d::ds,hk,hr,hR=>by
  obtain⟨r1,τ1,d1⟩:=draw τ 40 (by decide) (by decide);obtain⟨r2,τ2,d2⟩:=draw τ1 20 (by decide) (by decide);have a1:=d1.lo;have b1:=d1.hi;have c1:=d1.cl;have a2:=d2.lo;have b2:=d2.hi;have c2:=d2.cl;have e1:=d1.c;have e2:=d2.c;have hl:Ez rows.length:=Ej (by omega);have lst:(rows++[((rows.getLastD (lo,0)).1+1+r1,(rows.getLastD (lo,0)).2+r2)]).getLastD (lo,0)=((rows.getLastD (lo,0)).1+1+r1,(rows.getLastD (lo,0)).2+r2):=by simp
  obtain⟨τ',rows',s,t,z',e,l,R,c⟩:=JT w way due wt lo k τ2 (rows++[((rows.getLastD (lo,0)).1+1+r1,(rows.getLastD (lo,0)).2+r2)]) (some d) ds (by simpa using hk) (by simp;omega) (hR.snoc (by omega) (by omega) (by omega) (by omega));refine⟨τ',rows',s,t,z',?_,by rw[l];simp;omega,R,by rw[c,c2,c1]⟩;rw[<- e,lst];refine OK (ls1:=[some (.mu 1),some way,some due,some wt,some (.im (.int (rows.getLastD (lo,0)).1)),some (.im (.int (rows.getLastD (lo,0)).2)),some (.mu 2),some d]) rfl ?_ (B8 _);have q:(tp τ2++[MO.lst ((rows.map C9).map D.im)])[2]?=some (.lst ((rows.map C9).map D.im)):=rfl;have q2:∀x,(tp τ2++[MO.lst ((rows.map C9).map D.im)]).set 2 x=tp τ2++[x]:=λ_=>rfl;simp[e1,e2,hl,C9]
def OW(τ:Tp)(way:Int)(h0:0<=way)(h4:way<5):∃c τ' g,F_cost [.mu 1,.im (.int way)] (tp τ)=some (.im (BW c),tp τ'++g)/\c.ok/\τ'.cells=τ.cells:=by
 obtain⟨r1,τ1,d1'⟩:=draw τ 4 (by decide) (by decide);have a1:=d1'.lo;have b1:=d1'.hi;have c1:=d1'.cl;have e1:=d1'.cN;have key:∀(due:Int) (τ2:Tp),-99<=due->due<=400->τ2.cells=τ.cells ->
  (∀(ls:Ls),ls[0]?=some (some (.mu 1))->mIf (AI (mOp gEq (AE 2 F_pick (A0 (A4 0) (A0 (mC (.int 4)) A6))) (mC (.int 0)))) (mOp CI (AE 2 F_pick (A0 (A4 0) (A0 (mC (.int 500)) A6))) (mC (.int 99))) (mOp CI (AE 2 F_pick (A0 (A4 0) (A0 (mC (.int 40)) A6))) (mC (.int 5))) ls (tp τ)=some (.im (.int due),tp τ2)) ->
  ∃c τ' g,F_cost [.mu 1,.im (.int way)] (tp τ)=some (.im (BW c),tp τ'++g)/\c.ok/\τ'.cells=τ.cells:=by
  intro due τ2 d1 d2 hc hE;obtain⟨r3,τ3,d3'⟩:=draw τ2 10 (by decide) (by decide);have a3:=d3'.lo;have b3:=d3'.hi;have c3:=d3'.cl;have e3:=d3'.cN;have hE:=hE [some (.mu 1),some (.im (.int way)),none,none,none,none,none,none] rfl;have cases4:way=0∨way=1∨way=2∨way=3∨way=4:=by omega
  have e0:∀(x y z u:D),atI [x,y,z,u] 3=some u:=λx y z u=>FW (j:=3) rfl;rcases cases4 with rfl|rfl|rfl|rfl|rfl
  .refine⟨.late due,τ3,[],?_,⟨d1,d2⟩,by rw[c3,hc]⟩;simp only[F_cost,mkF,HR,FQ,En,map_cons,map_nil,length_cons,length_nil,cons_append,nil_append,List.replicate,Nat.reduceAdd,Nat.reduceSub,if_true]at hE ⊢;rw[hE];simp[e3,BW]
  .refine⟨.tardy due r3,τ3,[],?_,⟨⟨d1,d2⟩,by omega,by omega⟩,by rw[c3,hc]⟩;simp only[F_cost,mkF,HR,FQ,En,map_cons,map_nil,length_cons,length_nil,cons_append,nil_append,List.replicate,Nat.reduceAdd,Nat.reduceSub,if_true]at hE ⊢;rw[hE];simp[e3,BW]
  .refine⟨.miss due r3,τ3,[],?_,⟨⟨d1,d2⟩,by omega,by omega⟩,by rw[c3,hc]⟩;simp only[F_cost,mkF,HR,FQ,En,map_cons,map_nil,length_cons,length_nil,cons_append,nil_append,List.replicate,Nat.reduceAdd,Nat.reduceSub,if_true]at hE ⊢;rw[hE];simp[e3,BW]
  .refine⟨.ends r3,τ3,[],?_,⟨by omega,by omega⟩,by rw[c3,hc]⟩;simp only[F_cost,mkF,HR,FQ,En,map_cons,map_nil,length_cons,length_nil,cons_append,nil_append,List.replicate,Nat.reduceAdd,Nat.reduceSub,if_true]at hE ⊢;rw[hE];simp[e3,BW,e0]
  .obtain⟨r4,τ4,d4'⟩:=draw τ3 5 (by decide) (by decide);have a4:=d4'.lo;have b4:=d4'.hi;have c4:=d4'.cl;have e4:=d4'.c;obtain⟨τ',rows',s,t,z',e,l,R,c⟩:=JT (.im .non) (.im (.int 4)) (.im (.int due)) (.im (.int r3)) (if 200<due then 200 else due) (1+r4).toNat τ4 [] none (BC 0 (1+r4).toNat) (FY _ _) (by simp;omega) trivial;refine⟨.steps rows',τ',[.lst ((rows'.map C9).map .im)],?_,⟨?_,by simp at l;omega,_,?_,?_,R⟩,by rw[c,c4,c3,hc]⟩
   .simp only[F_cost,mkF,HR,FQ,En,map_cons,map_nil,length_cons,length_nil,cons_append,nil_append,List.replicate,Nat.reduceAdd,Nat.reduceSub,if_true]at hE ⊢;rw[hE];have q:(tp τ'++[MO.lst ((rows'.map C9).map D.im)])[2]?=some (.lst ((rows'.map C9).map D.im)):=rfl;have bd:HJ (1+r4):=FF (by omega) (by omega);have nil0:tp τ3++[MO.lst ([]:List D)]=tp τ3++[.lst ((([]:List (Int×Int)).map C9).map .im)]:=rfl;have e':=e;simp only[List.getLastD_nil,map_nil]at e';have e'':(D.im ∘ C9)=λr=>D.im (C9 r):=rfl;simp only[map_map]at e';have tt:AK (List.map (D.im ∘ C9) rows')=.im (.tup (rows'.map C9)):=by rw[<- map_map];exact CF _
    simp[e3,e4,bd,e',DW,BW,tt]
   .intro z;rw[z]at l;simp at l;omega
   .split<;>omega
   .split<;>omega
 by_cases h:r1=0
 .obtain⟨r2,τ2,d2'⟩:=draw τ1 500 (by decide) (by decide);have a2:=d2'.lo;have b2:=d2'.hi;have c2:=d2'.cl;have e2:=d2'.cN;exact key (r2-99) τ2 (by omega) (by omega) (by rw[c2,c1]) λls hls=>by simp[e1,e2,hls,h]
 .obtain⟨r2,τ2,d2'⟩:=draw τ1 40 (by decide) (by decide);have a2:=d2'.lo;have b2:=d2'.hi;have c2:=d2'.cl;have e2:=d2'.cN;exact key (r2-5) τ2 (by omega) (by omega) (by rw[c2,c1]) λls hls=>by simp[e1,e2,hls,h]
structure Wk where
 len:Int
 com:Int
 cost:Cost
def Al(w:Wk):I:=.tup [.int w.len,.int w.com,BW w.cost]
structure Wk.ok(w:Wk):Prop where
 l1:1<=w.len
 l2:w.len<=20
 c1:0<=w.com
 c2:w.com<=60
 co:w.cost.ok
abbrev AW(ws:List Wk):I:=.tup (ws.map Al)
end Bd
namespace L2
open PySem PySem.Spec PyProof.Rows
structure OkP(w dp:Nat)(d:PyData):Prop where
 sh:d.showable=true
 lay:d.canLay0=true
 it:d.intsShort 13=true
 dp:d.depth<=dp
 wt:d.weight<=w
structure OkPs(w dp n:Nat)(ds:List PyData):Prop where
 sh:PyData.showableAll ds=true
 lay:PyData.canLayAll0 ds=true
 it:PyData.intsShortAll 13 ds=true
 dp:PyData.depthAll ds<=dp
 wt:PyData.weightAll ds<=n*(w+1)
def sm(i:Int):Prop:=-1000000000<=i/\i<=1000000000
def OkP.int{i:Int}(h:sm i):OkP 40 0 (.int i):=by
 have h1:i.natAbs<10^10:=by obtain⟨a,b⟩:=h;omega
 have h0:i.natAbs<2^38:=by obtain⟨a,b⟩:=h;omega
 have lg:i.natAbs.log2<38:=by
  by_cases z:i.natAbs=0
  .rw[z];decide
  .exact(log2_lt z).mpr h0
 refine⟨?_,by simp[PyData.canLay0],?_,by simp[PyData.depth],?_⟩
 .simp only[PyData.showable];exact decide_eq_true (by omega)
 .simp only[PyData.intsShort,PyData.shown];refine decide_eq_true ?_;have h2:=int_text_length_le10 (a:=i) (k:=10) (by decide) h1;rw[PySem.ofString_length];omega
 .simp only[PyData.weight];split<;>omega
def OkP.mono{w w' dp dp':Nat}{d:PyData}(h:OkP w dp d)(a:w<=w')(b:dp<=dp'):OkP w' dp' d:=⟨h.sh,h.lay,h.it,le_trans h.dp b,le_trans h.wt a⟩
def OkPs.nil{w dp:Nat}:OkPs w dp 0 []:=⟨by simp[PyData.showableAll],by simp[PyData.canLayAll0],by simp[PyData.intsShortAll],by simp[PyData.depthAll],by simp[PyData.weightAll]⟩
def OkPs.cons{w dp n:Nat}{d:PyData}{ds:List PyData}(h:OkP w dp d)(t:OkPs w dp n ds):OkPs w dp (n+1) (d::ds):=by
 refine⟨by simp[PyData.showableAll,h.sh,t.sh],by simp[PyData.canLayAll0,h.lay,t.lay],by simp[PyData.intsShortAll,h.it,t.it],?_,?_⟩
 .simp only[PyData.depthAll];exact Nat.max_le.mpr ⟨h.dp,t.dp⟩
 .simp only[PyData.weightAll];have:=h.wt;have:=t.wt;rw[Nat.add_mul];omega
def OkPs.tup{w dp n:Nat}{ds:List PyData}(t:OkPs w dp n ds):OkP (n*(w+1)) (dp+1) (.tuple ds):=by
 refine⟨?_,?_,?_,?_,?_⟩
 .rw[PyData.showable];exact t.sh
 .rw[PyData.canLay0];exact t.lay
 .rw[PyData.intsShort];exact t.it
 .rw[PyData.depth];have:=t.dp;omega
 .rw[PyData.weight];exact t.wt
def OC{w dp:Nat}:∀{is:List I},(∀i∈is,OkP w dp i.py)->OkPs w dp is.length (I.pys is)
 |[],_=>by simp only[I.pys];exact OkPs.nil
 |i::is,h=>by simp only[I.pys,length_cons];exact(OC λj hj=>h j (mem_cons_of_mem _ hj)).cons (h i mem_cons_self)
def Cj{w dp:Nat}{is:List I}(h:∀i∈is,OkP w dp i.py):OkP (is.length*(w+1)) (dp+1) (I.py (.tup is)):=by
 rw[I.py];exact(OC h).tup
def FK{i:Int}(h:sm i):OkP 40 0 (I.py (.int i)):=by rw[I.py];exact .int h
end L2
namespace Bd
open PySem L2
def Tm(x:Str)(h:x="late"∨x="tardy"∨x="miss"∨x="ends"∨x="steps"):OkP 40 0 (I.py (.str x)):=by
 rw[I.py];rcases h with rfl|rfl|rfl|rfl|rfl<;>exact⟨by decide +kernel,by decide +kernel,by decide +kernel,by decide +kernel,by decide +kernel⟩
def Io:∀{rows:List (Int×Int)} {lo bot:Int},RowsOk lo bot rows->rows.length<=5->-99<=lo->0<=bot->lo<=200+40*(5-rows.length)->bot<=19*(5-rows.length)->∀r∈rows,sm r.1/\sm r.2
 |[],_,_,_,_,_,_,_,_=>λr h=>by cases h
 |(b,a)::rows,lo,bot,⟨h1,h2,h3,h4,h5⟩,hl,p1,p2,p3,p4=>λr h=>by
   simp only[length_cons]at hl p3 p4;rcases mem_cons.mp h with rfl|h
   .exact⟨⟨by show -1000000000<=b;omega,by show b<=1000000000;omega⟩,⟨by show -1000000000<=a;omega,by show a<=1000000000;omega⟩⟩
   .exact Io h5 (by omega) (by omega) (by omega) (by omega) (by omega) r h
def To{c:Cost}(h:c.ok):OkP 1000 3 (I.py (BW c)):=by
 have i1:∀{i:Int},sm i->OkP 40 2 (I.py (.int i)):=λh=>(FK h).mono (by omega) (by omega);have s1:∀{x:Str},(x="late"∨x="tardy"∨x="miss"∨x="ends"∨x="steps")->OkP 40 2 (I.py (.str x)):=λh=>(Tm _ h).mono (by omega) (by omega);cases c with
 |late d=>
  refine(Cj (w:=40) (dp:=2) (is:=[.str "late",.int d]) λi hi=>?_).mono (by simp) (by omega);simp at hi;rcases hi with rfl|rfl
  .exact s1 (by simp)
  .exact i1 ⟨by have:=h.1;omega,by have:=h.2;omega⟩
 |tardy d w=>
  refine(Cj (w:=40) (dp:=2) (is:=[.str "tardy",.int d,.int w]) λi hi=>?_).mono (by simp) (by omega);obtain⟨⟨h1,h2⟩,h3,h4⟩:=h;simp at hi;rcases hi with rfl|rfl|rfl
  .exact s1 (by simp)
  .exact i1 ⟨by omega,by omega⟩
  .exact i1 ⟨by omega,by omega⟩
 |miss d w=>
  refine(Cj (w:=40) (dp:=2) (is:=[.str "miss",.int d,.int w]) λi hi=>?_).mono (by simp) (by omega);obtain⟨⟨h1,h2⟩,h3,h4⟩:=h;simp at hi;rcases hi with rfl|rfl|rfl
  .exact s1 (by simp)
  .exact i1 ⟨by omega,by omega⟩
  .exact i1 ⟨by omega,by omega⟩
 |ends w=>
  refine(Cj (w:=40) (dp:=2) (is:=[.str "ends",.int w]) λi hi=>?_).mono (by simp) (by omega);obtain⟨h3,h4⟩:=h;simp at hi;rcases hi with rfl|rfl
  .exact s1 (by simp)
  .exact i1 ⟨by omega,by omega⟩
 |steps rows=>
  obtain⟨h1,h2,lo,h3,h4,h5⟩:=h;have hr:=Io h5 h2 h3 (by omega) (by omega) (by omega);have hrow:OkP 420 2 (I.py (.tup (rows.map C9))):=by
   refine(Cj (w:=82) (dp:=1) (is:=rows.map C9) λi hi=>?_).mono (by simp;omega) (by omega);obtain⟨r,hr1,rfl⟩:=mem_map.mp hi;refine(Cj (w:=40) (dp:=0) (is:=[.int r.1,.int r.2]) λj hj=>?_).mono (by simp) (by omega);simp at hj;rcases hj with rfl|rfl
   .exact FK (hr r hr1).1
   .exact FK (hr r hr1).2
  refine(Cj (w:=420) (dp:=2) (is:=[.str "steps",.tup (rows.map C9)]) λi hi=>?_).mono (by simp) (by omega);simp at hi;rcases hi with rfl|rfl
  .exact(s1 (by simp)).mono (by omega) (by omega)
  .exact hrow
def Tl{w:Wk}(h:w.ok):OkP 3003 4 (I.py (Al w)):=by
 refine(Cj (w:=1000) (dp:=3) (is:=[.int w.len,.int w.com,BW w.cost]) λi hi=>?_).mono (by simp) (by omega);have:=h.l1;have:=h.l2;have:=h.c1;have:=h.c2;simp at hi;rcases hi with rfl|rfl|rfl
 .exact(FK ⟨by omega,by omega⟩).mono (by omega) (by omega)
 .exact(FK ⟨by omega,by omega⟩).mono (by omega) (by omega)
 .exact To h.co
def Q6{ws:List Wk}(h:∀w∈ws,w.ok)(hl:ws.length<=20):OkP 60080 5 (I.py (AW ws)):=by
 refine(Cj (w:=3003) (dp:=4) (is:=ws.map Al) λi hi=>?_).mono (by simp;omega) (by omega);obtain⟨w,h1,rfl⟩:=mem_map.mp hi;exact Tl (h w h1)
def QQ(ns:List Int)(lo hi:Option Int):∃cs:List Int,CB (ns.map λn=>.im (.int n)) lo hi=cs.map λn=>.im (.int n):=⟨(ns.drop _).take _,by unfold CB;rw[map_take,map_drop]⟩
def Ro(ns:List Int):∃τ,F_tape [.ro ns] []=some (.mu 1,tp τ):=by
 obtain⟨cs,e⟩:=QQ ns none (some 63);refine⟨⟨cs,0,0,0⟩,?_⟩;simp[F_tape,mkF,e,Dw,DR,ne1,ne2,ne3,ne4,ne5,ne6,tp,BI]
abbrev Yo(ks:List Nat):List D:=ks.map λk:Nat=>D.im (.int (k:Int))
def Mo(n:Nat):BC 0 n=Yo (List.range n):=by
 refine List.ext_getElem? λi=>?_;by_cases h:i<n
 .rw[ID h];simp[h]
 .rw[List.getElem?_eq_none (by simp;omega),List.getElem?_eq_none (by simp;omega)]
abbrev BB(xs:List Int):List D:=xs.map λx=>D.im (.int x)
def g0(hd:Hd)(x y:MO):(hd++[x,y])[hd.length]?=some x:=by simp
def g1(hd:Hd)(x y:MO):(hd++[x,y])[hd.length+1]?=some y:=by simp
def t0(hd:Hd)(x y z:MO):(hd++[x,y]).set hd.length z=hd++[z,y]:=by simp
def t1(hd:Hd)(x y z:MO):(hd++[x,y]).set (hd.length+1) z=hd++[x,z]:=by simp
end Bd
namespace L2
open PySem PySem.Spec PyProof.Rows
def Es(p:Key×D)(r:List (Key×D))(k:Key):Bi (p::r) k=if p.1=k then some p.2 else Bi r k:=by
 unfold Bi;rw[find?_cons];by_cases e:p.1=k<;>simp[e]
section
variable{ls:Ls}{hd:Hd}{QE:D->Hd->Prop}{QI:List D×Gd->Hd->Prop}{ma:ME}{n:MG}{ta:MT}{mi:MI}{m:MA}
def Qf{g:Gd}{QA:List D->Hd->Prop}(P:List D->List D->Ls->Hd->Prop){ds:List D}{ls:Ls}{hd:Hd}(h:P ds [] ls hd)
 (k:∀d r es ls hd,P (d::r) es ls hd->∃ls1,n d ls hd=some ls1/\WT ta ls1 hd λc x=>if c=true then WE ma ls1 x λz y=>GOk y g/\P r (es++[z]) ls1 y else GOk x g/\P r es ls1 x)
 (z:∀es ls hd,P [] es ls hd->QA es hd):WP (B6 n ta ma g ds ls hd) QA:=
 (KC P h k).mono λzs x ⟨ls',q⟩=>z zs ls' x (by simpa using q)
def Ct{α:Type}{g:Gd}{QA:List D->Hd->Prop}(inj:α->D)(f:α->Option D)(L:D->Ls->Prop)(l0:Ls){xs:List α}{hd:Hd}(hg:GOk hd g)
 (k:∀x∈xs,∀ls,ls=l0∨(∃d,L d ls)->∃ls1,n (inj x) ls hd=some ls1/\L (inj x) ls1/\WT ta ls1 hd λc y=>y=hd/\if c=true then ∃z,f x=some z/\WE ma ls1 hd λe y=>y=hd/\e=z else f x=none)
 (q:QA (xs.filterMap f) hd):WP (B6 n ta ma g (xs.map inj) l0 hd) QA:=by
 have go:∀(xs':List α) (ls:Ls),(∀x∈xs',x∈xs)->(ls=l0∨∃d,L d ls)->B6 n ta ma g (xs'.map inj) ls hd=some (xs'.filterMap f,hd):=by
  intro xs'
  induction xs' with
  |nil=>intro ls _ _;unfold B6;rfl
  |cons x r ih=>
   intro ls hs hl;obtain⟨ls1,e1,L1,c,y,e2,rfl,q⟩:=k x (hs x mem_cons_self) ls hl;have ih:=ih ls1 (λz hz=>hs z (mem_cons_of_mem _ hz)) (.inr ⟨_,L1⟩);rw[map_cons];unfold B6;rw[e1,bind_some,e2,bind_some];cases c with
   |true=>
    rw[if_pos rfl]at q;obtain⟨z,ez,e,y,e3,rfl,rfl⟩:=q;rw[if_pos rfl,e3,bind_some];dsimp only;rw[if_pos hg,ih,filterMap_cons,ez];rfl
   |false=>
    rw[if_neg Bool.false_ne_true]at q;rw[if_neg Bool.false_ne_true];dsimp only;rw[if_pos hg,ih,filterMap_cons,q]
 exact⟨_,_,go xs l0 (λ_ h=>h) (.inl rfl),q⟩
end
section
variable{K:PySem.W.Frag}{ρ ρ':List Addr}{H H':Hp}{hd hd':Hd}
def Ha(neg:Bool)(ma:ME)(ml:MA):ME:=λls hd=>(ma ls hd).bind λp=>(ml ls p.2).bind λq=>match p.1 with
 |.im i=>(Fm i).bind λx=>(Cc q.1).map λxs=>(.im (.bl (if neg then !inV x xs else inV x xs)),q.2)
 |_=>none
def VA{neg:Bool}{ta tb:TE}{ma:ME}{ml:MA}(ha:RE K ta ma)(hb:RN K tb ml):RE K (tOp (rIn K neg) ta tb) (Ha neg ma ml):=by
 and_intros;obtain⟨⟨d1,h1⟩,e1,hm⟩:=ac hm;obtain⟨⟨d2,h2⟩,e2,hm⟩:=ac hm;dsimp only at hm;split at hm
 .obtain⟨x,e3,hm⟩:=ac hm;obtain⟨xs,e4,e5⟩:=ad hm;cases e5;refine ha ρ σ H hd ls _ _ h1 hR hL e1 λρ1 H1 v1 x1 R1 r1=>?_;refine hb ρ1 σ H1 h1 ls _ d2 _ R1 (hL.ext hR x1) e2 λρ2 H2 a ys x2 R2 na oa ea r2=>?_;have r1:=r1.ext R1 x2;simp only[RD]at r1;obtain⟨rfl,f1⟩:=Kv e3 r1;obtain⟨rfl,f2⟩:=JS e4 r2;exact⟨a,ys,rfl,.inl (SqL.of ea),f1,f2,hQ ρ2 H2 _ (x1.trans R1 x2) R2 (by simp[RD,RI])⟩
 .cases hm
def Sy(K:PySem.W.Frag){X:Cx}{a b:Expr}{ta tb:TE}{ma:ME}{ml:MA}{pos:Pos}{op:CmpOp}{neg:Bool}(ho:OpR X (compareOp op) (rIn K neg))(ha:QE K X a ta ma)(hb:QN K X b tb ml)(hm:behindInMarks op b=false:=by first|exact GG _|rfl):QE K X (.Compare a [op] [b] pos) (tOp (rIn K neg) ta tb) (Ha neg ma ml):=⟨Iv ho ha.p hb.p hm,VA ha.r hb.r⟩
open Classical in
def J0(ml:MA)(mb:ME):MA:=λls hd=>(ml ls hd).bind λp=>(mb ls p.2).bind λq=>match q.1 with
 |.im (.int k)=>if(0<=k/\k<=1000)/\Bh (p.1.length*k.toNat)then some ((List.replicate k.toNat p.1).flatten,q.2)else none
 |_=>none
def RDs.rep{ds:List D}{xs:List V}(r:RDs K ρ H ds xs):∀n,RDs K ρ H (List.replicate n ds).flatten (List.replicate n xs).flatten
 |0=>by simp[RDs]
 |n+1=>by
  simp only[replicate_succ,flatten_cons];exact r.app (r.rep n)
def Uq{ta tb:TE}{ml:MA}{mb:ME}(ha:RN K ta ml)(hb:RE K tb mb):RN K (tOp Pm ta tb) (J0 ml mb):=by
 and_intros;obtain⟨⟨d1,h1⟩,e1,hm⟩:=ac hm;obtain⟨⟨d2,h2⟩,e2,hm⟩:=ac hm;dsimp only at hm;split at hm
 .next k=>
  split at hm
  .next c=>
   cases hm;refine ha ρ σ H hd ls _ d1 h1 hR hL e1 λρ1 H1 a xs x1 R1 na oa ea r1=>?_;refine hb ρ1 σ H1 h1 ls _ _ _ R1 (hL.ext hR x1) e2 λρ2 H2 v2 x2 R2 r2=>?_;simp only[RD,RI]at r2;subst r2;have ea2:=x2.keep a _ ea oa nt;refine⟨a,k,xs,rfl,rfl,ea2,by omega,by omega,by rw[r1.len];exact c.2,λp hp=>?_⟩;obtain⟨R3,x3⟩:=R2.hid (ho:=.lst (List.replicate k.toNat xs).flatten) hp;have x12:=x1.trans R1 x2;exact hQ ρ2 _ p _ (x12.trans R2 x3) R3 (x12.none hR hp R2) (R2.out hp) Ag (((r1.ext R1 x2).rep k.toNat).ext R2 x3)
  .cases hm
 .cases hm
def VY(K:PySem.W.Frag){X:Cx}{a b:Expr}{ta tb:TE}{ml:MA}{mb:ME}{pos:Pos}(ha:QN K X a ta ml)(hb:QE K X b tb mb):QN K X (.BinOp a .Mult b pos) (tOp Pm ta tb) (J0 ml mb):=⟨Jz WZ ha.p hb.p,Uq ha.r hb.r⟩
end
section
variable{ls:Ls}{hd:Hd}{ma mb:ME}{m ml:MA}{QE:D->Hd->Prop}{QA:List D->Hd->Prop}
def NY{neg:Bool}(h:WE ma ls hd λd x=>WA ml ls x λds y=>∃i v vs,d=.im i/\Fm i=some v/\Cc ds=some vs/\QE (.im (.bl (if neg then !inV v vs else inV v vs))) y):WE (Ha neg ma ml) ls hd QE:=by
 obtain⟨d,x,e1,ds,y,e2,i,v,vs,rfl,e3,e4,q⟩:=h;exact⟨_,_,by simp only[Ha,e1,bind_some,e2,e3,e4,map_some],q⟩
end
abbrev blD(bs:List Bool):List D:=bs.map λb=>D.im (.bl b)
def Ku(bs:List Bool):Cc (blD bs)=some (bs.map V.bl):=by
 induction bs with
 |nil=>rfl
 |cons b r ih=>simp only[blD,map_cons,Cc,Fm,bind_some]at ih ⊢;rw[ih];rfl
def Lx(x:Bool)(bs:List Bool):inV (.bl x) (bs.map V.bl)=decide (x∈bs):=by
 unfold inV
 induction bs with
 |nil=>simp
 |cons b r ih=>
  have e:eqV (.bl b) (.bl x)=decide (x=b):=by
   show(b==x)=_;cases b<;>cases x<;>rfl
  rw[map_cons,any_cons,ih,e];simp only[mem_cons,Bool.decide_or]
inductive Ty where
 |int|bool|str|tuple|list
 deriving DecidableEq
def Ty.nm:Ty->String
 |.int=>"int" | .bool=>"bool" | .str=>"str" | .tuple=>"tuple" | .list=>"list"
def IsT(K:PySem.W.Frag)(T:Ty)(H:Hp)(v:V)(b:Bool):Prop:=
 (v=.non/\b=false)∨(∃x,v=.bl x/\b=decide (T=.int∨T=.bool))∨(∃i,v=.int i/\b=decide (T=.int))∨(∃x,v=.str x/\b=decide (T=.str)) ∨
 (∃a xs,v=.ref a/\SqL K H a xs/\b=decide (T=.list))∨∃a xs,v=.ref a/\SqT K H a xs/\b=decide (T=.tuple)
section
variable{X:Cx}{pins:List (Addr×Obj)}{σ:St}{H:Hp}{s:Shared}{A:Around}{E:Value->Shared->Prop}{Q:Value->Shared->Prop}
def Ww{T:Ty}{v:V}{u:Value}{b:Bool}(I:Inv X pins σ H s)(r:RelV v u)(h:IsT X.K T H v b)(q:∀tk,Q (.bool b) { s with toks:=tk }):wpAny (model X.prog X.w) A (call (.builtin "isinstance") [u,.type T.nm]) Q E s:=by
 have q0:=q s.toks;have q1:=q (s.toks+1);rcases h with⟨rfl,rfl⟩|⟨x,rfl,rfl⟩|⟨i,rfl,rfl⟩|⟨x,rfl,rfl⟩|⟨a,xs,rfl,hl,rfl⟩|⟨a,xs,rfl,ht,rfl⟩
 .cases(show u=Value.none from r);cases T
  .exact IsiPair.NoneType_int q1
  .exact IsiPair.NoneType_bool q1
  .exact IsiPair.NoneType_str q1
  .exact IsiPair.NoneType_tuple q1
  .exact IsiPair.NoneType_list q1
 .cases(show u=Value.bool x from r);cases T
  .first|exact IsiPair.bool_int q0|exact IsiPair.bool_int q1
  .first|exact IsiPair.bool_bool q0|exact IsiPair.bool_bool q1
  .exact IsiPair.bool_str q1
  .exact IsiPair.bool_tuple q1
  .exact IsiPair.bool_list q1
 .obtain⟨t,rfl⟩:=(show ∃t,u=Value.int i t from r)
  cases T
  .exact IsiPair.int_int q0
  .exact IsiPair.int_bool q1
  .exact IsiPair.int_str q1
  .exact IsiPair.int_tuple q1
  .exact IsiPair.int_list q1
 .obtain⟨t,rfl⟩:=(show ∃t,u=Value.str x t from r)
  cases T
  .exact IsiPair.str_int q1
  .exact IsiPair.str_bool q1
  .exact IsiPair.str_str q0
  .exact IsiPair.str_tuple q1
  .exact IsiPair.str_list q1
 .cases(show u=Value.ref a from r);obtain⟨its,_,⟨o,n,e,c,_,_⟩,_⟩:=I.list hl;cases T
  .exact IsiPair.list_int e c q1
  .exact IsiPair.list_bool e c q1
  .exact IsiPair.list_str e c q1
  .exact IsiPair.list_tuple e c q1
  .exact IsiPair.list_list e c q0
 .cases(show u=Value.ref a from r);obtain⟨its,_,⟨o,e,c,_⟩,_⟩:=I.tuple ht;cases T
  .exact IsiPair.tuple_int e c q1
  .exact IsiPair.tuple_bool e c q1
  .exact IsiPair.tuple_str e c q1
  .exact IsiPair.tuple_tuple e c q0
  .exact IsiPair.tuple_list e c q1
end
def P9(K:PySem.W.Frag)(T:Ty)(te:TE):TE:=λσ H Q=>te σ H λv H1=>∃b,IsT K T H1 v b/\Q (.bl b) H1
def WQ(K:PySem.W.Frag){X:Cx}(T:Ty){e:Expr}{te:TE}{x:Str}{p px pos:Pos}(hm:X.mg "isinstance"=none)(hmT:X.mg x=none)(hvT:bootBuiltins x=some (.type T.nm))(he:PE X e te)
 (hv:bootBuiltins "isinstance"=some (.builtin "isinstance")) (hK:X.K=K) (hg:Gl X "isinstance") (hgT:Gl X x) (hnT:x≠"__name__") (hdT:(x==("__debug__":Str))=false)
 (hs:starEach [e,.Name x px] X.env=[(false,eval e X.env),(false,eval (.Name x px) X.env)]) (hs2:starEach [.Name x px] X.env=[(false,eval (.Name x px) X.env)]):PE X (.Call (.Name "isinstance" p) [e,.Name x px] [] pos) (P9 K T te):=by
 subst hK;intro pins s σ H Q I h;refine wpAny_Call_Name_kw (FO I hg hm hv ?_);have go:wpAny (model X.prog X.w) X.A (spliced (backTo pos (starEach [e,.Name x px] X.env))) (λvs s₁=>wpAny (model X.prog X.w) X.A (call (.builtin "isinstance") vs) (EP X pins σ Q) X.xe s₁) X.xe s:=by
  rw[hs];show wpAny _ _ (spliced ((false,eval e X.env)::backTo pos [(false,eval (.Name x px) X.env)])) _ _ s;refine Calls.spliced_cons (thn (he pins s σ H _ I h) λu s1 ⟨v,H1,I1,r1,b,ib,q1⟩=>?_);show wpAny _ _ (spliced ((false,eval (.Name x px) X.env)::backTo pos [])) _ _ s1;refine Calls.spliced_cons (FO I1 hgT hmT hvT ?_ hnT hdT);refine Calls.spliced_nil ?_;exact Ww I1 r1 ib λtk=>⟨.bl b,H1,I1.tok _,rfl,q1⟩
 exact PyProof.Rows.callWith_builtin1 go (by rw[hs,hs2]) (by rw[hs2];rfl)
section
variable{K:PySem.W.Frag}{ρ ρ':List Addr}{H H':Hp}{hd hd':Hd}
def isD(T:Ty)(hd:Hd):D->Option Bool
 |.im .non=>some false
 |.im (.bl _)=>some (decide (T=.int∨T=.bool))
 |.im (.int _)=>some (decide (T=.int))
 |.im (.str _)=>some (decide (T=.str))
 |.im (.tup _)=>some (decide (T=.tuple))
 |.tm _=>some (decide (T=.tuple))
 |.ro _=>some (decide (T=.list))
 |.mu n=>match hd[n]? with
  |some (.lst _)=>some (decide (T=.list))
  |_=>none
def Wx{T:Ty}{d:D}{v:V}{b:Bool}(hR:RH K ρ H hd)(h:RD K ρ H d v)(e:isD T hd d=some b):IsT K T H v b:=by
 cases d with
 |im i=>
  cases i with
  |non=>simp only[RD,RI]at h;subst h;simp only[isD,Option.some.injEq]at e;exact .inl ⟨rfl,e.symm⟩
  |bl c=>simp only[RD,RI]at h;subst h;simp only[isD,Option.some.injEq]at e;exact .inr (.inl ⟨c,rfl,e.symm⟩)
  |int c=>simp only[RD,RI]at h;subst h;simp only[isD,Option.some.injEq]at e;exact .inr (.inr (.inl ⟨c,rfl,e.symm⟩))
  |str c=>simp only[RD,RI]at h;subst h;simp only[isD,Option.some.injEq]at e;exact .inr (.inr (.inr (.inl ⟨c,rfl,e.symm⟩)))
  |tup is=>
   obtain⟨a,xs,rfl,q,r⟩:=h.tup (ds:=is.map .im) rfl;simp only[isD,Option.some.injEq]at e;exact .inr (.inr (.inr (.inr (.inr ⟨a,xs,rfl,q,e.symm⟩))))
 |tm ds=>
  obtain⟨a,xs,rfl,q,r⟩:=h.tup (ds:=ds) rfl;simp only[isD,Option.some.injEq]at e;exact .inr (.inr (.inr (.inr (.inr ⟨a,xs,rfl,q,e.symm⟩))))
 |ro ns=>
  obtain⟨a,xs,rfl,q,r⟩:=h.lst hR (hd:=hd) (ds:=ns.map λn=>.im (.int n)) rfl;simp only[isD,Option.some.injEq]at e;exact .inr (.inr (.inr (.inr (.inl ⟨a,xs,rfl,q,e.symm⟩))))
 |mu n=>
  simp only[isD]at e;split at e
  .next q=>
   cases e;simp only[RD]at h;obtain⟨a,hn,rfl⟩:=h;obtain⟨xs,e1,e2⟩:=hR.lst hn q;exact .inr (.inr (.inr (.inr (.inl ⟨a,xs,rfl,SqL.of e1,rfl⟩))))
  .cases e
def BU(T:Ty)(ma:ME):ME:=λls hd=>(ma ls hd).bind λp=>(isD T p.2 p.1).map λb=>(.im (.bl b),p.2)
def V8{T:Ty}{te:TE}{me:ME}(h:RE K te me):RE K (P9 K T te) (BU T me):=by
 and_intros;obtain⟨⟨d1,h1⟩,e1,hm⟩:=ac hm;obtain⟨b,e2,e3⟩:=ad hm;cases e3;exact h ρ σ H hd ls _ d1 _ hR hL e1 λρ1 H1 v x1 R1 r1=>⟨b,Wx R1 r1 e2,hQ ρ1 H1 _ x1 R1 (by simp[RD,RI])⟩
def IY:∀T:Ty,bootBuiltins T.nm=some (.type T.nm)
 |.int=>by decide +kernel
 |.bool=>by decide +kernel
 |.str=>by decide +kernel
 |.tuple=>by decide +kernel
 |.list=>by decide +kernel
def IF(K:PySem.W.Frag){X:Cx}(T:Ty){e:Expr}{te:TE}{me:ME}{x:Str}{p px pos:Pos}(hm:X.mg "isinstance"=none)(hmT:X.mg x=none)(he:QE K X e te me)(hx:bootBuiltins x=some (.type T.nm):=by first|exact IY .int|exact IY .bool|exact IY .str|exact IY .tuple|exact IY .list)(hK:X.K=K:=by rfl)(hg:Gl X "isinstance":=by rfl)(hgT:Gl X x:=by rfl)
 (hnT:x≠"__name__":=by decide) (hdT:(x==("__debug__":Str))=false:=by decide)
 (hs:starEach [e,.Name x px] X.env=[(false,eval e X.env),(false,eval (.Name x px) X.env)]:=by rfl) (hs2:starEach [.Name x px] X.env=[(false,eval (.Name x px) X.env)]:=by rfl):QE K X (.Call (.Name "isinstance" p) [e,.Name x px] [] pos) (P9 K T te) (BU T me):=
 ⟨WQ K T hm hmT hx he.p Jq hK hg hgT hnT hdT hs hs2,V8 he.r⟩
end
section
variable{ls:Ls}{hd:Hd}{ma mo mi me:ME}{QE:D->Hd->Prop}{QS:Fl->Hd->Prop}
def Ak{T:Ty}(h:WE ma ls hd λd x=>∃b,isD T x d=some b/\QE (.im (.bl b)) x):WE (BU T ma) ls hd QE:=by
 obtain⟨d,x,e,b,e2,q⟩:=h;exact⟨_,_,by simp only[BU,e,bind_some,e2,map_some],q⟩
end
def PD(neg b:Bool)(ta:TE):TE:=λσ H Q=>ta σ H λx H1=>∃c,x=.bl c/\Q (.bl (if neg then !decide (c=b)else decide (c=b))) H1
section
variable{X:Cx}{a:Expr}{ta:TE}
def YE{M:Model}{A:Around}{E:Value->Shared->Prop}{s:Shared}{Q:Value->Shared->Prop}(c b:Bool)(h:Q (.bool (decide (c=b))) s):wpAny M A (compareOp .Is (.bool c) (.bool b)) Q E s:=by
 cases c<;>cases b<;>exact wpAny_pure h
def WX{b:Bool}{j pos'}(ha:PE X a ta):PC X .Is a (.Constant (.bool b) j pos') (PD false b ta):=by
 intro pins s σ H Q I h;refine thn (ha pins s σ H _ I h) λv s1 ⟨x,H1,I1,r1,c,ex,q1⟩=>?_;subst ex;cases(show v=Value.bool c from r1);exact Constant_bool (YE c b ⟨.bl _,H1,I1,rfl,q1⟩)
end
def HZ(neg b:Bool)(ma:ME):ME:=λls hd=>(ma ls hd).bind λp=>match p.1 with
 |.im (.bl c)=>some (.im (.bl (if neg then !decide (c=b)else decide (c=b))),p.2)
 |_=>none
def V9{K:PySem.W.Frag}{neg b:Bool}{ta:TE}{ma:ME}(h:RE K ta ma):RE K (PD neg b ta) (HZ neg b ma):=by
 and_intros;obtain⟨⟨d1,h1⟩,e1,hm⟩:=ac hm;dsimp only at hm;split at hm
 .cases hm;exact h ρ σ H hd ls _ _ _ hR hL e1 λρ1 H1 v x1 R1 r1=>⟨_,by simpa only[RD,RI]using r1,hQ ρ1 H1 _ x1 R1 (by simp[RD,RI])⟩
 .cases hm
section
variable(K:PySem.W.Frag){X:Cx}{a:Expr}{ta:TE}{ma:ME}{b:Bool}{j:_}{pos pos':Pos}
def Vt{j}(ha:QE K X a ta ma):QE K X (.Compare a [.Is] [.Constant (.bool b) j pos'] pos) (PD false b ta) (HZ false b ma):=⟨WU (WX ha.p),V9 ha.r⟩
end
def UR{neg b:Bool}{ma:ME}{ls:Ls}{hd:Hd}{QE:D->Hd->Prop}(h:WE ma ls hd λd x=>∃c,d=.im (.bl c)/\QE (.im (.bl (if neg then !decide (c=b)else decide (c=b)))) x):WE (HZ neg b ma) ls hd QE:=by
 obtain⟨d,x,e,c,rfl,q⟩:=h;exact⟨_,_,by simp only[HZ,e,bind_some],q⟩
end L2
namespace HT
open PySem PySem.Spec PyProof.Rows
section
variable{prog:Program}{w:World}{A:Around}{E:Value->Shared->Prop}{s:Shared}
def getItem_tuple_whole{t sl:Addr}{items:Array Value}{vl vu:Value}{lo hi:Option Int}{Q:Value->Shared->Prop}(ht:IsTup s.heap t items)(hs:s.heap.IsSliceOf sl vl vu .none)(pl:IsPart vl lo)(pu:IsPart vu hi)
 (hw:sIx items.size 0 lo=0/\sIx items.size items.size hi=items.size) (h:Q (.ref t) s):wpAny (model prog w) A (getItem (.ref t) (.ref sl)) Q E s:=by
 obtain⟨os,hos,hcs,hds⟩:=id hs;have hTs:s.TypeIs (.ref sl) "slice":=⟨os,hos,hcs⟩
 unfold getItem
 try with_reducible refine wpAny_holding ?_
 first|refine wpAny_bind (wpAny_pure ?_)|skip
 refine wpAny_bind (wpAny_sequenceKey ht.typeIs (by decide) ?_);refine wpAny_bind (wpAny_callSpecial?_slot (name:=Str.ofString "__getitem__") ht.typeIs PyProof.Rows.slot_tuple_getitem
  (wpAny_call_entry PyProof.Rows.slot_tuple_getitem ht.typeIs entry_tuple_getitem ?_ (args_tuple_getitem _ _)))
 show wpAny _ _ (Builtin.Tuple.tupleItemsOf (.ref t) >>= _) _ _ s;refine wpAny_bind (tupleItemsOf_ ht ?_);refine wpAny_bind (wpAny_typeOf hTs ?_);rw[if_pos (by decide)];refine wpAny_bind (EZ hs pl pu ?_);have hno:(((sIx items.size 0 lo:Nat):Int)==0&&(1:Int)==1&&(sIx items.size items.size hi-sIx items.size 0 lo)==items.size)=true:=by
  rw[hw.1,hw.2];simp
 show wpAny _ _ (if(((sIx items.size 0 lo:Nat):Int)==0&&(1:Int)==1&&(sIx items.size items.size hi-sIx items.size 0 lo)==items.size)=true then _ else _) _ _ s;rw[if_pos hno];refine wpAny_bind ?_;unfold Builtin.Tuple.tupleIsExact;refine wpAny_bind (wpAny_typeOf ht.typeIs (wpAny_pure ?_));rw[if_pos (by decide)];exact wpAny_bind (wpAny_rule (wpAny_pure ⟨_,rfl,wpAny_pure h⟩))
end
end HT
namespace L2
open PySem PySem.Spec PyProof.Rows
section
variable{X:Cx}
def Pl(K:PySem.W.Frag):V->Option Int->Option Int->Hp->VK->Prop:=λx lo hi H Q=>Ka K x lo hi H Q∨∃a xs,x=.ref a/\SqT K H a xs/\(HT.sIx xs.length 0 lo=0/\HT.sIx xs.length xs.length hi=xs.length)/\Q (.ref a) H
def Rs(K:PySem.W.Frag)(hK:X.K=K:=by rfl):SlR X (Pl K):=by
 subst hK;intro pins s σ H x v vl vu lo hi sl Q I rx hs pl pu h;rcases h with h|⟨a,xs,rfl,hx,hw,q⟩
 .exact Nk pins s σ H x v vl vu lo hi sl Q I rx hs pl pu h
 cases rx;obtain⟨its,r,ht,hz⟩:=I.tuple hx;have hlen:its.toArray.size=xs.length:=by rw[size_toArray];exact r.length.symm
 refine⟨"tuple",_,PyProof.Rows.slot_tuple_getitem.lookup,ht.typeIs,?_⟩;exact HT.getItem_tuple_whole ht hs pl pu (by rw[hlen];exact hw) ⟨.ref a,H,I,rfl,q⟩
end
section
variable{K:PySem.W.Frag}{ρ ρ':List Addr}{H H':Hp}{hd hd':Hd}
def BF(m:ME)(ml mh:MO1):ME:=λls hd=>(m ls hd).bind λp=>(ml ls p.2).bind λl=>(mh ls l.2).bind λh=>(AR p.1).map λds=>(AK (CB ds l.1 h.1),h.2)
def V4{t:TE}{tl th:TO}{m:ME}{ml mh:MO1}(h:RE K t m)(hl:RO1 K tl ml)(hh:RO1 K th mh):RE K (tSl (Pl K) t tl th) (BF m ml mh):=by
 and_intros;obtain⟨⟨d1,h1⟩,e1,hm⟩:=ac hm;obtain⟨⟨d2,h2⟩,e2,hm⟩:=ac hm;obtain⟨⟨d3,h3⟩,e3,hm⟩:=ac hm;obtain⟨ds,e4,e5⟩:=ad hm;cases e5;dsimp only at e2 e3 e4;refine h ρ σ H hd ls _ d1 h1 hR hL e1 λρ1 H1 v1 x1 R1 r1=>?_;refine hl ρ1 σ H1 h1 ls _ d2 h2 R1 (hL.ext hR x1) e2 λρ2 H2 x2 R2=>?_;refine hh ρ2 σ H2 h2 ls _ d3 _ R2 (hL.ext hR (x1.trans R1 x2)) e3 λρ3 H3 x3 R3=>?_;obtain⟨a,xs,rfl,q,r⟩:=((r1.ext R1 x2).ext R2 x3).tup e4;by_cases c:HT.sIx ds.length 0 d2=0/\HT.sIx ds.length ds.length d3=ds.length
 .refine .inr ⟨a,xs,rfl,q,by rw[r.len];exact c,?_⟩;have e6:CB ds d2 d3=ds:=by unfold CB;rw[c.1,c.2];simp
  rw[e6]at hQ;exact hQ ρ3 _ _ ((x1.trans R1 x2).trans R2 x3) R3 (BZ q r)
 .refine .inl ⟨a,xs,rfl,q,by rw[r.len];exact c,λp hp=>?_⟩;obtain⟨R4,x4⟩:=R3.hid (ho:=.tup (Er xs d2 d3)) hp;exact hQ ρ3 _ _ (((x1.trans R1 x2).trans R2 x3).trans R3 x4) R4 (BZ (SqT.of Ag) ((J9 r).ext R3 x4))
def Vm(K:PySem.W.Frag){X:Cx}{e:Expr}{te:TE}{me:ME}{lo hi:Option Expr}{tl th:TO}{ml mh:MO1}{p2 pos:Pos}(h:QE K X e te me)(hl:QO K X lo tl ml)(hh:QO K X hi th mh)(hK:X.K=K:=by rfl):QE K X (.Subscript e (.Slice lo hi none p2) pos) (tSl (Pl K) te tl th) (BF me ml mh):=⟨FZ (Rs K hK) h.p hl.p hh.p,V4 h.r hl.r hh.r⟩
def ET{ma:ME}{ls:Ls}{QE:D->Hd->Prop}{ml mh:MO1}(h:WE ma ls hd λd x=>WO ml ls x λl y=>WO mh ls y λu z=>∃ds,AR d=some ds/\QE (AK (CB ds l u)) z):WE (BF ma ml mh) ls hd QE:=by
 obtain⟨d,x,e1,l,y,e2,u,z,e3,ds,e4,q⟩:=h;exact⟨_,_,by simp only[BF,e1,bind_some,e2,e3,e4,map_some],q⟩
end
section
variable{X:Cx}
def UC{prog:Program}{w:World}{A:Around}{E:Value->Shared->Prop}{s:Shared}{t b:Addr}{vs ws:List Value}{Q:Value->Shared->Prop}(ht:IsTup s.heap t vs.toArray)(hb:IsTup s.heap b ws.toArray)(hv:vs=[])
 (h1:Q (.ref b) s):wpAny (model prog w) A (binaryOp .Add (.ref t) (.ref b)) Q E s:=by
 obtain⟨⟨cls,dd,data,sl⟩,ho,hc,n,hd⟩:=id ht;obtain⟨⟨cls2,dd2,data2,sl2⟩,ho2,hc2,n2,hd2⟩:=id hb;simp only at hc hd hc2 hd2;subst hc hd hc2 hd2;exact concat_meets ⟨_,ho,rfl⟩ ⟨_,ho2,rfl⟩ noFill_tuple_add seq_tuple_add PySem.F.slot_tuple_add PySem.F.entry_tuple_add (PySem.F.args_tuple_add_2 _ _)
  (tuple_addW0 t b vs.toArray ws.toArray n n2 dd dd2 sl sl2 (by simp[hv])) ⟨ho,ho2,h1⟩
def Qw(K:PySem.W.Frag):R2:=λx y H Q=>∃a b ys,x=.ref a/\y=.ref b/\SqT K H a []/\SqT K H b ys/\Q (.ref b) H
def Tj(K:PySem.W.Frag)(hK:X.K=K:=by rfl):OpR X (binaryOp .Add) (Qw K):=by
 subst hK;intro pins s σ H x y v u Q I rx ry h;obtain⟨a,b,ys,rfl,rfl,ha,hb,q⟩:=h;cases rx;cases ry;obtain⟨its,r1,p1,_⟩:=I.tuple ha;obtain⟨its2,r2,p2,_⟩:=I.tuple hb;have:its=[]:=by cases r1;rfl
 exact UC p1 p2 this ⟨.ref b,H,I,rfl,q⟩
def Fk:D->D->Hd->Option (D×Hd):=λd e hd=>(AR d).bind λa=>(AR e).bind λb=>if a=[]then some (AK b,hd)else none
def SV{K:PySem.W.Frag}:RB K (Qw K) Fk:=by
 intro ρ H hd d e v u Q z hd' hR h1 h2 hf hQ;unfold Fk at hf;obtain⟨a,e1,hf⟩:=ac hf;obtain⟨b,e2,hf⟩:=ac hf;split at hf
 .next c=>
  cases hf;subst c;obtain⟨p,xs,rfl,q1,r1⟩:=h1.tup e1;obtain⟨p2,ys,rfl,q2,r2⟩:=h2.tup e2;have:xs=[]:=by simpa [RDs]using r1
  subst this;exact⟨p,p2,ys,rfl,rfl,q1,q2,hQ ρ H _ .refl hR (BZ q2 r2)⟩
 .cases hf
end
end L2
namespace L2
abbrev CJ:=CK AQ Fk
end L2
namespace L2
open PySem PySem.Spec PyProof.Rows
section
variable{K:PySem.W.Frag}{ρ ρ':List Addr}{H H':Hp}{hd hd':Hd}
def Kx:List D->Hd->Option (D×Hd)
 |[.im (.int i)],hd=>some (.im (.int i),hd)
 |[.im (.bl b)],hd=>some (.im (.int (if b then 1 else 0)),hd)
 |_,_=>none
def Uy:RF K (λxs H Q=>(∃i,xs=[.int i]/\Q (.int i) H)∨∃k,xs=[.bl k]/\Q (.int (if k then 1 else 0)) H) Kx:=by
 intro ρ H hd ds vs Q z hd' hR h1 hf hQ;unfold Kx at hf;split at hf
 .cases hf;simp only[RDs,RD,RI]at h1;obtain⟨x,r,rfl,rfl,rfl⟩:=h1;exact .inl ⟨_,rfl,hQ ρ H _ .refl hR (by simp[RD,RI])⟩
 .cases hf;simp only[RDs,RD,RI]at h1;obtain⟨x,r,rfl,rfl,rfl⟩:=h1;exact .inr ⟨_,rfl,hQ ρ H _ .refl hR (by simp[RD,RI])⟩
 .cases hf
end
end L2
namespace HT
open PySem PyProof.Rows
def noFill_tuple_mul:fillsNumberSlot (.type "tuple") "mul"=pure false:=
 PySem.fillsNumberSlot_seq (id:="tuple.__mul__") (r:=some (.builtin "tuple.__rmul__")) F.slot_tuple_mul.lookup (by decide +kernel) F.slot_tuple_rmul.lookup (by decide +kernel)
def repeat_tuple:seqRepeat? (.type "tuple")=pure (some (.builtin "tuple.__mul__")):=by
 unfold seqRepeat?;rw[PySem.seqSlot_of (T:="tuple") (name:="__mul__") (id:="tuple.__mul__") F.slot_tuple_mul.lookup (by decide +kernel),PySem.seqSlot_of (T:="tuple") (name:="__rmul__") (id:="tuple.__rmul__") F.slot_tuple_rmul.lookup (by decide +kernel)];rfl
def int_rmul_tuple(a:Int)(t:Tok)(l:Addr)(items:Array Value)(n:Nat)(dd:Option Addr)(sl:Array (Option Value)):
 Meets (Builtin.«int.__rmul__» ⟨[.int a t,.ref l],[]⟩) (λ_ R s=>s.heap.get? l=some { cls:=.type "tuple",dict:=dd,data:=.seq items n,slots:=sl }/\R (.ok (.ret Value.notImplemented)) s):=
 .of_wp λprog w A R s h=>by obtain⟨hp,g,d,tk,os⟩:=s;obtain⟨hl,h⟩:=h;wp_walk;exact⟨_,rfl,h⟩
def tuple_mul(l:Addr)(items:Array Value)(n:Nat)(dd:Option Addr)(sl:Array (Option Value))(k:Int)(t:Tok)(h0:items.isEmpty=false)(hk:0<=k/\k<=1000)(hs:items.size*k.toNat<=100000):
 Meets (Builtin.«tuple.__mul__» ⟨[.ref l,.int k t],[]⟩) (λ_ R s=>s.heap.get? l=some { cls:=.type "tuple",dict:=dd,data:=.seq items n,slots:=sl }/\(k=1->R (.ok (.ret (.ref l))) s)/\(k≠1->R (.ok (.ret (.ref s.heap.objs.size))) { s with heap:=s.heap.push { cls:=.type "tuple",data:=.seq ((List.replicate k.toNat items).foldl (·++·) #[]) } })):=
 .of_wp λprog w A R s h=>by
  obtain⟨hp,g,d,tk,os⟩:=s;obtain⟨hl,h1,h2⟩:=h;have f1:=AutoSeq1.idx_int;have f2:=AutoSeq1.sub_tuple_tuple
  wp_walk using wpAny_loadPart' hl
  have c1:¬ (decide (k < -2^63)||decide (k>=2^63))=true:=by simp;omega
  rw[if_neg c1]
  wp_walk using wpAny_loadPart' hl
  by_cases k1:k=1
  .rw[if_pos (by simp[k1])]
   wp_walk using wpAny_loadPart' hl
   exact⟨_,rfl,h1 k1⟩
  .rw[if_neg (by simp[h0,k1])];have h2:=h2 k1;by_cases k0:k=0
   .rw[if_pos (by simp[k0])]
    wp_walk using wpAny_loadPart' hl
    subst k0;exact⟨_,rfl,h2⟩
   .have c2:¬ ((items.size:Int)*k>(2^63-1)/8):=by
     have e:(items.size:Int)*k=((items.size*k.toNat:Nat):Int):=by rw[Int.natCast_mul,Int.toNat_of_nonneg hk.1]
     rw[e];omega
    have c3:¬ Builtin.Tuple.tupleTooMany ((items.size:Int)*k)=true:=by
     have e:(items.size:Int)*k=((items.size*k.toNat:Nat):Int):=by rw[Int.natCast_mul,Int.toNat_of_nonneg hk.1]
     unfold Builtin.Tuple.tupleTooMany;rw[e,sizeLine_eq,decide_eq_true_eq];omega
    rw[if_neg (by simp[h0];omega)];dsimp only;rw[if_neg c2,if_neg c3];have hz:(List.foldl (λx1 x2=>x1++x2) #[] (List.replicate k.toNat items)).size<=sizeLine:=by
     have:∀(m:Nat) (a:Array Value),(List.foldl (λx1 x2=>x1++x2) a (List.replicate m items)).size=a.size+items.size*m:=by
      intro m
      induction m with
      |zero=>intro a;simp
      |succ m ih=>intro a;rw[replicate_succ,List.foldl_cons,ih,Array.size_append,Nat.mul_succ];omega
     rw[this,sizeLine_eq];simp;omega
    unfold Builtin.Tuple.tupleExact;refine wpAny_bind (wpAny_newObj_type ?_ hz);exact wpAny_pure ⟨_,rfl,h2⟩
end HT
namespace L2
open PySem PySem.Spec PyProof.Rows
section
variable{X:Cx}
def Mr(K:PySem.W.Frag):R2:=λx y H Q=>∃l k xs,x=.ref l/\y=.int k/\SqT K H l xs/\xs≠[]/\(0<=k/\k<=1000)/\xs.length*k.toNat<=100000/\(k=1->Q (.ref l) H)/\
 (k≠1->∀p,H p=none->Q (.ref p) (upd H p (.tup (List.replicate k.toNat xs).flatten)))
def Tf(K:PySem.W.Frag)(hK:X.K=K:=by rfl):OpR X (binaryOp .Mult) (Mr K):=by
 subst hK;intro pins s σ H x y v u Q I rx ry h;obtain⟨l,k,xs,rfl,rfl,hH,hne,hk,hz,q1,q2⟩:=h;cases rx;obtain⟨t,rfl⟩:=ry;obtain⟨its,r,p,_⟩:=I.tuple hH;obtain⟨⟨cls,dd,data,sl⟩,ho,hc,n,hd⟩:=id p;simp only at hc hd;subst hc hd;have ht:s.TypeIs (.ref l) "tuple":=⟨_,ho,rfl⟩
 have hn:its≠[]:=λz=>hne (r.nil_iff.mp z);have hl:its.length=xs.length:=r.length.symm;refine wpAny_binaryOp_repeat_ref (T:="tuple") (U:="int") (by decide) ht (λs'=>typeIs_int s' k t) HT.noFill_tuple_mul F.fills_int_mul F.slot_int_rmul HT.repeat_tuple F.slot_int_index.lookup
  (call_meets F.slot_int_rmul (typeIs_int s k t) F.entry_int_rmul (F.args_int_rmul_2 _ _) (HT.int_rmul_tuple k t l its.toArray n dd sl)
   ⟨ho,rfl,ht,call_meets F.slot_tuple_mul ht F.entry_tuple_mul (F.args_tuple_mul_2 _ _) (HT.tuple_mul l its.toArray n dd sl k t (by cases its with|nil=>exact absurd rfl hn|cons a r=>rfl) hk (by rw[size_toArray,hl];exact hz)) ⟨ho,λe=>?_,λe=>?_⟩⟩)
 .exact⟨.ref l,H,I,rfl,q1 e⟩
 .have f0:=GO its k.toNat []
  rw[nil_append]at f0;rw[f0];refine⟨.ref s.heap.objs.size,_,I.laid (t':=s.toks) (o:=.tup (List.replicate k.toNat xs).flatten) (λb ob q=>Heap.get?_push_of_some _ q) (le_refl _) ?_,rfl,q2 e _ (I.hok.fresh (le_refl _))⟩;exact⟨by rw[Lq,sizeLine_eq,Nat.mul_comm];omega,_,r.rep k.toNat,IsTupD.new _ _⟩
end
section
variable{K:PySem.W.Frag}
def Fd(ma mb:ME):ME:=λls hd=>(ma ls hd).bind λp=>(mb ls p.2).bind λq=>match p.1,q.1 with
 |.im (.tup is),.im (.int k)=>if is≠[]/\(0<=k/\k<=1000)/\is.length*k.toNat<=100000 then some (.im (.tup (List.replicate k.toNat is).flatten),q.2)else none
 |_,_=>none
def SM{ta tb:TE}{ma mb:ME}(ha:RE K ta ma)(hb:RE K tb mb):RE K (tOp (Mr K) ta tb) (Fd ma mb):=by
 and_intros;obtain⟨⟨d1,h1⟩,e1,hm⟩:=ac hm;obtain⟨⟨d2,h2⟩,e2,hm⟩:=ac hm;dsimp only at hm;split at hm
 .next is k _=>
  split at hm
  .next c=>
   cases hm;refine ha ρ σ H hd ls _ _ h1 hR hL e1 λρ1 H1 v1 x1 R1 r1=>?_;refine hb ρ1 σ H1 h1 ls _ _ _ R1 (hL.ext hR x1) e2 λρ2 H2 v2 x2 R2 r2=>?_;simp only[RD,RI]at r2;subst r2;have r1:=r1.ext R1 x2;obtain⟨a,xs,rfl,sq,rs⟩:=r1.tup (ds:=is.map D.im) rfl;have hl:xs.length=is.length:=by have:=rs.len;simpa using this
   refine⟨a,k,xs,rfl,rfl,sq,λz=>c.1 (List.length_eq_zero_iff.mp (by rw[<- hl,z];rfl)),c.2.1,by rw[hl];exact c.2.2,λe=>?_,λe p hp=>?_⟩
   .subst e;refine hQ ρ2 H2 _ (x1.trans R1 x2) R2 ?_;simpa using r1
   .obtain⟨R3,x3⟩:=R2.hid (ho:=.tup (List.replicate k.toNat xs).flatten) hp;refine hQ ρ2 _ _ ((x1.trans R1 x2).trans R2 x3) R3 ?_;have e3:D.im (.tup (List.replicate k.toNat is).flatten)=AK ((List.replicate k.toNat is).flatten.map D.im):=(CF _).symm;rw[e3];refine BZ (SqT.of Ag) ?_;have:=((rs.rep k.toNat).ext R2 x3)
    have e4:(List.replicate k.toNat is).flatten.map D.im=(List.replicate k.toNat (is.map D.im)).flatten:=by rw[List.map_flatten,List.map_replicate]
    rw[e4];exact this
  .cases hm
 .cases hm
def Sx(K:PySem.W.Frag){X:Cx}{a b:Expr}{ta tb:TE}{ma mb:ME}{pos:Pos}(ha:QE K X a ta ma)(hb:QE K X b tb mb)(hK:X.K=K:=by rfl):QE K X (.BinOp a .Mult b pos) (tOp (Mr K) ta tb) (Fd ma mb):=⟨Jz (Tf K hK) ha.p hb.p,SM ha.r hb.r⟩
def Ri{ma mb:ME}{ls:Ls}{hd:Hd}{QE:D->Hd->Prop}(h:WE ma ls hd λd x=>WE mb ls x λe y=>∃is k,d=.im (.tup is)/\e=.im (.int k)/\is≠[]/\(0<=k/\k<=1000)/\is.length*k.toNat<=100000/\QE (.im (.tup (List.replicate k.toNat is).flatten)) y):WE (Fd ma mb) ls hd QE:=by
 obtain⟨d,x,e1,e,y,e2,is,k,rfl,rfl,c1,c2,c3,q⟩:=h;exact⟨_,_,by simp only[Fd,e1,bind_some,e2];rw[if_pos ⟨c1,c2,c3⟩],q⟩
end
end L2
namespace HS
open PySem PyProof.Rows
open PySem.AutoSeq1 (wpAny_loadPart')
open Sem (wp)
abbrev st(t:Tok):List (Str×Value):=[(Str.ofString "start",.int 1 t)]
end HS
namespace L2
open PySem PySem.Spec PyProof.Rows
def pick_all:∀L:List Value,(List.range L.length).filterMap (λi=>L[i]?)=L
 |[]=>rfl
 |x::r=>by
  rw[length_cons,List.range_succ_eq_map,filterMap_cons];simp only[List.getElem?_cons_zero,List.filterMap_map]
  congr 1
  have:=pick_all r;simpa [Function.comp_def]using this
def HE:∀{xs:List V} {us:List Value},Vals xs us->Vals xs.reverse us.reverse
 |_,_,.nil=>.nil
 |_,_,.cons r t=>by
  rw[reverse_cons,reverse_cons];exact Vals.append (HE t) (.cons r .nil)
section
variable{K:PySem.W.Frag}{ρ:List Addr}{H:Hp}
def RDs.rev:∀{ds:List D} {xs:List V},RDs K ρ H ds xs->RDs K ρ H ds.reverse xs.reverse
 |[],xs,h=>by simp only[RDs]at h;subst h;simp[RDs]
 |d::ds,xs,h=>by
  simp only[RDs]at h;obtain⟨x,r,rfl,rx,h⟩:=h;rw[reverse_cons,reverse_cons];exact(RDs.rev h).app (.cons rx .nil)
variable{X:Cx}{e stp:Expr}{te ts:TE}{m:MA}{ms:ME}{pos p2:Pos}
end
end L2
namespace HT
open PySem PySem.Spec PyProof.Rows
section
variable{prog:Program}{w:World}{A:Around}{E:Value->Shared->Prop}{s:Shared}
def NT(n:Nat):Builtin.Slice.sliceAdjust none none (-1) (n:Int)=((n:Int)-1,-1):=by
 unfold Builtin.Slice.sliceAdjust;simp
def Mx(n:Nat):Builtin.Slice.slicePlaces ((n:Int)-1) (-1) (-1)=n:=by
 unfold Builtin.Slice.slicePlaces;simp
 try omega
def HF{sl:Addr}{n:Nat}{t:Tok}{Q:Int×Int×Nat->Shared->Prop}(hs:s.heap.IsSliceOf sl .none .none (.int (-1) t))(h:Q ((n:Int)-1,-1,n) s):wpAny (model prog w) A (Builtin.Slice.sliceApplied (.ref sl) (pure (n:Int))) Q E s:=by
 obtain⟨os,hos,hcs,hds⟩:=id hs;unfold Builtin.Slice.sliceApplied Builtin.Slice.sliceFields;refine wpAny_bind (wpAny_bind (wpAny_field hos hds (x:=.none) rfl (wpAny_bind (wpAny_field hos hds (x:=.none) rfl (wpAny_bind (wpAny_field hos hds (x:=.int (-1) t) rfl (wpAny_pure ?_)))))));refine wpAny_bind (slicePart_int ?_);show wpAny _ _ (if((-1:Int)==0)=true then _ else _) _ _ s;rw[if_neg (by decide)];refine wpAny_bind (slicePart_none (wpAny_bind (slicePart_none (wpAny_bind (wpAny_pure ?_)))));show wpAny _ _ (match Builtin.Slice.sliceAdjust none none (-1) (n:Int)with|(lo,hi)=>pure (lo,(-1:Int),Builtin.Slice.slicePlaces lo hi (-1))) _ _ s;rw[NT n];show wpAny _ _ (pure ((n:Int)-1,(-1:Int),Builtin.Slice.slicePlaces ((n:Int)-1) (-1) (-1))) _ _ s;rw[Mx];exact wpAny_pure h
def Kt{α β:Type}{f g:α->Option β}:∀{l:List α},(∀x∈l,f x=g x)->l.filterMap f=l.filterMap g
 |[],_=>rfl
 |x::l,h=>by rw[filterMap_cons,filterMap_cons,h x mem_cons_self,Kt λy hy=>h y (mem_cons_of_mem _ hy)]
def O6(xs:Array Value):((List.range xs.size).filterMap λ(m:Nat)=>xs[((xs.size:Int)-1+(m:Int)*(-1)).toNat]?).toArray=xs.toList.reverse.toArray:=by
 congr 1
 have e:(List.range xs.size).filterMap (λ(m:Nat)=>xs[((xs.size:Int)-1+(m:Int)*(-1)).toNat]?)=(List.range xs.toList.reverse.length).filterMap λi=>xs.toList.reverse[i]? := by
  rw[List.length_reverse,Array.length_toList];refine Kt λm hm=>?_;have hm:m<xs.size:=by simpa using hm
  rw[List.getElem?_reverse (by simpa using hm)];simp only[Array.length_toList,Array.getElem?_toList]
  congr 1
  omega
 rw[e];exact L2.pick_all _
def getItem_tuple_rev{t sl:Addr}{items:Array Value}{k:Tok}{Q:Value->Shared->Prop}(ht:IsTup s.heap t items)(hs:s.heap.IsSliceOf sl .none .none (.int (-1) k))(h:Q (.ref s.heap.objs.size) { s with heap:=s.heap.push { cls:=.type "tuple",data:=.seq items.toList.reverse.toArray } })(hsz:items.size<=sizeLine):wpAny (model prog w) A (getItem (.ref t) (.ref sl)) Q E s:=by
 have hsize:sizeOk (.seq items.toList.reverse.toArray):=by
  show items.toList.reverse.toArray.size<=sizeLine;simpa using hsz
 obtain⟨os,hos,hcs,hds⟩:=id hs;have hTs:s.TypeIs (.ref sl) "slice":=⟨os,hos,hcs⟩
 unfold getItem
 try with_reducible refine wpAny_holding ?_
 first|refine wpAny_bind (wpAny_pure ?_)|skip
 refine wpAny_bind (wpAny_sequenceKey ht.typeIs (by decide) ?_);refine wpAny_bind (wpAny_callSpecial?_slot (name:=Str.ofString "__getitem__") ht.typeIs PyProof.Rows.slot_tuple_getitem
  (wpAny_call_entry PyProof.Rows.slot_tuple_getitem ht.typeIs entry_tuple_getitem ?_ (args_tuple_getitem _ _)))
 show wpAny _ _ (Builtin.Tuple.tupleItemsOf (.ref t) >>= _) _ _ s;refine wpAny_bind (tupleItemsOf_ ht ?_);refine wpAny_bind (wpAny_typeOf hTs ?_);rw[if_pos (by decide)];refine wpAny_bind (HF hs ?_);show wpAny _ _ (if((((items.size:Int)-1)==0&&(-1:Int)==1&&items.size==items.size)=true)then _ else _) _ _ s;rw[if_neg (by simp),O6]
 first
  |exact wpAny_bind (m:=Builtin.Tuple.tupleExact _) (wpAny_newObj_type (wpAny_pure ⟨_,rfl,wpAny_pure h⟩) hsize)
  |exact wpAny_bind (m:=Builtin.Tuple.tupleExact _) (wpAny_newObj_type (wpAny_bind (wpAny_pure (wpAny_pure ⟨_,rfl,wpAny_pure h⟩))) hsize)
  |exact wpAny_bind (wpAny_bind (m:=Builtin.Tuple.tupleExact _) (wpAny_newObj_type (wpAny_pure (wpAny_pure ⟨_,rfl,wpAny_pure h⟩)) hsize))
  |exact wpAny_bind (wpAny_bind (m:=Builtin.Tuple.tupleExact _) (wpAny_newObj_type (wpAny_pure ⟨_,rfl,wpAny_pure h⟩) hsize))
end
end HT
namespace L2
open PySem PySem.Spec PyProof.Rows
section
variable{X:Cx}{e stp:Expr}{te ts:TE}{pos p2:Pos}
def MR(K:PySem.W.Frag)(te ts:TE):TE:=λσ H Q=>te σ H λx H1=>ts σ H1 λy H2=>y=.int (-1)/\∃a xs,x=.ref a/\SqT K H2 a xs/\∀p,H2 p=none->Q (.ref p) (upd H2 p (.tup xs.reverse))
def TX(he:PE X e te)(hs:PE X stp ts):PE X (.Subscript e (.Slice none none (some stp) p2) pos) (MR X.K te ts):=by
 intro pins s σ H Q I h;refine Subscript_ (thn (he pins s σ H _ I h) λv s1 ⟨x,H1,I1,r1,q1⟩=>?_);refine wpAny_Slice ?_;rw[evalPart_none];refine wpAny_pure (wpAny_pure ?_);rw[evalPart_some];refine thn (hs pins s1 σ H1 _ I1 q1) λvs s3 ⟨y,H3,I3,r3,q3⟩=>?_;obtain⟨rfl,a,xs,rfl,hx,q⟩:=q3;obtain⟨t,rfl⟩:=r3;cases r1;have I4:Inv X pins σ H3 { s3 with heap:=s3.heap.push { cls:=.type "slice",data:=.fields #[.none,.none,.int (-1) t] } }:=I3.kept (t':=s3.toks) λb ob q=>Heap.get?_push_of_some _ q;obtain⟨its,r,ht,hz⟩:=I4.tuple hx;have hlen:=r.length;have hg:wpAny (model X.prog X.w) X.A (getItem (.ref a) (.ref s3.heap.objs.size)) (EP X pins σ Q) X.xe { s3 with heap:=s3.heap.push { cls:=.type "slice",data:=.fields #[.none,.none,.int (-1) t] } }:=by
  refine HT.getItem_tuple_rev ht (Heap.IsSliceOf.new ..) ?_ (by rw[size_toArray]<;>omega);refine⟨.ref _,_,I4.laid (t':=s3.toks) (o:=.tup xs.reverse) (λb ob q=>Heap.get?_push_of_some _ q) (le_refl _) ?_,rfl,q _ (I4.hok.fresh (le_refl _))⟩;exact⟨by rw[List.length_reverse];exact hz,its.reverse,HE r,IsTupD.new _ _⟩
 show wpAny (model X.prog X.w) X.A (subscriptTail e (.Slice none none (some stp) p2) (.ref a) (.ref s3.heap.objs.size)) (EP X pins σ Q) X.xe { s3 with heap:=s3.heap.push { cls:=.type "slice",data:=.fields #[.none,.none,.int (-1) t] } };exact tail_any (ops:=[.ref a,.ref s3.heap.objs.size]) ht.typeIs PyProof.Rows.slot_tuple_getitem.lookup hg (by with_unfolding_all rfl)
end
section
variable{K:PySem.W.Frag}{X:Cx}{e stp:Expr}{te ts:TE}{m ms:ME}{pos p2:Pos}
def Fc(m ms:ME):ME:=λls hd=>(m ls hd).bind λp=>(ms ls p.2).bind λq=>match q.1 with
 |.im (.int i)=>if i=-1 then(AR p.1).map λds=>(AK ds.reverse,q.2)else none
 |_=>none
def SK(h:RE K te m)(hs:RE K ts ms):RE K (MR K te ts) (Fc m ms):=by
 and_intros;obtain⟨⟨d1,h1⟩,e1,hm⟩:=ac hm;obtain⟨⟨d2,h2⟩,e2,hm⟩:=ac hm;dsimp only at e2 hm;split at hm
 .split at hm
  .next hi=>
   obtain⟨ds,e3,e4⟩:=ad hm;cases e4;subst hi;refine h ρ σ H hd ls _ d1 h1 hR hL e1 λρ1 H1 v1 x1 R1 r1=>?_;refine hs ρ1 σ H1 h1 ls _ _ _ R1 (hL.ext hR x1) e2 λρ2 H2 v x2 R2 r2=>?_;simp only[RD,RI]at r2;obtain⟨a,xs,rfl,q,r⟩:=(r1.ext R1 x2).tup e3;refine⟨r2,a,xs,rfl,q,λp hp=>?_⟩;obtain⟨R3,x3⟩:=R2.hid (ho:=.tup xs.reverse) hp;exact hQ ρ2 _ _ ((x1.trans R1 x2).trans R2 x3) R3 (BZ (SqT.of Ag) ((RDs.rev r).ext R2 x3))
  .cases hm
 .cases hm
def Sv(h:QE K X e te m)(hs:QE K X stp ts ms)(hK:X.K=K:=by rfl):QE K X (.Subscript e (.Slice none none (some stp) p2) pos) (MR K te ts) (Fc m ms):=by
 subst hK;exact⟨TX h.p hs.p,SK h.r hs.r⟩
def Rf{ls:Ls}{hd:Hd}{Q:D->Hd->Prop}(h:WE m ls hd λd x=>WE ms ls x λi y=>i=.im (.int (-1))/\∃ds,AR d=some ds/\Q (AK ds.reverse) y):WE (Fc m ms) ls hd Q:=by
 obtain⟨d,x,e1,i,y,e2,rfl,ds,e3,q⟩:=h;exact⟨_,_,by simp only[Fc,e1,e2,bind_some,if_true,e3,map_some],q⟩
end
end L2
namespace L2
open PySem PySem.Spec PyProof.Rows PySem.W
def bt_str:bootBuiltins "str"=some (.type "str"):=by decide +kernel
def VJ:List V->Hp->VK->Prop:=λxs H Q=>(∃i,xs=[.int i]/\i.natAbs.log2<1920/\Q (.str (toString i)) H)∨(∃k,xs=[.bl k]/\Q (.str (if k then "True" else "False":Str)) H)∨(xs=[.non]/\Q (.str "None") H)
def QY{X:Cx}:CallR X (.type "str") VJ:=by
 intro pins s σ H xs us Q I r h;rcases h with⟨i,rfl,hi,q⟩|⟨k,rfl,q⟩|⟨rfl,q⟩
 .obtain⟨u,rfl,ru⟩:=C1 r;obtain⟨t,rfl⟩:=ru;exact PySem.P.str_of_int hi ⟨.str (toString i),H,I.tok _,⟨_,rfl⟩,q⟩
 .obtain⟨u,rfl,ru⟩:=C1 r;cases ru;exact PySem.P.str_of_bool ⟨.str (if k then "True" else "False":Str),H,I.tok _,⟨_,rfl⟩,q⟩
 .obtain⟨u,rfl,ru⟩:=C1 r;cases ru;exact PySem.P.str_of_none ⟨.str "None",H,I.tok _,⟨_,rfl⟩,q⟩
open Classical in
def El:List D->Hd->Option (D×Hd)
 |[.im (.int i)],hd=>if i.natAbs.log2<1920 then some (.im (.str (toString i)),hd)else none
 |[.im (.bl k)],hd=>some (.im (.str (if k then "True" else "False":Str)),hd)
 |[.im .non],hd=>some (.im (.str "None"),hd)
 |_,_=>none
def Ux{K:PySem.W.Frag}:RF K VJ El:=by
 intro ρ H hd ds vs Q z hd' hR h1 hf hQ;unfold El at hf;split at hf
 .split at hf
  .next c=>
   cases hf;simp only[RDs,RD,RI]at h1;obtain⟨x,r,rfl,rfl,rfl⟩:=h1;exact .inl ⟨_,rfl,c,hQ ρ H _ .refl hR (by simp[RD,RI])⟩
  .cases hf
 .cases hf;simp only[RDs,RD,RI]at h1;obtain⟨x,r,rfl,rfl,rfl⟩:=h1;exact .inr (.inl ⟨_,rfl,hQ ρ H _ .refl hR (by simp[RD,RI])⟩)
 .cases hf;simp only[RDs,RD,RI]at h1;obtain⟨x,r,rfl,rfl,rfl⟩:=h1;exact .inr (.inr ⟨rfl,hQ ρ H _ .refl hR (by simp[RD,RI])⟩)
 .cases hf
section
variable{hd:Hd}{QE:D->Hd->Prop}
def LV{i:Int}(h:i.natAbs.log2<1920)(q:QE (.im (.str (toString i))) hd):WP (El [.im (.int i)] hd) QE:=⟨_,_,by simp[El,h],q⟩
def Ra{k:Bool}(q:QE (.im (.str (if k then "True" else "False":Str))) hd):WP (El [.im (.bl k)] hd) QE:=⟨_,_,rfl,q⟩
end
def Kb:List V->Hp->VK->Prop:=λxs H Q=>∃k,xs=[.bl k]/\Q (.str (if k then "True" else "False":Str)) H
def NO{X:Cx}:CallR X (.builtin "repr") Kb:=by
 intro pins s σ H xs us Q I r h;obtain⟨k,rfl,q⟩:=h;obtain⟨u,rfl,ru⟩:=C1 r;cases ru;exact PySem.P.repr_of_bool ⟨.str (if k then "True" else "False":Str),H,I.tok _,⟨_,rfl⟩,q⟩
def Kw:List D->Hd->Option (D×Hd)
 |[.im (.bl k)],hd=>some (.im (.str (if k then "True" else "False":Str)),hd)
 |_,_=>none
def Pc{K:PySem.W.Frag}:RF K Kb Kw:=by
 intro ρ H hd ds vs Q z hd' hR h1 hf hQ;unfold Kw at hf;split at hf
 .cases hf;simp only[RDs,RD,RI]at h1;obtain⟨x,r,rfl,rfl,rfl⟩:=h1;exact⟨_,rfl,hQ ρ H _ .refl hR (by simp[RD,RI])⟩
 .cases hf
end L2
namespace L2
open PySem PySem.W
def tg1:Expr->List Str
 |.Name x _=>[x]
 |_=>[]
def tg2:Expr->List Str
 |.Tuple es _ _=>es.flatMap tg1
 |e=>tg1 e
def tgN:Expr->List Str
 |.Tuple es _ _=>es.flatMap tg2
 |e=>tg1 e
def frN(X:Cx)(ix:List Nat):List Str:=ix.filterMap λi=>X.N[i]?
def ndB:List Str->Bool
 |[]=>true
 |x::xs=>!xs.elem x&&ndB xs
def Ef:∀{l:List Str},ndB l=true->l.Nodup
 |[],_=>List.nodup_nil
 |x::xs,h=>by
  obtain⟨h1,h2⟩:=Bool.and_eq_true_iff.mp h;refine nodup_cons.mpr ⟨λhm=>?_,Ef h2⟩;rw[List.elem_eq_true_of_mem hm]at h1;cases h1
section
variable{K:PySem.W.Frag}{X:Cx}{elt tg iter tg' iter' e:Expr}{ifs ifs':List Expr}{scope:Scope}{pos spos py:Pos}{ix:List Nat}{wi wi':TI}{g g':TG}{tf tf':TT}{te tk tv:TE}{mi mi':MI}{n n':MG}{mf mf':MT}{me mk mv:ME}{k i:Nat}{x y:Str}
def qgA(hN:ndB X.N=true:=by kernel_rfl)(hi:X.N[i]?=some x:=by rfl)(hx:Loc X.env.scope x:=by first|exact Or.inl rfl|exact Or.inr rfl)(hf:X.fn x=true∨X.env.scope.names.lookup x=some .local:=by first|exact .inl rfl|exact .inr rfl):QG K X (.Name x pos) (Dq i) (Am i):=Su K (Ef hN) hi hx hf
def qnA(hi:QI K X tg iter wi mi)(hg:∀s H ex,QG K (cCx X (tgN tg++frN X ix) scope s H ex) tg g n)(hf:∀s H ex,QF K (cCx X (tgN tg++frN X ix) scope s H ex) ifs tf mf)(he:∀s H ex,QE K (cCx X (tgN tg++frN X ix) scope s H ex) elt te me)
 (hc:X.calm=true:=by rfl) (S:CSc X scope (frN X ix) ix:=by exact⟨rfl,by decide +kernel,rfl,rfl,rfl,by decide +kernel⟩) (hs:∀x,foldedSetIterable iter X.env x=pure x:=by intro _;rfl) (hk:(tgN tg).length=k:=by rfl):
 QN K X (.ListComp elt [⟨tg,iter,ifs,0⟩] scope pos) (FX k ix wi g tf te) (BO k ix mi n mf me):=by
 subst hk;exact So K hc S hi hg hf he hs
def Yj(hi:QI K X tg iter wi mi)(hg:∀s H ex,QG K (cCx X (tgN tg++frN X ix) scope s H ex) tg g n)(hf:∀s H ex,QF K (cCx X (tgN tg++frN X ix) scope s H ex) ifs tf mf)(he:∀s H ex,QE K (cCx X (tgN tg++frN X ix) scope s H ex) elt te me)
 (hsw:swapsWith (.ListComp elt [⟨tg,iter,ifs,0⟩] scope pos) (some (.Name y py)) spos.line X.env=pure true:=by rfl) (hN:ndB X.N=true:=by kernel_rfl) (hiN:X.N[i]?=some y:=by rfl) (hy:X.env.scope.names.lookup y=some .local:=by rfl)
 (hc:X.calm=true:=by rfl) (S:CSc X scope (frN X ix) ix:=by exact⟨rfl,by decide +kernel,rfl,rfl,rfl,by decide +kernel⟩) (hs:∀x,foldedSetIterable iter X.env x=pure x:=by intro _;rfl) (hk:(tgN tg).length=k:=by rfl):
 QS K X (.Assign [.Name y py] (.ListComp elt [⟨tg,iter,ifs,0⟩] scope pos) spos) (EX (FX k ix wi g tf te) (Dq i)) (AS i (Ad (BO k ix mi n mf me))):=by
 subst hk;exact Sd K (Ef hN) hiN hy hc S hi hg hf he hsw hs
def qsA{pos':Pos}(he:QE K X e te me)(hs:swapsWith e (some (.Name x pos')) pos.line X.env=pure false:=by rfl)(hN:ndB X.N=true:=by kernel_rfl)(hi:X.N[i]?=some x:=by rfl)(hx:Loc X.env.scope x:=by first|exact Or.inl rfl|exact Or.inr rfl)(hf:X.fn x=true∨X.env.scope.names.lookup x=some .local:=by first|exact .inl rfl|exact .inr rfl):
 QS K X (.Assign [.Name x pos'] e pos) (EX te (Dq i)) (AS i me):=VQ K (Ef hN) hi hx he hs hf
end
end L2
namespace L2
open PySem PySem.Spec PyProof.Rows PySem.W
abbrev Tb:=Addr×Str×Nat×Nat
def Tu(ts:List Tb):Obj:={ cls:=.str "tables" 0,data:=.fields (ts.flatMap λt=>[.ref t.1,.str t.2.1 0,.int t.2.2.1 0,.int t.2.2.2 0]).toArray }
def Bu(K:PySem.W.Frag)(ts:List Tb):PySem.W.Frag:=(K.filter λp=>!(ts.map (·.1)).contains p.1)++[(mainGlobals,Tu ts)]
def Nh:∀ts:List Tb,Js (ts.flatMap λt=>[Value.ref t.1,.str t.2.1 0,.int t.2.2.1 0,.int t.2.2.2 0])=ts.map λt=>(t.1,t.2.1,⟨t.2.2.1,t.2.2.2,0,0⟩)
 |[]=>rfl
 |t::r=>by
  rw[List.flatMap_cons,map_cons,<- Nh r];rfl
def Ng(K:PySem.W.Frag)(ts:List Tb):Hs (Bu K ts)=ts.map λt=>(t.1,t.2.1,⟨t.2.2.1,t.2.2.2,0,0⟩):=by
 unfold Hs Bu;rw[List.getLast?_concat];show Js _=_;rw[<- Nh ts]
def F8{L:List Addr}{a:Addr}(ha:a∉L):∀K:PySem.W.Frag,(K.filter λp=>!L.contains p.1).lookup a=K.lookup a
 |[]=>rfl
 |(b,o)::r=>by
   have ih:=F8 ha r;rw[filter_cons];by_cases hb:b∈L
   .have h1:(!L.contains (b,o).1)=false:=by simp[hb]
    have h2:(a==b)=false:=beq_eq_false_iff_ne.mpr λz=>ha (z ▸ hb);rw[if_neg (by rw[h1];decide),lookup_cons,h2,ih]
   .have h1:(!L.contains (b,o).1)=true:=by simp[hb]
    rw[if_pos h1,lookup_cons,lookup_cons,ih]
def GI{L:List Addr}{P:Addr}(hP:P∈L):∀K:PySem.W.Frag,(K.filter λp=>!L.contains p.1).lookup P=none
 |[]=>rfl
 |(b,o)::r=>by
   have ih:=GI hP r;rw[filter_cons];by_cases hb:b∈L
   .rw[if_neg (by simp[hb])];exact ih
   .have h2:(P==b)=false:=beq_eq_false_iff_ne.mpr λz=>hb (z ▸ hP);rw[if_pos (by simp[hb]),lookup_cons,h2];exact ih
section
variable{K:PySem.W.Frag}{ts:List Tb}
def GH{a:Addr}{o:Obj}(ha:a∉ts.map (·.1))(e:K.lookup a=some o):(Bu K ts).lookup a=some o:=by
 unfold Bu;rw[lookup_append,F8 ha,e];rfl
def Tt{h:Heap}(X:K.In h){g:Obj}(hg:K.lookup mainGlobals=some g)(hP:mainGlobals∉ts.map (·.1)):(Bu K ts).In h:=λa o e=>by
 unfold Bu at e;rw[lookup_append]at e;by_cases ha:a∈ts.map (·.1)
 .rw[GI ha,none_or]at e;have h2:(a==mainGlobals)=false:=beq_eq_false_iff_ne.mpr λz=>hP (z ▸ ha);rw[lookup_cons,h2]at e;cases e
 .rw[F8 ha]at e;cases k:K.lookup a with
  |some o'=>rw[k]at e;cases e;exact X _ _ k
  |none=>
   rw[k,none_or,lookup_cons]at e;by_cases hm:a=mainGlobals
   .subst hm;rw[hg]at k;cases k
   .rw[beq_eq_false_iff_ne.mpr hm]at e;cases e
def Ts(hM:mainGlobals∉ts.map (·.1)){P:Addr}(hP:P∈ts.map (·.1)):(Bu K ts).lookup P=none:=by
 unfold Bu;have h2:(P==mainGlobals)=false:=beq_eq_false_iff_ne.mpr λz=>hM (z ▸ hP);rw[lookup_append,GI hP,none_or,lookup_cons,h2];rfl
def Fun.mark{x qual:Str}{st:Stmt}{f:Addr}{fd:FuncData}(D:Fun K x qual st f fd){h:Heap}(X:K.In h)(hP:∀P∈ts.map (·.1),h.get? P=some (tabObj #[])):Fun (Bu K ts) x qual st f fd:=by
 have neP:∀a o,K.lookup a=some o->o≠tabObj #[]->a∉ts.map (·.1):=λa o e n z=>by
  have:=X _ _ e;rw[hP a z]at this;exact n (Option.some.inj this).symm
 obtain⟨⟨oc,od,kV,doc,pm,an,cdv,ct,osl,rfl,lk,hcd⟩,kp⟩:=D;have hf:f∉ts.map (·.1):=neP f _ lk (λz=>by cases z);refine⟨⟨oc,od,kV,doc,pm,an,cdv,ct,osl,rfl,GH hf lk,?_⟩,?_⟩
 .unfold codeIn at hcd ⊢;split at hcd
  .next c0=>
   split at hcd
   .next vs sl k=>
    have hc:c0∉ts.map (·.1):=neP c0 _ k (λz=>by
     have:vs=#[]:=by injection z with _ _ z _;injection z
     rw[this]at hcd;cases hcd)
    simp only[GH hc k];exact hcd
   .cases hcd
  .cases hcd
 .unfold keepIn;simp only[GH hf lk]
end
def Xh{K:PySem.W.Frag}{H:Hp}{a:Addr}{xs:List V}(hS:SqL K H a xs)(hO:∀ys,H a≠some (.lst ys)):RoL K H a xs:=by
 rcases hS with(h|h)|h
 .exact absurd h (hO xs)
 .exact .inl h
 .exact .inr h
def OM{Pg:Program}{w:World}{K:PySem.W.Frag}{mg mb:Str->Option Value}{k:Nat}{fa a:Addr}{fd:FuncData}{x:Str}{ts:List Tb}{s₁:Shared}{vs:List Value}{ns:List Int}{F:List D->Hd->Option (D×Hd)}
 (KX:K.In s₁.heap) (hns:s₁.heap.Ns mainGlobals mg) (hb:s₁.heap.Ns builtinsNs mb) (hbb:∀x:Str,x≠"__name__"->mb x=bootBuiltins x) (hlim:s₁.heap.NoLimit) (hg:s₁.gens=#[])
 (ha:s₁.heap.get? a=some { cls:=.type "list",data:=.seq vs.toArray }) (hi:IntsAre vs ns) (hl:ns.length<=sizeLine) (hr:Room k callerA)
 (hT:∀P∈ts.map (·.1),∃cc,s₁.heap.TableAt cc P #[]) (hPK:∀P∈ts.map (·.1),K.lookup P=none) (htab:Hs K=ts.map λt=>(t.1,t.2.1,⟨t.2.2.1,t.2.2.2,0,0⟩))
 (Fn:∀base:Heap,K.In base->base.Ns mainGlobals mg->(∀b o,b∉ts.map (·.1)->b≠a->s₁.heap.get? b=some o->base.get? b=some o)->FnOk Pg w K mg base CX0 k fa fd [x] (spF K 1 F)) (hbind:∀(s:Shared) (u:Value),BindsTo s fd ⟨[u],[]⟩ [(x,u)])
 (hF:∃hd',F [.ro ns] []=some (.im (.bl true),hd')):
 codeAny (model Pg w) callerA (.call (.ref fa) ⟨[.ref a],[]⟩) (λr s'=>r=.ok (.ret (.bool true))/\OldK s₁.heap s'.heap/\s'.os=s₁.os/\AllBare s'.gens) s₁:=by
 have rv:=JD hi;have lenV:=hi.length;have hP:∀P∈ts.map (·.1),s₁.heap.get? P=some (tabObj #[]):=λP h=>let ⟨cc,t⟩:=hT P h;t.2
 have haP:a∉ts.map (·.1):=λz=>by rw[hP a z]at ha;cases ha
 have core:∀H:Hp,(∀b,b∉ts.map (·.1)->H b=none∨∃o xs,H b=some (.frz o (.lst xs)))->(∀P∈ts.map (·.1),H P=some (.tbl #[]))->SqL K H a (ns.map V.int)->HOk Pg w H s₁.heap->(∀b,H b≠none->b=a∨b∈ts.map (·.1))->(H a≠none->K.lookup a=none) ->
  codeAny (model Pg w) callerA (.call (.ref fa) ⟨[.ref a],[]⟩) (λr s'=>r=.ok (.ret (.bool true))/\OldK s₁.heap s'.heap/\s'.os=s₁.os/\AllBare s'.gens) s₁:=by
  intro H hO hHP hS hok hA hK;have base_of:∀{b:Addr} {o:Obj},s₁.heap.get? b=some o->H b=none->(Fj s₁.heap H).get? b=some o:=λe n=>QJ e n;have noA:∀{b:Addr} {o:Obj} {es:Array DictEntry} {ep:Nat},s₁.heap.get? b=some o->o.data=.dict es ep->H b=none:=λ{b o es ep} e d=>by
   cases q:H b with
   |none=>rfl
   |some u=>
    rcases hA b (by rw[q];simp)with e'|e'
    .subst e';rw[ha]at e;cases e;have d':Data.seq vs.toArray _=Data.dict es ep:=d;cases d'
    .rw[hP b e']at e;cases e;cases d
  have nsK:∀{b:Addr} {m:Str->Option Value},s₁.heap.Ns b m->(Fj s₁.heap H).Ns b m:=λ{b m} ⟨o,es,ep,e,d,r⟩=>⟨o,es,ep,base_of e (noA e d),d,r⟩
  have hKb:K.In (Fj s₁.heap H):=λb o e=>base_of (KX b o e) (by
   cases q:H b with
   |none=>rfl
   |some u=>
    rcases hA b (by rw[q];simp)with e'|e'
    .subst e';rw[hK (by rw[q];simp)]at e;cases e
    .rw[hPK b e']at e;cases e)
  have hM:Mod K mg (Fj s₁.heap H):=⟨hKb,nsK hns,⟨mb,nsK hb,hbb⟩,let ⟨mc,h1,h2⟩:=hlim;⟨mc,nsK h1,h2⟩⟩
  have e0:Env0 Pg w K mg (Fj s₁.heap H) callerA [] s₁ H:=⟨rfl,hM,λb o e=>Tq e,Nat.le_of_eq (OQ _ _),trivial,λb hb=>absurd (show b∈([]:List Addr)from hb) (by simp),hok,.of_eq hg⟩
  have hsp:spF K 1 F [.ref a] H (λv _=>v=.bl true) λ_ _ _=>False:=by
   obtain⟨hd',e⟩:=hF;refine⟨rfl,[],[],[.ro ns],.im (.bl true),hd',⟨rfl,List.nodup_nil,λy hy=>?_,λn o a h=>by simp at h⟩,?_,e,λρ' H' v _ _ r=>?_⟩
   .rw[htab]at hy;obtain⟨t,ht,rfl⟩:=mem_map.mp hy;exact⟨#[],hHP t.1 (mem_map.mpr ⟨t,ht,rfl⟩),.inl rfl⟩
   .simp only[RDs,RD];refine⟨_,_,rfl,⟨a,rfl,Xh hS λys z=>?_⟩,rfl⟩;rcases hO a haP with q|⟨o,ys,q⟩<;>(rw[q]at z;cases z)
   .simpa only[RD,RI]using r
  refine codeAny_mono ((Fn _ hKb (nsK hns) λb o n1 n2 e=>base_of e (by
   cases q:H b with
   |none=>rfl
   |some u=>
    rcases hA b (by rw[q];simp)with e'|e'
    .exact absurd e' n2
    .exact absurd e' n1)).run callerA [] s₁ H ⟨[.ref a],[]⟩ [.ref a] [.ref a] _ _ hr e0 (hbind s₁ (.ref a)) (.cons rfl .nil) hsp) λr s' h=>?_
  cases r with
  |error e=>exact h.elim
  |ok fl=>
   cases fl with
   |next=>exact False.elim h
   |brk=>exact False.elim h
   |cont=>exact False.elim h
   |ret u=>
    obtain⟨v,H',os,bare,un,hok',r',q⟩:=h;have q':v=.bl true:=q;subst q';obtain rfl:u=Value.bool true:=r';have keep:∀b o,b∉ts.map (·.1)->s₁.heap.get? b=some o->s'.heap.get? b=some o:=λb o nb e=>by
     cases q:H b with
     |none=>exact un.keep b o e q (by intro z;exact absurd (show b∈([]:List Addr)from z) (by simp)) (by simp)
     |some u=>
      rcases hO b nb with z|⟨ob,xs,z⟩
      .rw[q]at z;cases z
      .have z2:=un.frzs b ob _ z;obtain⟨e1,_⟩:=hok b _ z;obtain⟨e2,_⟩:=hok' b _ z2;rw[e]at e1;cases e1;exact e2
    refine⟨rfl,⟨λb o e=>?_,λb o e=>?_⟩,os,bare⟩
    .by_cases nb:b∈ts.map (·.1)
     .obtain⟨cc,tb⟩:=hT b nb;obtain⟨more,hm⟩:=un.tbls b #[] (hHP b nb);have hb':s'.heap.get? b=some (tabObj (#[]++more)):=hok' b _ hm;rw[hP b nb]at e;cases e;exact .inr (.inl ⟨tb.isCodeTable,rfl,#[],more,rfl,hb'⟩)
     .exact .inl (keep b o nb e)
    .by_cases nb:b∈ts.map (·.1)
     .obtain⟨more,hm⟩:=un.tbls b #[] (hHP b nb);exact⟨_,hok' b _ hm⟩
     .exact⟨o,keep b o nb e⟩
 cases hk:K.lookup a with
 |some o=>
  have e:=KX a o hk;rw[ha]at e;cases e;refine core (λb=>if b∈ts.map (·.1)then some (.tbl #[])else none) (λb nb=>.inl (if_neg nb)) (λP hp=>if_pos hp) (.inr ⟨_,vs.toArray,_,hk,rfl,rfl,rfl,by rw[size_toArray,lenV];exact hl,by simpa using rv⟩) (λb u z=>?_) (λb z=>?_) λz=>absurd (if_neg haP) z
  .by_cases hb:b∈ts.map (·.1)
   .have z':=(if_pos hb).symm.trans z;cases z';exact hP b hb
   .have z':=(if_neg hb).symm.trans z;cases z'
  .by_cases hb:b∈ts.map (·.1)
   .exact .inr hb
   .exact absurd (if_neg hb) z
 |none=>
  refine core (λb=>if b∈ts.map (·.1)then some (.tbl #[])else if b=a then some (.frz { cls:=.type "list",data:=.seq vs.toArray } (.lst (ns.map V.int)))else none) (λb nb=>?_) (λP hp=>if_pos hp) (.inl (.inr ⟨{ cls:=.type "list",data:=.seq vs.toArray },(if_neg haP).trans (if_pos rfl)⟩)) (λb u z=>?_) (λb z=>?_) λ_=>hk
  .rw[if_neg nb];by_cases hb:b=a
   .exact .inr ⟨_,_,if_pos hb⟩
   .exact .inl (if_neg hb)
  .by_cases hp:b∈ts.map (·.1)
   .have z':=(if_pos hp).symm.trans z;cases z';exact hP b hp
   .have z:=(if_neg hp).symm.trans z;by_cases hb:b=a
    .have z':=(if_pos hb).symm.trans z;cases z';subst hb;exact⟨ha,by rw[length_map];exact hl,vs,_,rv,ha⟩
    .have z':=(if_neg hb).symm.trans z;cases z'
  .by_cases hp:b∈ts.map (·.1)
   .exact .inr hp
   .by_cases hb:b=a
    .exact .inl hb
    .exact absurd ((if_neg hp).trans (if_neg hb)) z
def walkL{l:PySem.W.OpenLaw}{n k:Nat}{q:Program}{loose:List Str}{XP:(Str->Option Value)->Heap->Prop}{YP:World->Heap->Prop}{d:DefRec}{K:Params->PySem.W.Frag}{F:List D->Hd->Option (D×Hd)}(xs:List (Str×Str×Nat×Nat))
 (hn:l.most=some n) (hn2:n<=sizeLine) (hdf:d.params.defaults=[]) (hr:Room k callerA) (hdr:∀x∈xs,∃dr,(recsOf q).find? (λe=>e.name==x.1)=some dr)
 (hF:∀ns:List Int,∃hd',F [.ro ns] []=some (.im (.bl true),hd'))
 (hY:∀(w:World) (h:Heap),YP w h->(K w.params).In h)
 (G:∀(w:World) (mg:Str->Option Value) (fa:Addr) (h:Heap) (c P:Str->Addr),(K w.params).In h->h.Ns mainGlobals mg->mg d.name=some (.ref fa) ->
  (∀x∈xs,h.get? (P x.1)=some (tabObj #[])/\CodeHd h (c x.1) (P x.1)/\∃a o fd,mg x.1=some (.ref a)/\h.get? a=some o/\o.data=.func fd/\fd.code=.ref (c x.1)) ->
  (∃g,(K w.params).lookup mainGlobals=some g)/\∃fd:FuncData,(∀(s:Shared) (u:Value),BindsTo s fd ⟨[u],[]⟩ [("_law_script",u)])/\
   ∀base:Heap,(Bu (K w.params) (xs.map λx=>(P x.1,x.2))).In base->base.Ns mainGlobals mg->(∀x∈xs,CodeHd base (c x.1) (P x.1))->(∀x∈xs,base.BuiltinsAt mg (P x.1))->FnOk l.prog w (Bu (K w.params) (xs.map λx=>(P x.1,x.2))) mg base CX0 k fa fd ["_law_script"] (spF (Bu (K w.params) (xs.map λx=>(P x.1,x.2))) 1 F)):
 PySem.W.WalkO q loose XP YP l.row.toRowW d [] (λf vs=>PySem.call f vs):=by
 refine Att.attach_call hn hdf λw s₀ s₁ mg mb fa o pm cd doc a vs ns Gr Y ho hd hcd hmg hobj hints hlen hg=>?_;have KX:=hY w _ Y;have each:∀x:Str,∃cp:Addr×Addr,(∃y∈xs,y.1=x)->(∃cc,s₁.heap.TableAt cc cp.2 #[])/\CodeHd s₁.heap cp.1 cp.2/\∃a o fd,mg x=some (.ref a)/\s₁.heap.get? a=some o/\o.data=.func fd/\fd.code=.ref cp.1:=by
  intro x;by_cases hx:∃y∈xs,y.1=x
  .obtain⟨y,hy,rfl⟩:=hx;obtain⟨dr,hdr⟩:=hdr y hy;have hnm:dr.name=y.1:=beq_iff_eq.mp (List.find?_some (p:=λe:DefRec=>e.name==y.1) hdr);obtain⟨a',o',fd',c,P,h1,h2,h3,h4,h5,h6⟩:=Gr.T.tab dr (List.mem_of_find?_eq_some hdr);rw[hnm]at h1;exact⟨(c,P),λ_=>⟨⟨_,h6⟩,CodeHd.of h5 h6,a',o',fd',h1,h2,h3,h4⟩⟩
  .exact⟨(0,0),λh=>absurd h hx⟩
 obtain⟨cp,hcp⟩:=Classical.skolem.mp each;have hcp:∀x∈xs,(∃cc,s₁.heap.TableAt cc (cp x.1).2 #[])/\CodeHd s₁.heap (cp x.1).1 (cp x.1).2/\∃a o fd,mg x.1=some (.ref a)/\s₁.heap.get? a=some o/\o.data=.func fd/\fd.code=.ref (cp x.1).1:=λx hx=>hcp x.1 ⟨x,hx,rfl⟩;have hts:∀P∈(xs.map λx=>((cp x.1).2,x.2)).map (·.1),∃x∈xs,P=(cp x.1).2:=λP hP=>by
  obtain⟨t,ht,rfl⟩:=mem_map.mp hP;obtain⟨x,hx,rfl⟩:=mem_map.mp ht;exact⟨x,hx,rfl⟩
 have hP:∀x∈xs,s₁.heap.get? (cp x.1).2=some (tabObj #[]):=λx hx=>by
  obtain⟨⟨cc,t⟩,_⟩:=hcp x hx;exact t.2
 have hmP:mainGlobals∉(xs.map λx=>((cp x.1).2,x.2)).map (·.1):=λz=>by
  obtain⟨x,hx,ez⟩:=hts _ z;obtain⟨o,es,ep,e,dd,_⟩:=Gr.T.g;rw[ez,hP x hx]at e;cases e;cases dd
 obtain⟨⟨g,hgl⟩,fd,hb,hFn⟩:=G w mg fa _ (λx=>(cp x).1) (λx=>(cp x).2) KX Gr.T.g hmg λx hx=>⟨hP x hx,(hcp x hx).2⟩
 refine OM (ts:=xs.map λx=>((cp x.1).2,x.2)) (K:=Bu (K w.params) (xs.map λx=>((cp x.1).2,x.2))) (Tt KX hgl hmP) Gr.T.g Gr.T.b Gr.T.builtins Gr.T.nolimit hg hobj hints (le_trans hlen hn2) hr (λP hp=>by obtain⟨x,hx,rfl⟩:=hts P hp;exact(hcp x hx).1) (λP hp=>Ts hmP hp) (Ng _ _) (λbase kb nb keep=>hFn base kb nb (λx hx=>?_) λx hx=>?_) hb (hF ns)
 .obtain⟨oc,vs',file,tf,flags,tg,inF,text,tt,e1,r1,r2,r3,r4,r5,r6,r7,r8,hne⟩:=(hcp x hx).2.1;have hn:(cp x.1).1∉(xs.map λx=>((cp x.1).2,x.2)).map (·.1):=λz=>by
   obtain⟨y,hy,ez⟩:=hts _ z;rw[ez,hP y hy]at e1;cases e1;cases r1
  exact⟨oc,vs',file,tf,flags,tg,inF,text,tt,keep (cp x.1).1 oc hn (λz=>by rw[z,hobj]at e1;cases e1;exact absurd (show Value.type "list"=Value.type "code" from r1) (by decide)) e1,r1,r2,r3,r4,r5,r6,r7,r8,hne⟩
 .obtain⟨bm,ob,b1,b2,b3,b4,b5,b6⟩:=Gr.T.bmain;have nP:∀y∈xs,bm≠(cp y.1).2:=λy hy z=>by rw[z,hP y hy]at b3;cases b3;cases b4
  have hn:bm∉(xs.map λx=>((cp x.1).2,x.2)).map (·.1):=λz=>by
   obtain⟨y,hy,ez⟩:=hts _ z;exact nP y hy ez
  refine⟨bm,ob,b1,b2,λz=>?_,nP x hx,keep bm ob hn (λz=>by rw[z,hobj]at b3;cases b3;exact absurd (show Value.type "list"=Value.type "module" from b4) (by decide)) b3,b4,b5,b6⟩;obtain⟨o,es,ep,e,dd,_⟩:=Gr.T.g;rw[<- z,b3]at e;cases e;rw[b6]at dd;cases dd
end L2
namespace L2
open PySem PySem.W PyProof.Rows
abbrev FD:=List D->Hd->Option (D×Hd)
structure EnK where
 P:Program
 w:World
 K:PySem.W.Frag
 mg:Str->Option Value
 base:Heap
structure Df where
 x:Str
 st:Stmt
 ps:List Str
 k:Nat
 F:FD
def Dn(E:EnK)(e:Df):Prop:=∃f fd,DefAt E.K E.mg e.x e.st f fd e.ps
def Kn(E:EnK)(e:Df):Prop:=∃f fd,DefAt E.K E.mg e.x e.st f fd e.ps/\FnOk E.P E.w E.K E.mg E.base CX0 e.k f fd e.ps (spF E.K e.ps.length e.F)/\∀ds hd z,e.F ds hd=some z->ds.length=e.ps.length
def okK{E:EnK}{x:Str}{st:Stmt}{ps N:List Str}{j k:Nat}{m:MS}{F:FD}(D:Dn E ⟨x,st,ps,k,F⟩)(S:FnScope N ps (AH st))(hF:F=mkF ps.length N.length m)(hk:k=j+1)
 (h:∀(f:Addr) (cdv:Value) (A:Around) (outer:List Env) (s:Shared) (H:Hp) (Ek:XK),Room j (A.deeper (envOfC x (AH st) s.heap.objs.size f cdv))->∃t,QSs E.K (GS CX0 E.P E.w E.K E.mg E.base N x (AH st) f cdv A outer s H Ek).nox (Bl st) t m):Kn E ⟨x,st,ps,k,F⟩:=by
 obtain⟨f,fd,D⟩:=D;subst hF;subst hk;exact⟨f,fd,D,Tn D S (h f),Tr⟩
def ok0{E:EnK}{x:Str}{st:Stmt}{ps:List Str}{k k':Nat}{F:FD}(D:Dn E ⟨x,st,ps,k',F⟩):Kn E ⟨x,st,ps,k,λ_ _=>none⟩:=by
 obtain⟨f,fd,D⟩:=D;refine⟨f,fd,D,⟨λvs H Q E h=>h.1,λA outer s H args us vs Q E hr e0 hb hv h=>?_⟩,λ_ _ _ h=>nomatch h⟩;obtain⟨_,_,_,_,_,_,_,_,e,_⟩:=h;cases e
section
variable{K:PySem.W.Frag}{X:Cx}{e:Expr}{es:List Expr}{t:TA}{m:MA}{x:Str}{j k:Nat}{ps:List Str}{F:FD}{st:Stmt}{p pos:Pos}
def qcW(w:Nat)(G:Kn ⟨X.prog,X.w,X.K,X.mg,X.base⟩ ⟨x,st,ps,j,F⟩)(hr:Room k X.A)(ha:QA K X (e::es) t m)
 (hjk:j<=k:=by first|decide|omega) (hg:Gl X x:=by rfl) (hdb:(x==("__debug__":Str))=false:=by decide) (he:starEach (e::es) X.env=(false,eval e X.env)::starEach es X.env:=by rfl) (hpl:(backTo pos (starEach es X.env)).any (·.1)=false:=by rfl) (hK:X.K=K:=by rfl):
 QE K X (.Call (.Name x p) (e::es) [] pos) (Et (spF K ps.length F) [] E0 t) (AE w F m):=by
 subst hK;obtain⟨f,fd,D,G,l⟩:=G;exact Px _ w G hr D ha l hjk hg hdb he hpl
def qcG(G:Kn ⟨X.prog,X.w,X.K,X.mg,X.base⟩ ⟨x,st,ps,j,F⟩)(hr:Room k X.A)(ha:QA K X (e::es) t m)
 (hjk:j<=k:=by first|decide|omega) (hg:Gl X x:=by rfl) (hdb:(x==("__debug__":Str))=false:=by decide) (he:starEach (e::es) X.env=(false,eval e X.env)::starEach es X.env:=by rfl) (hpl:(backTo pos (starEach es X.env)).any (·.1)=false:=by rfl) (hK:X.K=K:=by rfl):
 QE K X (.Call (.Name x p) (e::es) [] pos) (Et (spF K ps.length F) [] E0 t) (AJ F m):=by
 subst hK;obtain⟨f,fd,D,G,l⟩:=G;exact Py _ G hr D ha l hjk hg hdb he hpl
variable{c P:Addr}{scope:Scope}{ix:List Nat}{params:Arguments}{body:Expr}{lpos kpos:Pos}{te tb:TE}{mi mb:ME}{fd:FuncData}{cdv:Value}{q:Str}
end
def FnAt(K:PySem.W.Frag)(n:Str)(s:Stmt)(f:Addr)(cd:Value):Prop:=∃oc kV dc pm ct od an sl,PySem.W.nsIn K mainGlobals n=some (some (.ref f))/\K.lookup f=some ⟨oc,od,.func (PySem.W.fnOf n n (CP s) (Bl s) (AH s) .none kV dc pm an cd ct),sl⟩/\PySem.W.codeIn K cd n=true/\PySem.W.keepIn K (.ref f)=true
def Fe(K:PySem.W.Frag)(e:Df):Prop:=∃f cd,FnAt K e.x e.st f cd
abbrev Xs:=List (Str×Str×Nat×Nat)
def HX(xs:Xs)(mg:Str->Option Value)(h:Heap)(c P:Str->Addr):Prop:=∀x∈xs,h.get? (P x.1)=some (tabObj #[])/\CodeHd h (c x.1) (P x.1)/\∃a o fd,mg x.1=some (.ref a)/\h.get? a=some o/\o.data=.func fd/\fd.code=.ref (c x.1)
abbrev tbs(xs:Xs)(P:Str->Addr):List Tb:=xs.map λx=>(P x.1,x.2)
abbrev enM(l:PySem.W.OpenLaw)(w:World)(K:PySem.W.Frag)(xs:Xs)(P:Str->Addr)(mg:Str->Option Value)(base:Heap):EnK:=⟨l.prog,w,Bu K (tbs xs P),mg,base⟩
def Bd(e:Df):Prop:=∀(kV doc pm:Value) (an:Option Addr) (cdv ct:Value) (us:List Value),us.length=e.ps.length->bindArgs (PySem.W.fnOf e.x e.x (CP e.st) (Bl e.st) (AH e.st) .none kV doc pm an cdv ct) ⟨us,[]⟩=pure (e.ps.zip us)
section
variable{K:PySem.W.Frag}{h:Heap}{mg:Str->Option Value}{xs:Xs}{c P:Str->Addr}(X:K.In h)(G:h.Ns mainGlobals mg)(hx:HX xs mg h c P)
include hx in
theorem Yq:∀P'∈(tbs xs P).map (·.1),h.get? P'=some (tabObj #[]):=λP' hp=>by
 obtain⟨t,ht,rfl⟩:=mem_map.mp hp;obtain⟨x,hxx,rfl⟩:=mem_map.mp ht;exact(hx x hxx).1
include X G hx in
theorem FnAt.def{e:Df}{f:Addr}{cd:Value}(H:FnAt K e.x e.st f cd)(b:Bd e):∃fd,DefAt (Bu K (tbs xs P)) mg e.x e.st f fd e.ps/\fd.code=cd:=by
 obtain⟨oc,kV,dc,pm,ct,od,an,sl,a,l,cc,k⟩:=H;have F:=Fun.mark (ts:=tbs xs P) (Wz (st:=e.st) l cc k) X (Yq hx);exact⟨_,⟨F,PySem.W.mg_of X G a,F.binds b⟩,rfl⟩
include X G hx in
theorem Fe.dn{e:Df}(H:Fe K e)(b:Bd e)(l:PySem.W.OpenLaw)(w:World)(base:Heap):Dn (enM l w K xs P mg base) e:=by
 obtain⟨f,cd,H⟩:=H;obtain⟨fd,D,_⟩:=H.def X G hx b;exact⟨f,fd,D⟩
include X G hx in
include X G hx in
end
def Zs(K:PySem.W.Frag):Prop:=∀n∈(["list","tuple","len","range","repr","sum","min","max","abs","all","any","sorted","zip","isinstance","int","bool","str","set","enumerate","reversed","dict"]:List Str),PySem.W.nsIn K mainGlobals n=some none
def Zs.blt{K:PySem.W.Frag}(Z:Zs K){h:Heap}{mg:Str->Option Value}(X:K.In h)(G:h.Ns mainGlobals mg):BltA mg:=by
 constructor<;>exact PySem.W.mg_none_of X G (Z _ (by simp))
def bd1{e:Df}(hl:e.ps.length=1:=by rfl)(h:∀(kV doc pm:Value) (an:Option Addr) (cdv ct:Value) a,bindArgs (PySem.W.fnOf e.x e.x (CP e.st) (Bl e.st) (AH e.st) .none kV doc pm an cdv ct) ⟨[a],[]⟩=pure (e.ps.zip [a]):=by intros;rfl):Bd e:=λ_ _ _ _ _ _ us hu=>match us,hu.trans hl with|[_],_=>h ..
def bd2{e:Df}(hl:e.ps.length=2:=by rfl)(h:∀(kV doc pm:Value) (an:Option Addr) (cdv ct:Value) a b,bindArgs (PySem.W.fnOf e.x e.x (CP e.st) (Bl e.st) (AH e.st) .none kV doc pm an cdv ct) ⟨[a,b],[]⟩=pure (e.ps.zip [a,b]):=by intros;rfl):Bd e:=λ_ _ _ _ _ _ us hu=>match us,hu.trans hl with|[_,_],_=>h ..
def bd3{e:Df}(hl:e.ps.length=3:=by rfl)(h:∀(kV doc pm:Value) (an:Option Addr) (cdv ct:Value) a b c,bindArgs (PySem.W.fnOf e.x e.x (CP e.st) (Bl e.st) (AH e.st) .none kV doc pm an cdv ct) ⟨[a,b,c],[]⟩=pure (e.ps.zip [a,b,c]):=by intros;rfl):Bd e:=λ_ _ _ _ _ _ us hu=>match us,hu.trans hl with|[_,_,_],_=>h ..
def bd4{e:Df}(hl:e.ps.length=4:=by rfl)(h:∀(kV doc pm:Value) (an:Option Addr) (cdv ct:Value) a b c d,bindArgs (PySem.W.fnOf e.x e.x (CP e.st) (Bl e.st) (AH e.st) .none kV doc pm an cdv ct) ⟨[a,b,c,d],[]⟩=pure (e.ps.zip [a,b,c,d]):=by intros;rfl):Bd e:=λ_ _ _ _ _ _ us hu=>match us,hu.trans hl with|[_,_,_,_],_=>h ..
def BR{N ps:List Str}{sc:Scope}(h:(decide (sc.kind=.function)&&!sc.isCoroutine&&!sc.isGenerator&&ndB N&&(N.take ps.length==ps)&&(ps.all λx=>sc.names.lookup x==some .local||sc.names.lookup x==some .cell)&&sc.names.all λy=>y.2 != .free)=true):FnScope N ps sc:=by
 simp only[Bool.and_eq_true,all_eq_true,Bool.or_eq_true,beq_iff_eq,decide_eq_true_eq,Bool.not_eq_true',bne_iff_ne]at h;obtain⟨⟨⟨⟨⟨⟨h1,h2⟩,h3⟩,h4⟩,h5⟩,h6⟩,h7⟩:=h;exact⟨h1,h2,h3,Ef h4,h5,h6,h7⟩
abbrev HG(l:PySem.W.OpenLaw)(w:World)(K:PySem.W.Frag)(xs:Xs)(mg:Str->Option Value)(c P:Str->Addr)(fa:Addr)(e:Df):Prop:=(∃g,K.lookup mainGlobals=some g)/\∃fd:FuncData,(∀(s:Shared) (v:Value),BindsTo s fd ⟨[v],[]⟩ [("_law_script",v)])/\∀base:Heap,(Bu K (tbs xs P)).In base->base.Ns mainGlobals mg->(∀x∈xs,CodeHd base (c x.1) (P x.1))->(∀x∈xs,base.BuiltinsAt mg (P x.1))->FnOk l.prog w (Bu K (tbs xs P)) mg base CX0 e.k fa fd ["_law_script"] (spF (Bu K (tbs xs P)) 1 e.F)
def QK{l:PySem.W.OpenLaw}{w:World}{K:PySem.W.Frag}{h:Heap}{mg:Str->Option Value}{fa:Addr}{xs:Xs}{c P:Str->Addr}{e:Df}(X:K.In h)(G:h.Ns mainGlobals mg)(hfa:mg e.x=some (.ref fa))(hx:HX xs mg h c P)(H:Fe K e)(b:Bd e)(hps:e.ps=(["_law_script"]:List Str))
 (ok:∀base:Heap,(∀x∈xs,CodeHd base (c x.1) (P x.1))->(∀x∈xs,base.BuiltinsAt mg (P x.1))->Kn (enM l w K xs P mg base) e):
 HG l w K xs mg c P fa e:=by
 obtain⟨f,cd,H⟩:=H;obtain⟨fd,D,_⟩:=H.def X G hx b;obtain⟨oc,kV,dc,pm,ct,od,an,sl,a,lk,cc,k⟩:=H;have hg:∃g,K.lookup mainGlobals=some g:=by
  cases e:K.lookup mainGlobals with
  |some g=>exact⟨g,rfl⟩
  |none=>unfold PySem.W.nsIn at a;rw[e]at a;cases a
 have e1:=hfa.symm.trans D.mg;cases e1;refine⟨hg,fd,λs v=>?_,λbase _ _ hd bl=>?_⟩
 .obtain⟨⟨oc',od',kV',dc',pm',an',cd',ct',sl',rfl,_,_⟩,_⟩:=D.fn;have:=b kV' dc' pm' an' cd' ct' [v] (by rw[hps];rfl);rw[hps]at this;exact .of_eq this
 .obtain⟨f',fd',D',F',_⟩:=ok base hd bl;have e2:=D.mg.symm.trans D'.mg;cases e2;obtain⟨⟨oc',od',kV',dc',pm',an',cd',ct',sl',h1,h2,_⟩,_⟩:=D.fn;obtain⟨⟨oc2,od2,kV2,dc2,pm2,an2,cd2,ct2,sl2,h3,h4,_⟩,_⟩:=D'.fn;have e3:=h2.symm.trans h4;cases e3;rw[hps]at F';exact F'
end L2
namespace L2
open PySem PySem.Spec PyProof.Rows
section
variable{X:Cx}
def Qx:R2:=λx y H Q=>∃a b:Str,x=.str a/\y=.str b/\a.length+b.length<=sizeLine/\Q (.str (a++b)) H
def Tk:OpR X (binaryOp .Add) Qx:=by
 intro pins s σ H x y v u Q I rx ry h;obtain⟨a,b,rfl,rfl,hl,q⟩:=h;obtain⟨t,rfl⟩:=rx;obtain⟨t',rfl⟩:=ry;exact SB.add (λt' k=>⟨.str (a++b),H,I.tok k,⟨_,rfl⟩,q⟩) hl
open Classical in
def Gm:D->D->Hd->Option (D×Hd)
 |.im (.str a),.im (.str b),hd=>if Bh (a.length+b.length)then some (.im (.str (a++b)),hd)else none
 |_,_,_=>none
def SW{K:PySem.W.Frag}:RB K Qx Gm:=by
 intro ρ H hd d e v u Q z hd' hR h1 h2 hf hQ;unfold Gm at hf;split at hf
 .split at hf
  .next c=>
   cases hf;simp only[RD,RI]at h1 h2;subst h1 h2;exact⟨_,_,rfl,rfl,c,hQ ρ H _ .refl hR (by simp[RD,RI])⟩
  .cases hf
 .cases hf
def Fq(a:Str)(l u:Option Int):Str:=Txt.slice a l u
def Pk:V->Option Int->Option Int->Hp->VK->Prop:=λx lo hi H Q=>∃a:Str,x=.str a/\a.length<=sizeLine/\Q (.str (Fq a lo hi)) H
def Ua:SlR X Pk:=by
 intro pins s σ H x v vl vu lo hi sl Q I rx hs pl pu h;obtain⟨a,rfl,hl,q⟩:=h;obtain⟨t,rfl⟩:=rx;refine⟨"str",_,PySem.F.slot_str_getitem.lookup,typeIs_str _ _ _,?_⟩;have key:∀(l u:Option (Int×Tok)),vl=partValue l->vu=partValue u->lo=l.map (·.1)->hi=u.map (·.1)->wpAny (model X.prog X.w) X.A (getItem (.str a t) (.ref sl)) (EP X pins σ Q) X.xe s:=by
  intro l u e1 e2 e3 e4;subst e3 e4;obtain⟨o,h1,h2,h3⟩:=hs;refine wpAny_getItem_str_slice (l:=l) (u:=u) (st:=none) ⟨o,h1,h2,by rw[h3,e1,e2];rfl⟩ rfl ?_;exact post_val_or_str ⟨le_trans (Txt.slice_le a _ _) hl,λt' k=>⟨.str (Fq a _ _),H,I.tok k,⟨_,rfl⟩,q⟩⟩
 cases pl<;>cases pu
 .exact key none none rfl rfl rfl rfl
 .exact key none (some (_,_)) rfl rfl rfl rfl
 .exact key (some (_,_)) none rfl rfl rfl rfl
 .exact key (some (_,_)) (some (_,_)) rfl rfl rfl rfl
open Classical in
def HW(m:ME)(ml mh:MO1):ME:=λls hd=>(m ls hd).bind λp=>(ml ls p.2).bind λl=>(mh ls l.2).bind λh=>match p.1 with
 |.im (.str a)=>if Bh a.length then some (.im (.str (Fq a l.1 h.1)),h.2)else none
 |_=>none
def V3{K:PySem.W.Frag}{t:TE}{tl th:TO}{m:ME}{ml mh:MO1}(h:RE K t m)(hl:RO1 K tl ml)(hh:RO1 K th mh):RE K (tSl Pk t tl th) (HW m ml mh):=by
 and_intros;obtain⟨⟨d1,h1⟩,e1,hm⟩:=ac hm;obtain⟨⟨d2,h2⟩,e2,hm⟩:=ac hm;obtain⟨⟨d3,h3⟩,e3,hm⟩:=ac hm;dsimp only at e2 e3 hm;split at hm
 .split at hm
  .next c=>
   cases hm;refine h ρ σ H hd ls _ _ h1 hR hL e1 λρ1 H1 v1 x1 R1 r1=>?_;refine hl ρ1 σ H1 h1 ls _ d2 h2 R1 (hL.ext hR x1) e2 λρ2 H2 x2 R2=>?_;refine hh ρ2 σ H2 h2 ls _ d3 _ R2 (hL.ext hR (x1.trans R1 x2)) e3 λρ3 H3 x3 R3=>?_;simp only[RD,RI]at r1;subst r1;exact⟨_,rfl,c,hQ ρ3 _ _ ((x1.trans R1 x2).trans R2 x3) R3 (by simp[RD,RI])⟩
  .cases hm
 .cases hm
def Vl(K:PySem.W.Frag){e:Expr}{te:TE}{me:ME}{lo hi:Option Expr}{tl th:TO}{ml mh:MO1}{p2 pos:Pos}(h:QE K X e te me)(hl:QO K X lo tl ml)(hh:QO K X hi th mh):QE K X (.Subscript e (.Slice lo hi none p2) pos) (tSl Pk te tl th) (HW me ml mh):=⟨FZ Ua h.p hl.p hh.p,V3 h.r hl.r hh.r⟩
def GD(a:Str):Str:=⟨((Builtin.Str.strSliceIndices none none (-1) a.length).filterMap (a.cps[·]?)).toArray⟩
def Lh(a:Str):(GD a).length<=a.length:=by
 show((Builtin.Str.strSliceIndices none none (-1) a.length).filterMap (a.cps[·]?)).toArray.size<=_;rw[size_toArray];refine le_trans (List.length_filterMap_le _ _) ?_;unfold Builtin.Str.strSliceIndices sliceRange;simp;split<;>omega
def MU(K:PySem.W.Frag)(te ts:TE):TE:=λσ H Q=>te σ H λx H1=>ts σ H1 λy H2=>y=.int (-1)/\((∃a xs,x=.ref a/\SqT K H2 a xs/\∀p,H2 p=none->Q (.ref p) (upd H2 p (.tup xs.reverse)))∨∃a:Str,x=.str a/\a.length<=sizeLine/\Q (.str (GD a)) H2)
def TY{e stp:Expr}{te ts:TE}{pos p2:Pos}(he:PE X e te)(hs:PE X stp ts):PE X (.Subscript e (.Slice none none (some stp) p2) pos) (MU X.K te ts):=by
 intro pins s σ H Q I h;refine Subscript_ (thn (he pins s σ H _ I h) λv s1 ⟨x,H1,I1,r1,q1⟩=>?_);refine wpAny_Slice ?_;rw[evalPart_none];refine wpAny_pure (wpAny_pure ?_);rw[evalPart_some];refine thn (hs pins s1 σ H1 _ I1 q1) λvs s3 ⟨y,H3,I3,r3,q3⟩=>?_;obtain⟨rfl,q3⟩:=q3;obtain⟨t,rfl⟩:=r3;have I4:Inv X pins σ H3 { s3 with heap:=s3.heap.push { cls:=.type "slice",data:=.fields #[.none,.none,.int (-1) t] } }:=I3.kept (t':=s3.toks) λb ob q=>Heap.get?_push_of_some _ q;rcases q3 with⟨a,xs,rfl,hx,q⟩|⟨a,rfl,hl,q⟩
 .cases r1;obtain⟨its,r,ht,hz⟩:=I4.tuple hx;have hlen:=r.length;have hg:wpAny (model X.prog X.w) X.A (getItem (.ref a) (.ref s3.heap.objs.size)) (EP X pins σ Q) X.xe { s3 with heap:=s3.heap.push { cls:=.type "slice",data:=.fields #[.none,.none,.int (-1) t] } }:=by
   refine HT.getItem_tuple_rev ht (Heap.IsSliceOf.new ..) ?_ (by rw[size_toArray]<;>omega);refine⟨.ref _,_,I4.laid (t':=s3.toks) (o:=.tup xs.reverse) (λb ob q=>Heap.get?_push_of_some _ q) (le_refl _) ?_,rfl,q _ (I4.hok.fresh (le_refl _))⟩;exact⟨by rw[List.length_reverse];exact hz,its.reverse,HE r,IsTupD.new _ _⟩
  show wpAny (model X.prog X.w) X.A (subscriptTail e (.Slice none none (some stp) p2) (.ref a) (.ref s3.heap.objs.size)) (EP X pins σ Q) X.xe { s3 with heap:=s3.heap.push { cls:=.type "slice",data:=.fields #[.none,.none,.int (-1) t] } };exact tail_any (ops:=[.ref a,.ref s3.heap.objs.size]) ht.typeIs PyProof.Rows.slot_tuple_getitem.lookup hg (by with_unfolding_all rfl)
 .obtain⟨t2,rfl⟩:=r1;have hg:wpAny (model X.prog X.w) X.A (getItem (.str a t2) (.ref s3.heap.objs.size)) (EP X pins σ Q) X.xe { s3 with heap:=s3.heap.push { cls:=.type "slice",data:=.fields #[.none,.none,.int (-1) t] } }:=by
   refine wpAny_getItem_str_slice (l:=none) (u:=none) (st:=some (-1,t)) ⟨_,Heap.get?_push_size _ rfl,rfl,rfl⟩ rfl ?_;refine⟨le_trans (Lh a) hl,?_⟩;exact⟨.str (GD a),H3,I4.tok _,⟨_,rfl⟩,q⟩
  show wpAny (model X.prog X.w) X.A (subscriptTail e (.Slice none none (some stp) p2) (.str a t2) (.ref s3.heap.objs.size)) (EP X pins σ Q) X.xe { s3 with heap:=s3.heap.push { cls:=.type "slice",data:=.fields #[.none,.none,.int (-1) t] } };exact tail_any (ops:=[.str a t2,.ref s3.heap.objs.size]) (typeIs_str _ _ _) PySem.F.slot_str_getitem.lookup hg (by with_unfolding_all rfl)
open Classical in
def DU(m ms:ME):ME:=λls hd=>(m ls hd).bind λp=>(ms ls p.2).bind λq=>match q.1,p.1 with
 |.im (.int i),.im (.str a)=>if i=-1/\Bh a.length then some (.im (.str (GD a)),q.2)else none
 |.im (.int i),d=>if i=-1 then(AR d).map λds=>(AK ds.reverse,q.2)else none
 |_,_=>none
def SL{K:PySem.W.Frag}{te ts:TE}{m ms:ME}(h:RE K te m)(hs:RE K ts ms):RE K (MU K te ts) (DU m ms):=by
 and_intros;obtain⟨⟨d1,h1⟩,e1,hm⟩:=ac hm;obtain⟨⟨d2,h2⟩,e2,hm⟩:=ac hm;dsimp only at e2 hm;split at hm
 .split at hm
  .next c=>
   cases hm;obtain⟨rfl,c⟩:=c;refine h ρ σ H hd ls _ _ h1 hR hL e1 λρ1 H1 v1 x1 R1 r1=>?_;refine hs ρ1 σ H1 h1 ls _ _ _ R1 (hL.ext hR x1) e2 λρ2 H2 v x2 R2 r2=>?_;simp only[RD,RI]at r1 r2;subst r1;exact⟨r2,.inr ⟨_,rfl,c,hQ ρ2 _ _ (x1.trans R1 x2) R2 (by simp[RD,RI])⟩⟩
  .cases hm
 .split at hm
  .next hi=>
   obtain⟨ds,e3,e4⟩:=ad hm;cases e4;subst hi;refine h ρ σ H hd ls _ d1 h1 hR hL e1 λρ1 H1 v1 x1 R1 r1=>?_;refine hs ρ1 σ H1 h1 ls _ _ _ R1 (hL.ext hR x1) e2 λρ2 H2 v x2 R2 r2=>?_;simp only[RD,RI]at r2;obtain⟨a,xs,rfl,q,r⟩:=(r1.ext R1 x2).tup e3;refine⟨r2,.inl ⟨a,xs,rfl,q,λp hp=>?_⟩⟩;obtain⟨R3,x3⟩:=R2.hid (ho:=.tup xs.reverse) hp;exact hQ ρ2 _ _ ((x1.trans R1 x2).trans R2 x3) R3 (BZ (SqT.of Ag) ((RDs.rev r).ext R2 x3))
  .cases hm
 .cases hm
def Sw{K:PySem.W.Frag}{e stp:Expr}{te ts:TE}{m ms:ME}{pos p2:Pos}(h:QE K X e te m)(hs:QE K X stp ts ms)(hK:X.K=K:=by rfl):QE K X (.Subscript e (.Slice none none (some stp) p2) pos) (MU K te ts) (DU m ms):=by
 subst hK;exact⟨TY h.p hs.p,SL h.r hs.r⟩
def Pj:V->List V->Hp->VK->Prop:=λx vs H Q=>∃a:Str,x=.str a/\vs=[]/\a.length<=5592405/\Q (.str (Txt.upper a)) H
def Wj:MtR X "str.upper" Pj:=by
 intro pins s σ H x vs v us Q I rx rv h;obtain⟨a,rfl,rfl,hl,q⟩:=h;obtain⟨t,rfl⟩:=rx;cases rv;exact SCL.upper hl λ_=>⟨.str (Txt.upper a),H,I.tok _,⟨_,rfl⟩,q⟩
def HV(m:ME):ME:=λls hd=>(m ls hd).bind λp=>match p.1 with
 |.im (.str a)=>if a.length<=5592405 then some (.im (.str (Txt.upper a)),p.2)else none
 |_=>none
def V0{K:PySem.W.Frag}{t:TE}{m:ME}(h:RE K t m):RE K (PK K "str" Pj t) (HV m):=by
 and_intros;obtain⟨⟨d1,h1⟩,e1,hm⟩:=ac hm;dsimp only at hm;split at hm
 .split at hm
  .next c=>
   cases hm;refine h ρ σ H hd ls _ _ _ hR hL e1 λρ1 H1 v1 x1 R1 r1=>?_;simp only[RD,RI]at r1;subst r1;exact⟨rfl,_,rfl,rfl,c,hQ ρ1 _ _ x1 R1 (by simp[RD,RI])⟩
  .cases hm
 .cases hm
def Vh(K:PySem.W.Frag){o:Expr}{to:TE}{mo:ME}{apos cpos:Pos}(ho:QE K X o to mo)
 (hbase:attributeBase o "upper" X.env (eval o X.env)=eval o X.env:=by rfl) (hline:(apos.endLine==cpos.line)=true:=by rfl) (hK:X.K=K:=by rfl):QE K X (.Call (.Attribute o "upper" apos) [] [] cpos) (PK K "str" Pj to) (HV mo):=by
 subst hK;exact⟨WV PySem.F.plainAttrs_str PySem.F.slot_str_upper PySem.F.type_str_upper Wj ho.p hbase hline,V0 ho.r⟩
end
def EB{α:Type}:List (Option α)->Option (List α)
 |[]=>some []
 |some x::r=>(EB r).map (x::·)
 |none::_=>none
def pyN:Nat->Hd->D->Option PyData
 |_,_,.im i=>some i.py
 |_,_,.ro ns=>some (.list (I.pys (ns.map I.int)))
 |0,_,_=>none
 |n+1,hd,.tm ds=>(EB (ds.map (pyN n hd))).map .tuple
 |n+1,hd,.mu k=>match hd[k]? with
  |some (.lst ds)=>(EB (ds.map (pyN n hd))).map .list
  |_=>none
section
variable{K:PySem.W.Frag}{ρ:List Addr}{H:Hp}{hd:Hd}
def Hi{f:D->Option PyData}(hf:∀d v p,RD K ρ H d v->f d=some p->Rep K H p v):∀{ds:List D} {xs:List V} {ps:List PyData},RDs K ρ H ds xs->EB (ds.map f)=some ps->Bp K H ps xs
 |[],xs,ps,r,e=>by
  simp only[RDs]at r;subst r;simp[EB]at e;subst e;simp only[Bp]
 |d::ds,xs,ps,r,e=>by
  simp only[RDs]at r;obtain⟨x,r',rfl,h1,h2⟩:=r;rw[map_cons]at e;cases q:f d with
  |none=>rw[q]at e;cases e
  |some p=>
   rw[q]at e;obtain⟨ps',e1,rfl⟩:=ad (show(EB (ds.map f)).map (p::·)=some ps from e);simp only[Bp];exact⟨x,r',rfl,hf d x p h1 q,Hi hf h2 e1⟩
def Dg(hR:RH K ρ H hd):∀(n:Nat) (d:D) (v:V) (p:PyData),RD K ρ H d v->pyN n hd d=some p->Rep K H p v
 |n,.im i,v,p,h,e=>Dh (hd:=hd) hR h (by cases n<;>exact e)
 |n,.ro ns,v,p,h,e=>Dh (hd:=hd) hR h (by cases n<;>exact e)
 |0,.tm ds,v,p,h,e=>by cases e
 |0,.mu k,v,p,h,e=>by cases e
 |n+1,.tm ds,v,p,h,e=>by
  simp only[RD]at h;obtain⟨a,xs,rfl,q,r⟩:=h;obtain⟨ps,e1,rfl⟩:=ad (show(EB (ds.map (pyN n hd))).map PyData.tuple=some p from e);simp only[Rep];exact⟨a,xs,rfl,q,Hi (λd v p=>Dg hR n d v p) r e1⟩
 |n+1,.mu k,v,p,h,e=>by
  simp only[pyN]at e;simp only[RD]at h;obtain⟨a,hn,rfl⟩:=h;split at e
  .next ds q=>
   obtain⟨ps,e1,rfl⟩:=ad e;obtain⟨xs,e2,e3⟩:=hR.lst hn q;simp only[Rep];exact⟨a,xs,rfl,SqL.of e2,Hi (λd v p=>Dg hR n d v p) e3 e1⟩
  .cases e
end
def C7(neg:Bool):D->D->Hd->Option (D×Hd):=λd e hd=>match pyN 30 hd d,pyN 30 hd e with
 |some x,some y=>if x.canLay0=true/\y.canLay0=true/\min x.depth y.depth<=60 then some (.im (.bl (if neg then !PyData.eqv x y else PyData.eqv x y)),hd)else none
 |_,_=>none
def O1{K:PySem.W.Frag}:RB K (Mt K) (C7 false):=by
 intro ρ H hd d e v u Q z hd' hR h1 h2 hf hQ;unfold C7 at hf;split at hf
 .next e1 e2=>
  split at hf
  .next c=>cases hf;exact⟨_,_,Dg hR _ _ _ _ h1 e1,Dg hR _ _ _ _ h2 e2,c.1,c.2.1,c.2.2,hQ ρ H _ .refl hR (by simp[RD,RI])⟩
  .cases hf
 .cases hf
def VF{K:PySem.W.Frag}:RB K (Ms K) (C7 true):=by
 intro ρ H hd d e v u Q z hd' hR h1 h2 hf hQ;unfold C7 at hf;split at hf
 .next e1 e2=>
  split at hf
  .next c=>cases hf;exact⟨_,_,Dg hR _ _ _ _ h1 e1,Dg hR _ _ _ _ h2 e2,c.1,c.2.1,c.2.2,hQ ρ H _ .refl hR (by simp[RD,RI])⟩
  .cases hf
 .cases hf
open Classical in
def Em:List D->Hd->Option (D×Hd)
 |[d],hd=>match pyN 30 hd d with
  |some p=>if Ee p then some (.im (.str p.shown),hd)else none
  |none=>none
 |_,_=>none
def Pa{K:PySem.W.Frag}:RF K (IE K) Em:=by
 intro ρ H hd ds vs Q z hd' hR h1 hf hQ;unfold Em at hf;split at hf
 .split at hf
  .next p e=>
   split at hf
   .next c=>
    cases hf;simp only[RDs]at h1;obtain⟨x,r,rfl,rx,rfl⟩:=h1;exact⟨x,p,rfl,Dg hR _ _ _ _ rx e,c.1,c.2.1,c.2.2.1,c.2.2.2.1,c.2.2.2.2,hQ ρ H _ .refl hR (by simp[RD,RI])⟩
   .cases hf
  .cases hf
 .cases hf
section
variable{hd:Hd}{QE:D->Hd->Prop}{ls:Ls}{ma mb:ME}
def Rb{a b:Str}(h:a.length+b.length<=1000000)(q:QE (.im (.str (a++b))) hd):WP (Gm (.im (.str a)) (.im (.str b)) hd) QE:=⟨_,_,if_pos (AM h),q⟩
def UO{ml mh:MO1}(h:WE ma ls hd λd x=>WO ml ls x λl y=>WO mh ls y λu z=>∃a:Str,d=.im (.str a)/\a.length<=1000000/\QE (.im (.str (Fq a l u))) z):WE (HW ma ml mh) ls hd QE:=by
 obtain⟨d,x,e1,l,y,e2,u,z,e3,a,rfl,c,q⟩:=h;exact⟨_,_,by simp only[HW,e1,bind_some,e2,e3,AM c,if_true],q⟩
def Rg(h:WE ma ls hd λd x=>WE mb ls x λi y=>i=.im (.int (-1))/\∃a:Str,d=.im (.str a)/\a.length<=1000000/\QE (.im (.str (GD a))) y):WE (DU ma mb) ls hd QE:=by
 obtain⟨d,x,e1,i,y,e2,rfl,a,rfl,c,q⟩:=h;exact⟨_,_,by simp only[DU,e1,bind_some,e2,AM c,and_self,if_true],q⟩
def Rh(h:WE ma ls hd λd x=>WE mb ls x λi y=>i=.im (.int (-1))/\∃ds,AR d=some ds/\QE (AK ds.reverse) y):WE (DU ma mb) ls hd QE:=by
 obtain⟨d,x,e1,i,y,e2,rfl,ds,e3,q⟩:=h;refine⟨_,_,?_,q⟩;unfold DU;rw[e1,bind_some];dsimp only;rw[e2,bind_some];cases d with
 |im i=>cases i with
  |tup is=>exact(if_pos rfl).trans (by rw[e3];rfl)
  |_=>cases e3
 |tm es=>exact(if_pos rfl).trans (by rw[e3];rfl)
 |mu k=>cases e3
 |ro ns=>cases e3
def UN(h:WE ma ls hd λd x=>∃a:Str,d=.im (.str a)/\a.length<=1000000/\QE (.im (.str (Txt.upper a))) x):WE (HV ma) ls hd QE:=by
 obtain⟨d,x,e1,a,rfl,c,q⟩:=h;exact⟨_,_,by simp only[HV,e1,bind_some];rw[if_pos (by omega)],q⟩
def K6{neg:Bool}{d e:D}{x y:PyData}(h1:pyN 30 hd d=some x)(h2:pyN 30 hd e=some y)(c:x.canLay0=true/\y.canLay0=true/\min x.depth y.depth<=60)(q:QE (.im (.bl (if neg then !PyData.eqv x y else PyData.eqv x y))) hd):WP (C7 neg d e hd) QE:=⟨_,_,by unfold C7;rw[h1,h2];dsimp only;rw[if_pos c],q⟩
def HD{d:D}{p:PyData}(h1:pyN 30 hd d=some p)(c:Ee p)(q:QE (.im (.str p.shown)) hd):WP (Em [d] hd) QE:=⟨_,_,by show(match pyN 30 hd d with|some p=>_|none=>_)=_;rw[h1];exact if_pos c,q⟩
end
end L2
namespace L2
open PySem PySem.Spec PyProof.Rows PySem.W
def O3(K:PySem.W.Frag):List V->Hp->VK->Prop:=λxs H Q=>(xs=[.non]/\Q (.str "None") H)∨Kb xs H Q∨(∃i,xs=[.int i]/\i.natAbs.log2<1920/\Q (.str (toString i)) H)∨(∃x,xs=[.str x]/\(reprText x).length<=sizeLine/\Q (.str (reprText x)) H)∨IE K xs H Q
def NP(K:PySem.W.Frag){X:Cx}(hg:X.A.guards=some [])(hu:X.A.units+64<cLine)(hK:X.K=K:=by rfl):CallR X (.builtin "repr") (O3 K):=by
 intro pins s σ H xs us Q I r h;rcases h with⟨rfl,q⟩|h|h|⟨x,rfl,hx,q⟩|h
 .obtain⟨u,rfl,ru⟩:=C1 r;cases ru;exact PySem.P.repr_of_none ⟨.str "None",H,I.tok _,⟨_,rfl⟩,q⟩
 .exact NO pins s σ H xs us Q I r h
 .exact NM pins s σ H xs us Q I r h
 .obtain⟨u,rfl,ru⟩:=C1 r;obtain⟨t,rfl⟩:=ru;exact PySem.P.repr_of_str ⟨.str (reprText x),H,I.tok _,⟨_,rfl⟩,q⟩ hx
 .exact HC K hg hu hK pins s σ H xs us Q I r h
open Classical in
def Av:List D->Hd->Option (D×Hd)
 |[.im .non],hd=>some (.im (.str "None"),hd)
 |[.im (.bl k)],hd=>Kw [.im (.bl k)] hd
 |[.im (.int i)],hd=>GP [.im (.int i)] hd
 |[.im (.str x)],hd=>if(reprText x).length<=sizeLine then some (.im (.str (reprText x)),hd)else none
 |ds,hd=>Em ds hd
def Pd{K:PySem.W.Frag}:RF K (O3 K) Av:=by
 intro ρ H hd ds vs Q z hd' hR h1 hf hQ;unfold Av at hf;split at hf
 .cases hf;simp only[RDs,RD,RI]at h1;obtain⟨x,r,rfl,rfl,rfl⟩:=h1;exact .inl ⟨rfl,hQ ρ H _ .refl hR (by simp[RD,RI])⟩
 .exact .inr (.inl (Pc ρ H _ _ _ Q z hd' hR h1 hf hQ))
 .exact .inr (.inr (.inl (Pb ρ H _ _ _ Q z hd' hR h1 hf hQ)))
 .split at hf
  .next c=>
   cases hf;simp only[RDs,RD,RI]at h1;obtain⟨x,r,rfl,rfl,rfl⟩:=h1;exact .inr (.inr (.inr (.inl ⟨_,rfl,c,hQ ρ H _ .refl hR (by simp[RD,RI])⟩)))
  .cases hf
 .exact .inr (.inr (.inr (.inr (Pa ρ H _ _ _ Q z hd' hR h1 hf hQ))))
def FN(md my mx:ME):ME:=λls hd=>(md ls hd).bind λp=>(By p.2 p.1).bind λ_=>(my ls p.2).bind λq=>(mx ls q.2).bind λr=>(By r.2 p.1).bind λkvs=>(DH q.1).map λk=>((Bi kvs k).getD r.1,r.2)
section
variable{K:PySem.W.Frag}
def Pe{td ty tx:TE}{md my mx:ME}(hd:RE K td md)(hy:RE K ty my)(hx:RE K tx mx):RE K (KF td ty tx) (FN md my mx):=by
 intro ρ σ H hd0 ls Q d hd' hR hL hm hQ;obtain⟨⟨d1,h1⟩,e1,hm⟩:=ac hm;obtain⟨kv0,e0,hm⟩:=ac hm;obtain⟨⟨d2,h2⟩,e2,hm⟩:=ac hm;obtain⟨⟨d3,h3⟩,e3,hm⟩:=ac hm;obtain⟨kvs,e4,hm⟩:=ac hm;obtain⟨k,e5,e6⟩:=ad hm;cases e6;refine hd ρ σ H hd0 ls _ d1 h1 hR hL e1 λρ1 H1 v1 x1 R1 r1=>?_;obtain⟨n,a,xs,ed,rfl,hn,l1,l2⟩:=RD.dic R1 r1 e0;refine⟨a,rfl,.inl ⟨xs,.inl l1⟩,?_⟩;refine hy ρ1 σ H1 h1 ls _ d2 _ R1 (hL.ext hR x1) e2 λρ2 H2 v2 x2 R2 r2=>?_;refine hx ρ2 σ H2 h2 ls _ d3 _ R2 (hL.ext hR (x1.trans R1 x2)) e3 λρ3 H3 v3 x3 R3 r3=>?_;obtain⟨n',a',xs',ed',ea',hn',l1',l2'⟩:=RD.dic R3 ((r1.ext R1 x2).ext R2 x3) e4;cases ea';have:=Gi (r2.ext R2 x3) e5;subst this;refine⟨_,DGet.k l1',hQ ρ3 H3 _ ((x1.trans R1 x2).trans R2 x3) R3 ?_⟩;cases e:Bi kvs k with
 |some w=>
  obtain⟨v,hv,rv⟩:=l2'.val e;rw[hv];exact rv
 |none=>
  have q:=l2'.valN (k:=k);rw[e]at q;cases hv:DO xs' k with
  |some _=>rw[hv]at q;cases q
  |none=>exact r3
def Pw(K:PySem.W.Frag){X:Cx}{o e f:Expr}{apos cpos:Pos}{td ty tx:TE}{md my mx:ME}(hu:X.A.units+1<cLine)(ho:QE K X o td md)(he:QE K X e ty my)(hf:QE K X f tx mx)(m1:attributeBase o "get" X.env (eval o X.env)=eval o X.env:=by rfl)
 (m2:((backTo cpos (starEach [e,f] X.env)).all (λx=>!x.1)&&(backToKw cpos (keywordEach [] X.env)).all (λx=>x.1.isSome)&&decide (([e,f]:List Expr).length+([]:List Keyword).length+(if([]:List Keyword).isEmpty then 0 else 1)<30))=true:=by rfl)
 (m3:(apos.endLine==cpos.line)=true:=by rfl) (m4:backTo cpos (starEach [e,f] X.env)=[(false,eval e X.env),(false,eval f X.env)]:=by rfl):QE K X (.Call (.Attribute o "get" apos) [e,f] [] cpos) (KF td ty tx) (FN md my mx):=⟨Q5 hu ho.p he.p hf.p ⟨m1,m2,m3,m4⟩,Pe ho.r he.r hf.r⟩
end
def Ou{md my mx:ME}{ls:Ls}{hd:Hd}{Q:D->Hd->Prop}(h:WE md ls hd λd x=>(∃kv,By x d=some kv)/\WE my ls x λe y=>WE mx ls y λf z=>∃kvs k,By z d=some kvs/\DH e=some k/\Q ((Bi kvs k).getD f) z):WE (FN md my mx) ls hd Q:=by
 obtain⟨d,x,e1,⟨kv,e0⟩,e,y,e2,f,z,e3,kvs,k,e4,e5,q⟩:=h;exact⟨_,_,by simp only[FN,e1,bind_some,e0,e2,e3,e4,e5,map_some],q⟩
end L2
namespace An
open PySem L2 Bd
inductive Tv where
 |non|bl (b:Bool)|int (i:Int)|str (x:Str)|tup (l:List Tv)|lst (l:List Tv)
mutual
def Is(n:Nat)(hd:Hd):Tv->D->Prop
 |.non,d=>d=.im .non
 |.bl b,d=>d=.im (.bl b)
 |.int i,d=>d=.im (.int i)
 |.str x,d=>d=.im (.str x)
 |.tup ts,d=>∃ds,d=AK ds/\Iss n hd ts ds
 |.lst ts,d=>∃k ds,d=.mu k/\2<=k/\k<n/\hd[k]?=some (.lst ds)/\Iss n hd ts ds
def Iss(n:Nat)(hd:Hd):List Tv->List D->Prop
 |[],ds=>ds=[]
 |t::ts,ds=>∃d r,ds=d::r/\Is n hd t d/\Iss n hd ts r
end
section
variable{n n':Nat}{hd hd':Hd}
mutual
def Is.mono(hn:n<=n')(hk:∀k,2<=k->k<n->hd'[k]?=hd[k]?):∀{t:Tv} {d:D},Is n hd t d->Is n' hd' t d
 |.non,d,h=>by simpa only[Is]using h
 |.bl b,d,h=>by simpa only[Is]using h
 |.int i,d,h=>by simpa only[Is]using h
 |.str x,d,h=>by simpa only[Is]using h
 |.tup ts,d,h=>by
  simp only[Is]at h ⊢;obtain⟨ds,e,q⟩:=h;exact⟨ds,e,Iss.mono hn hk q⟩
 |.lst ts,d,h=>by
  simp only[Is]at h ⊢;obtain⟨k,ds,e,k2,kn,e2,q⟩:=h;exact⟨k,ds,e,k2,lt_of_lt_of_le kn hn,(hk k k2 kn).trans e2,Iss.mono hn hk q⟩
def Iss.mono(hn:n<=n')(hk:∀k,2<=k->k<n->hd'[k]?=hd[k]?):∀{ts:List Tv} {ds:List D},Iss n hd ts ds->Iss n' hd' ts ds
 |[],ds,h=>by simpa only[Iss]using h
 |t::ts,ds,h=>by
  simp only[Iss]at h ⊢;obtain⟨d,r,e,q,z⟩:=h;exact⟨d,r,e,Is.mono hn hk q,Iss.mono hn hk z⟩
end
def Iss.len:∀{ts:List Tv} {ds:List D},Iss n hd ts ds->ds.length=ts.length
 |[],ds,h=>by simp only[Iss]at h;subst h;rfl
 |t::ts,ds,h=>by
  simp only[Iss]at h;obtain⟨d,r,rfl,q,z⟩:=h;simp[Iss.len z]
def Iss.app:∀{ts us:List Tv} {ds es:List D},Iss n hd ts ds->Iss n hd us es->Iss n hd (ts++us) (ds++es)
 |[],us,ds,es,h,h'=>by simp only[Iss]at h;subst h;simpa using h'
 |t::ts,us,ds,es,h,h'=>by
  simp only[Iss]at h;obtain⟨d,r,rfl,q,z⟩:=h;rw[cons_append,cons_append];simp only[Iss];exact⟨d,r++es,rfl,q,z.app h'⟩
def Iss.nil:Iss n hd [] []:=by simp only[Iss]
def Iss.cons{t:Tv}{ts:List Tv}{d:D}{ds:List D}(h:Is n hd t d)(r:Iss n hd ts ds):Iss n hd (t::ts) (d::ds):=by simp only[Iss];exact⟨d,ds,rfl,h,r⟩
def Iss.one{t:Tv}{d:D}(h:Is n hd t d):Iss n hd [t] [d]:=.cons h .nil
def Iss.drop:∀(k:Nat) {ts:List Tv} {ds:List D},Iss n hd ts ds->Iss n hd (ts.drop k) (ds.drop k)
 |0,ts,ds,h=>by simpa using h
 |k+1,[],ds,h=>by simp only[Iss]at h;subst h;simpa using Iss.nil
 |k+1,t::ts,ds,h=>by
  simp only[Iss]at h;obtain⟨d,r,rfl,q,z⟩:=h;simpa using Iss.drop k z
def Iss.take:∀(k:Nat) {ts:List Tv} {ds:List D},Iss n hd ts ds->Iss n hd (ts.take k) (ds.take k)
 |0,ts,ds,h=>by simpa using Iss.nil
 |k+1,[],ds,h=>by simp only[Iss]at h;subst h;simpa using Iss.nil
 |k+1,t::ts,ds,h=>by
  simp only[Iss]at h;obtain⟨d,r,rfl,q,z⟩:=h;simpa using Iss.cons q (Iss.take k z)
def Iss.rev:∀{ts:List Tv} {ds:List D},Iss n hd ts ds->Iss n hd ts.reverse ds.reverse
 |[],ds,h=>by simp only[Iss]at h;subst h;simpa using Iss.nil
 |t::ts,ds,h=>by
  simp only[Iss]at h;obtain⟨d,r,rfl,q,z⟩:=h;rw[reverse_cons,reverse_cons];exact z.rev.app (.one q)
def Iss.get:∀{ts:List Tv} {ds:List D} {k:Nat} {t:Tv},Iss n hd ts ds->ts[k]?=some t->∃d,ds[k]?=some d/\Is n hd t d
 |[],ds,k,t,h,e=>by simp at e
 |u::ts,ds,0,t,h,e=>by
  simp only[Iss]at h;obtain⟨d,r,rfl,q,z⟩:=h;simp at e;subst e;exact⟨d,rfl,q⟩
 |u::ts,ds,k+1,t,h,e=>by
  simp only[Iss]at h;obtain⟨d,r,rfl,q,z⟩:=h;exact Iss.get (k:=k) z (by simpa using e)
def Iss.tup{ts:List Tv}{ds:List D}(h:Iss n hd ts ds):Is n hd (.tup ts) (AK ds):=by simp only[Is];exact⟨ds,rfl,h⟩
def Is.view{ts:List Tv}{d:D}(h:Is n hd (.tup ts) d):∃ds,AR d=some ds/\Iss n hd ts ds:=by
 simp only[Is]at h;obtain⟨ds,rfl,q⟩:=h;exact⟨ds,AD ds,q⟩
def ty(T:Ty):Tv->Bool
 |.non=>false
 |.bl _=>decide (T=.int∨T=.bool)
 |.int _=>decide (T=.int)
 |.str _=>decide (T=.str)
 |.tup _=>decide (T=.tuple)
 |.lst _=>decide (T=.list)
def Is.isD{t:Tv}{d:D}(T:Ty)(h:Is n hd t d):isD T hd d=some (ty T t):=by
 cases t with
 |non=>simp only[Is]at h;subst h;rfl
 |bl b=>simp only[Is]at h;subst h;rfl
 |int b=>simp only[Is]at h;subst h;rfl
 |str b=>simp only[Is]at h;subst h;rfl
 |tup ts=>
  simp only[Is]at h;obtain⟨ds,rfl,q⟩:=h;unfold AK;cases BP ds<;>rfl
 |lst ts=>
  simp only[Is]at h;obtain⟨k,ds,rfl,_,_,e,_⟩:=h;simp[L2.isD,e,ty]
mutual
def pyT:Tv->PyData
 |.non=>.none
 |.bl b=>.bool b
 |.int i=>.int i
 |.str x=>.str x
 |.tup ts=>.tuple (F7 ts)
 |.lst ts=>.list (F7 ts)
def F7:List Tv->List PyData
 |[]=>[]
 |t::ts=>pyT t::F7 ts
end
mutual
def Is.py:∀{t:Tv} {i:I},Is n hd t (.im i)->i.py=pyT t
 |.non,i,h=>by simp only[Is]at h;cases h;rfl
 |.bl b,i,h=>by simp only[Is]at h;cases h;rfl
 |.int b,i,h=>by simp only[Is]at h;cases h;rfl
 |.str b,i,h=>by simp only[Is]at h;cases h;rfl
 |.tup ts,i,h=>by
  simp only[Is]at h;obtain⟨ds,e,q⟩:=h;unfold AK at e;cases z:BP ds with
  |none=>rw[z]at e;cases e
  |some is=>
   rw[z]at e;cases e;rw[DI z]at q;rw[I.py,pyT,Iss.pys q]
 |.lst ts,i,h=>by simp only[Is]at h;obtain⟨k,ds,e,_⟩:=h;cases e
def Iss.pys:∀{ts:List Tv} {is:List I},Iss n hd ts (is.map D.im)->I.pys is=F7 ts
 |[],is,h=>by
  simp only[Iss]at h;have:is=[]:=by simpa using h
  subst this;rfl
 |t::ts,is,h=>by
  simp only[Iss]at h;obtain⟨d,r,e,q,z⟩:=h;cases is with
  |nil=>cases e
  |cons i is=>
   rw[map_cons]at e;obtain⟨rfl,rfl⟩:=List.cons.inj e;rw[I.pys,F7,Is.py q,Iss.pys z]
end
mutual
def dep:Tv->Nat
 |.non=>0
 |.bl _=>0
 |.int _=>0
 |.str _=>0
 |.tup ts=>B0 ts+1
 |.lst ts=>B0 ts+1
def B0:List Tv->Nat
 |[]=>0
 |t::ts=>max (dep t) (B0 ts)
end
def DQ(m:Nat)(i:I):pyN m hd (.im i)=some i.py:=by cases m<;>rfl
mutual
def Is.pyN:∀{t:Tv} {d:D} {m:Nat},Is n hd t d->dep t<=m->pyN m hd d=some (pyT t)
 |.non,d,m,h,hm=>by simp only[Is]at h;subst h;exact DQ m _
 |.bl b,d,m,h,hm=>by simp only[Is]at h;subst h;exact DQ m _
 |.int i,d,m,h,hm=>by simp only[Is]at h;subst h;exact DQ m _
 |.str x,d,m,h,hm=>by simp only[Is]at h;subst h;exact DQ m _
 |.tup ts,d,m,h,hm=>by
  have h0:=h;simp only[Is]at h;obtain⟨ds,e,q⟩:=h;cases m with
  |zero=>simp[dep]at hm
  |succ m=>
   unfold AK at e;cases z:BP ds with
   |some is=>rw[z]at e;subst e;rw[DQ,Is.py h0]
   |none=>
    rw[z]at e;subst e;show(EB (ds.map (L2.pyN m hd))).map PyData.tuple=_;rw[Iss.pyN q (by simp[dep]at hm;omega),pyT];rfl
 |.lst ts,d,m,h,hm=>by
  simp only[Is]at h;obtain⟨k,ds,rfl,_,_,e,q⟩:=h;cases m with
  |zero=>simp[dep]at hm
  |succ m=>
   show(match hd[k]? with|some (.lst ds)=>(EB (ds.map (L2.pyN m hd))).map PyData.list|_=>none)=_;rw[e];show(EB (ds.map (L2.pyN m hd))).map PyData.list=_;rw[Iss.pyN q (by simp[dep]at hm;omega),pyT];rfl
def Iss.pyN:∀{ts:List Tv} {ds:List D} {m:Nat},Iss n hd ts ds->B0 ts<=m->EB (ds.map (L2.pyN m hd))=some (F7 ts)
 |[],ds,m,h,hm=>by simp only[Iss]at h;subst h;rfl
 |t::ts,ds,m,h,hm=>by
  simp only[Iss]at h;obtain⟨d,r,rfl,q,z⟩:=h;simp only[B0]at hm;rw[map_cons,Is.pyN q (by omega)];show(EB (r.map (L2.pyN m hd))).map (pyT t::·)=_;rw[Iss.pyN z (by omega),F7];rfl
end
mutual
def Gq(m:Nat):Tv->Prop
 |.non=>True
 |.bl _=>True
 |.int i=>i.natAbs<=m
 |.str x=>∀c∈x.cps.toList,c<128
 |.tup ts=>ts.length+10^60<=m+30/\Gqs m ts
 |.lst ts=>ts.length+10^60<=m+30/\Gqs m ts
def Gqs(m:Nat):List Tv->Prop
 |[]=>True
 |t::ts=>Gq m t/\Gqs m ts
end
mutual
def wt:Tv->Nat
 |.non=>1
 |.bl _=>1
 |.int i=>i.natAbs.log2+2
 |.str x=>x.length+1
 |.tup ts=>wts ts+1
 |.lst ts=>wts ts+1
def wts:List Tv->Nat
 |[]=>0
 |t::ts=>wt t+wts ts
end
def gds_iff{m:Nat}:∀{ts:List Tv},Gqs m ts↔∀t∈ts,Gq m t
 |[]=>by simp[Gqs]
 |t::ts=>by simp[Gqs,gds_iff]
def Bw:∀(ts us:List Tv),wts (ts++us)=wts ts+wts us
 |[],us=>by simp[wts]
 |t::ts,us=>by simp[wts,Bw ts us];omega
def Ep:∀(ts us:List Tv),B0 (ts++us)=max (B0 ts) (B0 us)
 |[],us=>by simp[B0]
 |t::ts,us=>by simp only[cons_append,B0,Ep ts us];omega
def Dl{t:Tv}:∀{ts:List Tv},t∈ts->dep t<=B0 ts
 |u::ts,h=>by
  simp only[B0];rcases mem_cons.mp h with rfl|h
  .omega
  .have:=Dl h;omega
def EQ{ts:List Tv}{k:Nat}(h:∀t∈ts,dep t<=k):B0 ts<=k:=by
 induction ts with
 |nil=>simp[B0]
 |cons t ts ih=>
  simp only[B0];have h1:=h t (by simp);have h2:=ih λu hu=>h u (by simp[hu]);omega
def Ib:∀(ts:List Tv),ts.length<=wts ts
 |[]=>by simp[wts]
 |t::ts=>by
  have:1<=wt t:=by cases t<;>simp[wt]
  have:=Ib ts;simp[wts];omega
def Os{ts us:List Tv}(h:ts.Perm us):wts ts=wts us:=by
 induction h with
 |nil=>rfl
 |cons x _ ih=>simp[wts,ih]
 |swap x y l=>simp[wts];omega
 |trans _ _ a b=>rw[a,b]
mutual
def Gq.mono{m m':Nat}(h:m<=m'):∀{t:Tv},Gq m t->Gq m' t
 |.non,q=>trivial
 |.bl _,q=>trivial
 |.int i,q=>by simp only[Gq]at q ⊢;omega
 |.str x,q=>by simpa only[Gq]using q
 |.tup ts,q=>by simp only[Gq]at q ⊢;exact⟨by omega,Gqs.mono h q.2⟩
 |.lst ts,q=>by simp only[Gq]at q ⊢;exact⟨by omega,Gqs.mono h q.2⟩
def Gqs.mono{m m':Nat}(h:m<=m'):∀{ts:List Tv},Gqs m ts->Gqs m' ts
 |[],q=>trivial
 |t::ts,q=>by simp only[Gqs]at q ⊢;exact⟨Gq.mono h q.1,Gqs.mono h q.2⟩
end
structure OkV(w dp:Nat)(p:PyData):Prop where
 sh:p.showable=true
 lay:p.canLay0=true
 it:p.intsShort 90=true
 dp:p.depth<=dp
 wt:p.weight+1<=w
structure OkVs(w dp:Nat)(p:List PyData):Prop where
 sh:PyData.showableAll p=true
 lay:PyData.canLayAll0 p=true
 it:PyData.intsShortAll 90 p=true
 dp:PyData.depthAll p<=dp
 wt:PyData.weightAll p<=w
def OkV.tup{w dp:Nat}{p:List PyData}(h:OkVs w dp p):OkV (w+1) (dp+1) (.tuple p):=by
 refine⟨?_,?_,?_,?_,?_⟩
 .rw[PyData.showable];exact h.sh
 .rw[PyData.canLay0];exact h.lay
 .rw[PyData.intsShort];exact h.it
 .rw[PyData.depth];have:=h.dp;omega
 .rw[PyData.weight];have:=h.wt;omega
def OkV.lst{w dp:Nat}{p:List PyData}(h:OkVs w dp p):OkV (w+1) (dp+1) (.list p):=by
 refine⟨?_,?_,?_,?_,?_⟩
 .rw[PyData.showable];exact h.sh
 .rw[PyData.canLay0];exact h.lay
 .rw[PyData.intsShort];exact h.it
 .rw[PyData.depth];have:=h.dp;omega
 .rw[PyData.weight];have:=h.wt;omega
def OkVs.nil{w dp:Nat}:OkVs w dp []:=⟨by simp[PyData.showableAll],by simp[PyData.canLayAll0],by simp[PyData.intsShortAll],by simp[PyData.depthAll],by simp[PyData.weightAll]⟩
def OkVs.cons{w w' dp:Nat}{d:PyData}{ds:List PyData}(h:OkV w dp d)(t:OkVs w' dp ds):OkVs (w+w') dp (d::ds):=by
 refine⟨by simp[PyData.showableAll,h.sh,t.sh],by simp[PyData.canLayAll0,h.lay,t.lay],by simp[PyData.intsShortAll,h.it,t.it],?_,?_⟩
 .simp only[PyData.depthAll];exact Nat.max_le.mpr ⟨h.dp,t.dp⟩
 .simp only[PyData.weightAll];have:=h.wt;have:=t.wt;omega
def OkV.mono{w w' dp dp':Nat}{d:PyData}(h:OkV w dp d)(a:w<=w')(b:dp<=dp'):OkV w' dp' d:=⟨h.sh,h.lay,h.it,le_trans h.dp b,le_trans h.wt a⟩
def OkVs.mono{w w' dp dp':Nat}{d:List PyData}(h:OkVs w dp d)(a:w<=w')(b:dp<=dp'):OkVs w' dp' d:=⟨h.sh,h.lay,h.it,le_trans h.dp b,le_trans h.wt a⟩
mutual
def KK:∀{p:PyData},p.intsShort 13=true->p.intsShort 90=true
 |.none,h=>by simp[PyData.intsShort]
 |.bool _,h=>by simp[PyData.intsShort]
 |.str _,h=>by simp[PyData.intsShort]
 |.dict _,h=>by simp[PyData.intsShort]
 |.int i,h=>by
  simp only[PyData.intsShort,decide_eq_true_eq]at h ⊢;omega
 |.list xs,h=>by simp only[PyData.intsShort]at h ⊢;exact G9 h
 |.tuple xs,h=>by simp only[PyData.intsShort]at h ⊢;exact G9 h
def G9:∀{p:List PyData},PyData.intsShortAll 13 p=true->PyData.intsShortAll 90 p=true
 |[],h=>by simp[PyData.intsShortAll]
 |x::xs,h=>by
  simp only[PyData.intsShortAll,Bool.and_eq_true]at h ⊢;exact⟨KK h.1,G9 h.2⟩
end
def OkV.of{w dp:Nat}{p:PyData}(h:OkP w dp p):OkV (w+1) dp p:=⟨h.sh,h.lay,KK h.it,h.dp,by have:=h.wt;omega⟩
def OkV.repr{w dp:Nat}{p:PyData}(h:OkV w dp p)(hd:PyProof.Rows.isDisplay p=true)(h1:dp<=30)(h2:w<=100000):Ee p:=by
 refine⟨h.sh,PyData.hasDict_of_canLay p h.lay,hd,le_trans h.dp h1,?_⟩;have:=PyData.shown_le 90 (by decide) p (PyData.leavesShort_of_canLay0 90 p h.lay h.it);have hw:=h.wt;rw[sizeLine_eq];omega
mutual
def Gq.ok{m:Nat}(hm:m<=10^70):∀{t:Tv},Gq m t->OkV (wt t) (dep t) (pyT t)
 |.non,q=>⟨by simp[pyT,PyData.showable],by simp[pyT,PyData.canLay0],by simp[pyT,PyData.intsShort],by simp[pyT,PyData.depth],by simp[pyT,PyData.weight,wt]⟩
 |.bl _,q=>⟨by simp[pyT,PyData.showable],by simp[pyT,PyData.canLay0],by simp[pyT,PyData.intsShort],by simp[pyT,PyData.depth],by simp[pyT,PyData.weight,wt]⟩
 |.int i,q=>by
  simp only[Gq]at q;have h1:i.natAbs<10^71:=lt_of_le_of_lt (le_trans q hm) (by decide);have h0:i.natAbs<2^240:=lt_of_lt_of_le h1 (by decide);have lg:i.natAbs.log2<240:=by
   by_cases z:i.natAbs=0
   .rw[z];decide
   .exact(log2_lt z).mpr h0
  refine⟨?_,by simp[pyT,PyData.canLay0],?_,by simp[pyT,PyData.depth],?_⟩
  .simp only[pyT,PyData.showable];exact decide_eq_true (by omega)
  .simp only[pyT,PyData.intsShort,PyData.shown];refine decide_eq_true ?_;have h2:=int_text_length_le10 (a:=i) (k:=71) (by decide) h1;rw[PySem.ofString_length];omega
  .simp only[pyT,PyData.weight,wt];split<;>omega
 |.str x,q=>by
  simp only[Gq]at q;refine⟨by simp[pyT,PyData.showable],?_,by simp[pyT,PyData.intsShort],by simp[pyT,PyData.depth],by simp only[pyT,PyData.weight,wt];exact le_refl _⟩;simp only[pyT,PyData.canLay0,PyData.strOk];rw[Array.all_eq_true'];intro c hc;have:=q c (by simpa using hc);simp;omega
 |.tup ts,q=>by
  simp only[Gq]at q;rw[pyT,wt,dep];exact .tup (Gqs.ok hm q.2)
 |.lst ts,q=>by
  simp only[Gq]at q;rw[pyT,wt,dep];exact .lst (Gqs.ok hm q.2)
def Gqs.ok{m:Nat}(hm:m<=10^70):∀{ts:List Tv},Gqs m ts->OkVs (wts ts) (B0 ts) (F7 ts)
 |[],q=>.nil
 |t::ts,q=>by
  simp only[Gqs]at q;rw[F7,wts,B0];exact .cons ((Gq.ok hm q.1).mono (le_refl _) (by omega)) ((Gqs.ok hm q.2).mono (le_refl _) (by omega))
end
end
end An
namespace An
open PySem L2 Bd
section
variable{n n':Nat}{hd hd':Hd}
mutual
def ofI:I->Tv
 |.non=>.non
 |.bl b=>.bl b
 |.int i=>.int i
 |.str x=>.str x
 |.tup l=>.tup (Ao l)
def Ao:List I->List Tv
 |[]=>[]
 |i::l=>ofI i::Ao l
end
mutual
def AV:∀(i:I),Is n hd (ofI i) (.im i)
 |.non=>by simp only[ofI,Is]
 |.bl _=>by simp only[ofI,Is]
 |.int _=>by simp only[ofI,Is]
 |.str _=>by simp only[ofI,Is]
 |.tup l=>by
  simp only[ofI,Is];exact⟨l.map D.im,(CF l).symm,Ei l⟩
def Ei:∀(l:List I),Iss n hd (Ao l) (l.map D.im)
 |[]=>Iss.nil
 |i::l=>by rw[Ao,map_cons];exact .cons (AV i) (Ei l)
end
def Be:∀l:List I,Ao l=l.map ofI
 |[]=>rfl
 |i::l=>by rw[Ao,Be l];rfl
def tl:Tv->Nat
 |.tup l=>l.length
 |.lst l=>l.length
 |_=>0
structure Bo(m w dp l:Nat)(t:Tv):Prop where
 gd:Gq m t
 wt:wt t<=w
 dp:dep t<=dp
 tl:tl t<=l
def Bo.mono{m w dp l m' w' dp' l':Nat}{t:Tv}(h:Bo m w dp l t)(h1:m<=m')(h2:w<=w')(h3:dp<=dp')(h4:l<=l'):Bo m' w' dp' l' t:=⟨h.gd.mono h1,le_trans h.wt h2,le_trans h.dp h3,le_trans h.tl h4⟩
def Dz{m w dp l:Nat}{ts:List Tv}(h1:∀t∈ts,Gq m t)(h2:wts ts+1<=w)(h3:B0 ts+1<=dp)(h4:ts.length<=l)(h5:ts.length+10^60<=m+30:=by first|omega|(simp only[length_cons,length_nil,length_append];omega)):Bo m w dp l (.tup ts):=⟨by simp only[Gq];exact⟨h5,gds_iff.mpr h1⟩,by simpa only[An.wt]using h2,by simpa only[dep]using h3,by simpa only[An.tl]using h4⟩
def Ia{m w dp l:Nat}{ts:List Tv}(h1:∀t∈ts,Gq m t)(h2:wts ts+1<=w)(h3:B0 ts+1<=dp)(h4:ts.length<=l)(h5:ts.length+10^60<=m+30:=by first|omega|(simp only[length_cons,length_nil,length_append];omega)):Bo m w dp l (.lst ts):=⟨by simp only[Gq];exact⟨h5,gds_iff.mpr h1⟩,by simpa only[An.wt]using h2,by simpa only[dep]using h3,by simpa only[An.tl]using h4⟩
def FV{m w dp l:Nat}{i:Int}(h1:i.natAbs<=m)(h2:i.natAbs.log2+2<=w):Bo m w dp l (.int i):=⟨by simpa only[Gq]using h1,by simpa only[An.wt]using h2,by simp[dep],by simp[An.tl]⟩
def Dc{m w dp l:Nat}{x:Str}(h1:∀c∈x.cps.toList,c<128)(h2:x.length+1<=w):Bo m w dp l (.str x):=⟨by simpa only[Gq]using h1,by simpa only[An.wt]using h2,by simp[dep],by simp[An.tl]⟩
def NR{m w dp l:Nat}{b:Bool}(h2:1<=w):Bo m w dp l (.bl b):=⟨trivial,by simpa only[An.wt]using h2,by simp[dep],by simp[An.tl]⟩
def Of{m w dp l:Nat}(h2:1<=w):Bo m w dp l .non:=⟨trivial,by simpa only[An.wt]using h2,by simp[dep],by simp[An.tl]⟩
def Bo.tup{m w dp l:Nat}{ts:List Tv}(h:Bo m w dp l (.tup ts)):(∀t∈ts,Gq m t)/\wts ts+1<=w/\B0 ts+1<=dp/\ts.length<=l/\ts.length+10^60<=m+30:=by
 have h1:=h.gd;have h2:=h.wt;have h3:=h.dp;have h4:=h.tl;simp only[Gq]at h1;simp only[An.wt]at h2;simp only[dep]at h3;simp only[An.tl]at h4;exact⟨gds_iff.mp h1.2,h2,h3,h4,h1.1⟩
def RW{ts:List Tv}{ds:List D}{r:Int}(h:Iss n hd ts ds)(h0:0<=r)(h1:r<ts.length):∃d t,atI ds r=some d/\t∈ts/\Is n hd t d:=by
 obtain⟨k,rfl⟩:∃k:Nat,r=(k:Int):=⟨r.toNat,by omega⟩
 have hk:k<ts.length:=by omega
 obtain⟨d,e,q⟩:=h.get (List.getElem?_eq_getElem hk);exact⟨d,_,Aj rfl e,List.getElem_mem hk,q⟩
def De(l d k:Nat):HT.sIx l d (some (k:Int))=min k l:=by
 unfold HT.sIx;have h:¬ ((k:Int)<0):=by omega
 simp[h]
def FR(xs:List D)(k:Nat):CB xs none (some (k:Int))=xs.take k:=by
 unfold CB;rw[De,show HT.sIx xs.length 0 none=0 from rfl,List.drop_zero,Nat.sub_zero,<- List.take_eq_take_min]
def GT(xs:List D)(k:Nat):CB xs (some (k:Int)) none=xs.drop k:=by
 unfold CB;rw[De,show HT.sIx xs.length xs.length none=xs.length from rfl,take_of_length_le (by simp)];by_cases h:k<=xs.length
 .rw[Nat.min_eq_left h]
 .rw[Nat.min_eq_right (by omega),List.drop_of_length_le (le_refl _),List.drop_of_length_le (by omega)]
def UA(xs:List D)(k j:Nat)(hj:j=k+2):CB xs (some (k:Int)) (some (j:Int))=(xs.drop k).take 2:=by
 subst hj;unfold CB;rw[De,De];by_cases h:k<=xs.length
 .rw[Nat.min_eq_left h];by_cases h2:k+2<=xs.length
  .rw[Nat.min_eq_left h2,show k+2-k=2 by omega]
  .rw[Nat.min_eq_right (by omega),take_of_length_le (by simp),take_of_length_le (by simp;omega)]
 .rw[List.drop_of_length_le (show xs.length<=min k xs.length by omega),List.drop_of_length_le (show xs.length<=k by omega)];simp
end
section
variable{hd:Hd}{QE:D->Hd->Prop}{d e:D}{xs ys:List D}
def Om(h:AR d=some xs):Ks d e hd=none:=by
 cases d with
 |im i=>cases i with
  |tup is=>rfl
  |_=>cases h
 |tm _=>rfl
 |mu _=>cases h
 |ro _=>cases h
def CO(h1:AR d=some xs)(h2:AR e=some ys)(hn:xs≠[])(hl:xs.length+ys.length<=1000000)(q:QE (AK (xs++ys)) hd):WP (AQ d e hd) QE:=by
 refine⟨_,_,?_,q⟩;show CK Ks EF d e hd=_;unfold CK;rw[Om h1];show EF d e hd=_;unfold EF;rw[h1,bind_some,h2,bind_some,if_pos ⟨hn,AM hl⟩]
def DJ(h1:AR d=some xs)(h2:AR e=some ys)(hl:xs.length+ys.length<=1000000)(q:QE (AK (xs++ys)) hd):WP (CJ d e hd) QE:=by
 by_cases hn:xs=[]
 .subst hn;refine⟨_,_,?_,q⟩;show CK AQ Fk d e hd=_;unfold CK;have:AQ d e hd=none:=by
   show CK Ks EF d e hd=_;unfold CK;rw[Om h1];show EF d e hd=_;unfold EF;rw[h1,bind_some,h2,bind_some,if_neg (λc=>c.1 rfl)]
  rw[this];show Fk d e hd=_;unfold Fk;rw[h1,bind_some,h2,bind_some,if_pos rfl];rfl
 .obtain⟨z,x,e1,q1⟩:=CO (hd:=hd) (QE:=QE) h1 h2 hn hl q;refine⟨z,x,?_,q1⟩;show CK AQ Fk d e hd=_;unfold CK;rw[e1]
def Ie{k:Nat}(hk:k<=1000)(q:QE (.im (.int ((10:Int)^k))) hd):WP (GM (.im (.int 10)) (.im (.int (k:Int))) hd) QE:=by
 have:Jy 10 (k:Int):=⟨by omega,by omega,by decide⟩
 exact⟨_,_,by simp[this],q⟩
end
end An
namespace An
open PySem L2 Bd
abbrev Asc(x:Str):Prop:=∀c∈x.cps.toList,c<128
def UH{x y:Str}(h:Asc x)(k:Asc y):Asc (x++y):=by
 intro c hc;have:c∈(x.cps++y.cps).toList:=hc;rw[Array.toList_append,mem_append]at this;rcases this with q|q
 .exact h c q
 .exact k c q
def U0(x y:Str):(x++y).length=x.length+y.length:=by
 show(x.cps++y.cps).size=_;simp;rfl
def Og{x:Str}(h:Asc x)(L:List Nat):Asc ⟨(L.filterMap (x.cps[·]?)).toArray⟩:=by
 intro c hc;simp only[List.mem_filterMap]at hc;obtain⟨k,_,e⟩:=hc;exact h c (by simpa using Array.mem_of_getElem? e)
def UF{x:Str}(h:Asc x):Asc (GD x):=Og h _
def UG{x:Str}(h:Asc x)(l u:Option Int):Asc (Fq x l u):=by
 unfold Fq Txt.slice;split
 .exact h
 .exact Og h _
def XN(x:Str)(l u:Option Int):(Fq x l u).length<=x.length:=Txt.slice_le x l u
def XU{x:Str}(h:Asc x):Asc (Txt.upper x)/\(Txt.upper x).length=x.length:=by
 rw[PyProof.Rows.upper_ascii h];refine⟨λc hc=>?_,by show(x.cps.map _).size=_;rw[Array.size_map];rfl⟩;simp only[Array.toList_map,mem_map]at hc;obtain⟨b,hb,rfl⟩:=hc;have key:∀b,b<128->PyProof.Rows.up1 b<128:=by decide +kernel
 exact key b (h b hb)
def MB(i:Int):Asc (Str.ofString (toString i)):=by
 intro c hc;refine Classical.byContradiction λz=>?_;exact PyProof.Rows.int_text_free' c ⟨by omega,by omega⟩ i hc
def Lr{i:Int}(h:i.natAbs<10^71):(Str.ofString (toString i)).length<=72:=by
 have h2:=int_text_length_le10 (a:=i) (k:=71) (by decide) h;rw[PySem.ofString_length];exact h2
section
variable{ls:Ls}{hd:Hd}{QE:D->Hd->Prop}{d:D}{ds:List D}{i j k:Nat}
def Ju(h1:ls[i]?=some (some d))(hv:AR d=some ds)(h2:ls[j]?=some (some (.im (.int (k:Int)))))(q:QE (AK (ds.take k)) hd):WE (BF (A4 i) AT (Aa (A4 j))) ls hd QE:=
 ET (A5 h1 (D7 (Bc (A5 h2 ⟨_,rfl,ds,hv,by rw[FR];exact q⟩))))
def Ql(h1:ls[i]?=some (some d))(hv:AR d=some ds)(h2:ls[j]?=some (some (.im (.int (k:Int)))))(q:QE (AK (ds.drop k)) hd):WE (BF (A4 i) (Aa (A4 j)) AT) ls hd QE:=
 ET (A5 h1 (Bc (A5 h2 ⟨_,rfl,D7 ⟨ds,hv,by rw[GT];exact q⟩⟩)))
def UZ(h1:ls[i]?=some (some d))(hv:AR d=some ds)(h2:ls[j]?=some (some (.im (.int (k:Int)))))(q:QE (AK (ds.take (k+1))) hd):WE (BF (A4 i) AT (Aa (mOp AQ (A4 j) (mC (.int 1))))) ls hd QE:=
 ET (A5 h1 (D7 (Bc (AA (A5 h2 (A8 (DN ⟨_,rfl,ds,hv,by rw[show((k:Int)+1)=((k+1:Nat):Int) by omega,FR];exact q⟩)))))))
def KJ{c:Nat}(h1:ls[i]?=some (some d))(hv:AR d=some ds)(h2:ls[j]?=some (some (.im (.int (k:Int)))))(q:QE (AK (ds.drop (k+c))) hd):WE (BF (A4 i) (Aa (mOp AQ (A4 j) (mC (.int (c:Int))))) AT) ls hd QE:=
 ET (A5 h1 (Bc (AA (A5 h2 (A8 (DN ⟨_,rfl,D7 ⟨ds,hv,by rw[show((k:Int)+(c:Int))=((k+c:Nat):Int) by omega,GT];exact q⟩⟩))))))
def UY(h1:ls[i]?=some (some d))(hv:AR d=some ds)(h2:ls[j]?=some (some (.im (.int (k:Int)))))(q:QE (AK ((ds.drop k).take 2)) hd):WE (BF (A4 i) (Aa (A4 j)) (Aa (mOp AQ (A4 j) (mC (.int 2))))) ls hd QE:=
 ET (A5 h1 (Bc (A5 h2 ⟨_,rfl,Bc (AA (A5 h2 (A8 (DN ⟨_,rfl,ds,hv,by rw[show((k:Int)+2)=((k+2:Nat):Int) by omega,UA _ _ _ rfl];exact q⟩))))⟩)))
end
def CW(ts:List Tv)(k:Nat):wts (ts.take k)+wts (ts.drop k)=wts ts:=by rw[<- Bw,List.take_append_drop]
def LU(ts:List Tv):wts ts.reverse=wts ts:=Os (List.reverse_perm ts)
def FU{m w dp l:Nat}{ts us:List Tv}(hm:10^60<=m)(h:Bo m w dp l (.tup ts))(hs:∀u∈us,u∈ts∨Bo (10^60) 200 2 2 u)(hw:wts us<=2*wts ts+200)(hl:us.length<=ts.length+1):Bo (m+1) (2*w+400) (dp+4) (max l 2+1) (.tup us)/\Bo (m+1) (2*w+400) (dp+4) (max l 2+1) (.lst us):=by
 obtain⟨h1,h2,h3,h4⟩:=h.tup;have g:∀t∈us,Gq (m+1) t:=λt ht=>by
  rcases hs t ht with q|q
  .exact(h1 t q).mono (by omega)
  .exact q.gd.mono (by omega)
 have p:B0 us+1<=dp+4:=by
  refine Nat.succ_le_succ (le_trans (EQ (k:=dp+3) λt ht=>?_) (by omega));rcases hs t ht with q|q
  .have:=Dl q;omega
  .have:=q.dp;omega
 exact⟨Dz g (by omega) p (by omega),Ia g (by omega) p (by omega)⟩
def QC(n:Nat):(n+1).log2<=n.log2+1:=by
 by_cases z:n=0
 .subst z;decide
 .have h1:=Nat.lt_log2_self (n:=n);refine Nat.le_of_lt_succ ((log2_lt (by omega)).mpr ?_);rw[Nat.pow_succ];have:2^(n.log2+1)>=n+1:=h1;omega
def Fi{a b:Nat}(h:a<=b):a.log2<=b.log2:=by
 by_cases z:a=0
 .subst z;rw[show Nat.log2 0=0 from by decide];exact zero_le _
 .refine Nat.le_of_lt_succ ((log2_lt z).mpr (lt_of_le_of_lt h ?_));exact Nat.lt_log2_self
end An
namespace L2
open PySem PySem.W PyProof.Rows
def feE{K:PySem.W.Frag}{e:Df}{n:Str}{s:Stmt}(h:Ea.Fe K n s)(hn:e.x=n:=by rfl)(hs:e.st=s:=by rfl):Fe K e:=by subst hn;subst hs;exact h
def zsE{K:PySem.W.Frag}(h:Ea.Zs K):Zs K:=h
end L2
namespace T05
open PySem L2
abbrev Gx:Stmt:=top 1
def KN:FnScope ["thing"] ["thing"] (AH Gx):=BR (by kernel_rfl)
@[reducible] def LP:MS:=(AO (B1 (BU .int (A4 0)) (EE (BU .bool (A4 0)))))
def Bk:FD:=mkF 1 1 LP
abbrev D3:Df:=⟨"is_number",Gx,["thing"],1,Bk⟩
abbrev Eb:Stmt:=top 2
def Gu:FnScope ["least","thing"] ["least","thing"] (AH Eb):=BR (by kernel_rfl)
@[reducible] def HU:MS:=(AO (B1 (AJ Bk (A0 (A4 1) A6)) (mOp gGe (A4 1) (A4 0))))
def Ax:FD:=mkF 2 2 HU
abbrev Bm:Df:=⟨"is_number_from",Eb,["least","thing"],2,Ax⟩
abbrev Fw:Stmt:=top 3
def Im:FnScope ["many","thing"] ["many","thing"] (AH Fw):=BR (by kernel_rfl)
@[reducible] def Jn:MS:=(AO (B1 (BU .tuple (A4 1)) (mOp gEq (mCB (f1 true BA) (A0 (A4 1) A6)) (A4 0))))
def CN:FD:=mkF 2 2 Jn
abbrev DC:Df:=⟨"is_tuple_of",Fw,["many","thing"],1,CN⟩
abbrev La:Stmt:=top 4
def PU:FnScope ["things"] ["things"] (AH La):=BR (by kernel_rfl)
@[reducible] def Tx:MS:=(AO (Bg Eh (BO 2 [] (Iz (DV (A4 0)) (Fg (Fb (A4 0) (Aa (mC (.int 1))) AT))) (HP 2 (DT (Am 0) (DT (Am 1) Ix))) CG (mOp gLt (A4 0) (A4 1)))))
def Gs:FD:=mkF 1 1 Tx
abbrev J7:Df:=⟨"rises",La,["things"],1,Gs⟩
abbrev KP:Stmt:=top 6
def Nm:FnScope ["thing"] ["thing"] (AH KP):=BR (by kernel_rfl)
@[reducible] def Q7:MS:=(AO (B1 (AJ CN (A0 (mC (.int 2)) (A0 (A4 0) A6))) (B1 (AJ Bk (A0 (mOp gIx (A4 0) (mC (.int 0))) A6)) (AJ Ax (A0 (mC (.int 0)) (A0 (mOp gIx (A4 0) (mC (.int 1))) A6))))))
def Fs:FD:=mkF 1 1 Q7
abbrev Hf:Df:=⟨"is_row",KP,["thing"],3,Fs⟩
abbrev JI:Stmt:=top 7
def Mg:FnScope ["thing","amounts"] ["thing"] (AH JI):=BR (by kernel_rfl)
@[reducible] def OH:MS:=(AC (Ar (mOr (Bf (BE (BU .tuple (A4 0)))) (AI (mOp (C7 false) (A4 0) (AL A6))))
 (AO (mC (.bl false)))
 Ae)
 (AC (Ar (Bf (BE (Bg Eh (BO 1 [] (Cb (A4 0)) (Am 0) CG (AJ Fs (A0 (A4 0) A6))))))
  (AO (mC (.bl false)))
  Ae)
 (AC (Ar (Bf (BE (AJ Gs (A0 (Ad (BO 1 [] (Cb (A4 0)) (Am 0) CG (mOp gIx (A4 0) (mC (.int 0))))) A6))))
  (AO (mC (.bl false)))
  Ae)
 (AC (AS 1 (Ad (BO 1 [] (Cb (A4 0)) (Am 0) CG (mOp gIx (A4 0) (mC (.int 1))))))
 (AO (CH false (A4 1) (Dj (DV (A4 1)))))))))
def F4:FD:=mkF 1 2 OH
abbrev GQ:Df:=⟨"is_rows",JI,["thing"],4,F4⟩
abbrev JJ:Stmt:=top 8
def Mh:FnScope ["thing","word"] ["thing"] (AH JJ):=BR (by kernel_rfl)
@[reducible] def OI:MS:=(AC (Ar (mOr (Bf (BE (BU .tuple (A4 0)))) (AI (mOp (C7 false) (A4 0) (AL A6))))
 (AO (mC (.bl false)))
 Ae)
 (AC (AS 1 (mOp gIx (A4 0) (mC (.int 0))))
 (AC (Ar (AI (mOp (C7 false) (A4 1) (mC (.str "late"))))
  (AO (B1 (mOp gEq (mCB (f1 true BA) (A0 (A4 0) A6)) (mC (.int 2))) (AJ Bk (A0 (mOp gIx (A4 0) (mC (.int 1))) A6))))
  Ae)
 (AC (Ar (mOr (AI (mOp (C7 false) (A4 1) (mC (.str "tardy")))) (AI (mOp (C7 false) (A4 1) (mC (.str "miss")))))
  (AO (B1 (mOp gEq (mCB (f1 true BA) (A0 (A4 0) A6)) (mC (.int 3))) (B1 (AJ Bk (A0 (mOp gIx (A4 0) (mC (.int 1))) A6)) (AJ Ax (A0 (mC (.int 0)) (A0 (mOp gIx (A4 0) (mC (.int 2))) A6))))))
  Ae)
 (AC (Ar (AI (mOp (C7 false) (A4 1) (mC (.str "ends"))))
  (AO (B1 (mOp gEq (mCB (f1 true BA) (A0 (A4 0) A6)) (mC (.int 2))) (AJ Ax (A0 (mC (.int 0)) (A0 (mOp gIx (A4 0) (mC (.int 1))) A6)))))
  Ae)
 (AO (B1 (mOp (C7 false) (A4 1) (mC (.str "steps"))) (B1 (mOp gEq (mCB (f1 true BA) (A0 (A4 0) A6)) (mC (.int 2))) (AJ F4 (A0 (mOp gIx (A4 0) (mC (.int 1))) A6))))))))))
def F5:FD:=mkF 1 2 OI
abbrev GR:Df:=⟨"is_cost",JJ,["thing"],5,F5⟩
abbrev JH:Stmt:=top 10
def Mf:FnScope ["thing","length","coming","cost"] ["thing"] (AH JH):=BR (by kernel_rfl)
@[reducible] def OG:MS:=(AC (Ar (Bf (BE (AJ CN (A0 (mC (.int 3)) (A0 (A4 0) A6)))))
 (AO (mC (.bl false)))
 Ae)
 (AC (Hb (A4 0) (HP 3 (DT (Am 1) (DT (Am 2) (DT (Am 3) Ix)))))
 (AO (B1 (AJ Ax (A0 (mC (.int 1)) (A0 (A4 1) A6))) (B1 (AJ Ax (A0 (mC (.int 0)) (A0 (A4 2) A6))) (AJ F5 (A0 (A4 3) A6)))))))
def Cg:FD:=mkF 1 4 OG
abbrev F2:Df:=⟨"is_work",JH,["thing"],6,Cg⟩
abbrev Hz:Stmt:=top 11
def LK:FnScope ["thing"] ["thing"] (AH Hz):=BR (by kernel_rfl)
@[reducible] def N8:MS:=(AC (Ar (mOr (Bf (BE (BU .tuple (A4 0)))) (AI (mOp (C7 false) (A4 0) (AL A6))))
 (AO (mC (.bl false)))
 Ae)
 (AO (Bg Eh (BO 1 [] (Cb (A4 0)) (Am 0) CG (AJ Cg (A0 (A4 0) A6))))))
def C4:FD:=mkF 1 1 N8
abbrev EH:Df:=⟨"is_works",Hz,["thing"],7,C4⟩
abbrev GC:Stmt:=top 12
def Jj:FnScope ["works"] ["works"] (AH GC):=BR (by kernel_rfl)
@[reducible] def Km:MS:=(AO (Bg Hc (BO 1 [] (Cb (A4 0)) (Am 0) CG (mOp gIx (A4 0) (mC (.int 0))))))
def Dd:FD:=mkF 1 1 Km
abbrev Eo:Df:=⟨"all_length",GC,["works"],1,Dd⟩
abbrev Fv:Stmt:=top 13
def Il:FnScope ["works","coming"] ["works"] (AH Fv):=BR (by kernel_rfl)
@[reducible] def Jm:MS:=(AC (AS 1 (mOp gIx (mOp gIx (A4 0) (mC (.int 0))) (mC (.int 1))))
 (AC (Ar (BE (Bg Eh (BO 1 [1] (Cb (A4 0)) (Am 0) CG (mOp gEq (mOp gIx (A4 0) (mC (.int 1))) (A4 1)))))
  (AO (A4 1))
  Ae)
 (AO (mC .non))))
def CM:FD:=mkF 1 2 Jm
abbrev E8:Df:=⟨"same_coming",Fv,["works"],1,CM⟩
abbrev Gw:Stmt:=top 14
def KM:FnScope ["works","j","work"] ["works","j","work"] (AH Gw):=BR (by kernel_rfl)
@[reducible] def LO:MS:=(AO (mOp AQ (mOp CJ (CT (A4 0) AT (Aa (A4 1))) (AL (A0 (A4 2) A6))) (CT (A4 0) (Aa (mOp AQ (A4 1) (mC (.int 1)))) AT)))
def D6:FD:=mkF 3 3 LO
abbrev Ds:Df:=⟨"with_work",Gw,["works","j","work"],1,D6⟩
abbrev Ft:Stmt:=top 15
def Ij:FnScope ["works","j","number"] ["works","j","number"] (AH Ft):=BR (by kernel_rfl)
@[reducible] def Jk:MS:=(AO (AE 0 D6 (A0 (A4 0) (A0 (A4 1) (A0 (AL (A0 (A4 2) (A0 (mOp gIx (mOp gIx (A4 0) (A4 1)) (mC (.int 1))) (A0 (mOp gIx (mOp gIx (A4 0) (A4 1)) (mC (.int 2))) A6)))) A6)))))
def DD:FD:=mkF 3 3 Jk
abbrev E6:Df:=⟨"with_length",Ft,["works","j","number"],2,DD⟩
abbrev Fu:Stmt:=top 16
def Ik:FnScope ["works","j","number"] ["works","j","number"] (AH Fu):=BR (by kernel_rfl)
@[reducible] def Jl:MS:=(AO (AE 0 D6 (A0 (A4 0) (A0 (A4 1) (A0 (AL (A0 (mOp gIx (mOp gIx (A4 0) (A4 1)) (mC (.int 0))) (A0 (A4 2) (A0 (mOp gIx (mOp gIx (A4 0) (A4 1)) (mC (.int 2))) A6)))) A6)))))
def DE:FD:=mkF 3 3 Jl
abbrev E7:Df:=⟨"with_coming",Fu,["works","j","number"],2,DE⟩
abbrev Nn:Stmt:=top 18
def Ru:FnScope ["_law_script"] ["_law_script"] (AH Nn):=BR (by kernel_rfl)
@[reducible] def aZ:MS:=(AO (Fh [((mC (.str "cells")),(Ad (FM (Fb (A4 0) AT (Aa (mC (.int 63))))))),((mC (.str "next")),(mC (.int 0))),((mC (.str "left")),(mC (.int 0))),((mC (.str "turn")),(mC (.int 0)))]))
def F_tape:FD:=mkF 1 1 aZ
abbrev Kz:Df:=⟨"_law_tape",Nn,["_law_script"],1,F_tape⟩
abbrev No:Stmt:=top 19
def Rv:FnScope ["_law_tape_here","_law_many","_law_found","_law_cells","_law_at","_law_turn","_law_cell","_law_mixed"] ["_law_tape_here","_law_many"] (AH No):=BR (by kernel_rfl)
@[reducible] def aa:MS:=(AC (DB (A4 0) (mC (.str "turn")) (mOp AQ (mOp Bv (A4 0) (mC (.str "turn"))) (mC (.int 1))))
 (AC (Ar (AI (mOp gGt (mOp Bv (A4 0) (mC (.str "left"))) (mC (.int 0))))
  (AC (AS 2 (mOp CV (mOp Bv (A4 0) (mC (.str "left"))) (A4 1)))
 (AC (DB (A4 0) (mC (.str "left")) (mOp Ey (mOp Bv (A4 0) (mC (.str "left"))) (A4 1)))
 (AO (A4 2))))
  Ae)
 (AC (IJ 3 4 5 (A0 (mOp Bv (A4 0) (mC (.str "cells"))) (A0 (mOp Bv (A4 0) (mC (.str "next"))) (A0 (mOp Bv (A4 0) (mC (.str "turn"))) A6))))
 (AC (AS 6 (mIf (AI (CH true (A4 3) (Aq A6))) (mOp gIx (A4 3) (mOp CV (A4 4) (mCB (f1 true BA) (A0 (A4 3) A6)))) (mC (.int 23))))
 (AC (DB (A4 0) (mC (.str "next")) (mOp AQ (A4 4) (mC (.int 1))))
 (AC (Ar (Eg (AI (mOp gGe (A4 6) (mOp GM (mC (.int 10)) (mC (.int 18))))) (AI (mOp gLt (A4 4) (mCB (f1 true BA) (A0 (A4 3) A6)))))
  (AC (DB (A4 0) (mC (.str "left")) (mOp Ey (A4 6) (A4 1)))
 (AO (mOp CV (A4 6) (A4 1))))
  Ae)
 (AC (AS 7 (mOp CV (mOp AQ (mOp AQ (mOp CV (A4 6) (mC (.int 2147483587))) (mOp DY (mC (.int 104729)) (A4 5))) (mC (.int 17))) (mC (.int 2147483629))))
 (AC (AS 7 (mOp CV (mOp AQ (mOp DY (A4 7) (A4 7)) (mOp DY (mC (.int 48271)) (A4 5))) (mC (.int 2147483647))))
 (AC (AS 7 (mOp CV (mOp AQ (mOp AQ (mOp DY (A4 7) (A4 7)) (mOp DY (mC (.int 7919)) (A4 7))) (A4 5)) (mC (.int 2147483629))))
 (AO (mOp CV (mOp Ey (A4 7) (mC (.int 128))) (A4 1))))))))))))
def F_pick:FD:=mkF 2 8 aa
abbrev Dy:Df:=⟨"_law_pick",No,["_law_tape_here","_law_many"],1,F_pick⟩
abbrev JG:Stmt:=top 20
def Me:FnScope ["_law_tape_here","_law_some"] ["_law_tape_here"] (AH JG):=BR (by kernel_rfl)
@[reducible] def OF:MS:=(AC (AS 1 (Ad (Aq (A0 (mC .non) (A0 (mC (.bl true)) (A0 (mC (.bl false)) (A0 (mC (.str "")) (A0 (mC (.str "late")) (A0 (mC (.str "0")) (A0 (AL A6) (A0 (Ad (Aq A6)) (A0 (AL (A0 (mC (.int 0)) A6)) (A0 (Ad (Aq (A0 (mC (.int 2)) A6))) (A0 (CU (mC (.int 1))) (A0 (mC (.int 0)) (A0 (mC (.int 1)) (A0 (mC (.int 3)) (A0 (mOp GM (mC (.int 10)) (mC (.int 50))) (A0 (AL (A0 (AL A6) A6)) (A0 (AL (A0 (mC (.int 0)) (A0 (mC (.int 1)) A6))) (A0 (AL (A0 (mC (.str "ends")) (A0 (mC (.int 2)) A6))) A6)))))))))))))))))))))
 (AO (mOp gIx (A4 1) (AE 2 F_pick (A0 (A4 0) (A0 (mC (.int 18)) A6))))))
def DM:FD:=mkF 1 2 OF
abbrev F1:Df:=⟨"_law_strange",JG,["_law_tape_here"],2,DM⟩
abbrev KQ:Stmt:=top 21
def Rz:FnScope ["_law_tape_here","_law_thing","_law_deep","_law_at","_law_way","_law_odd","_law_some"] ["_law_tape_here","_law_thing","_law_deep"] (AH KQ):=BR (by kernel_rfl)
@[reducible] def OJ(Ch:FD):MS:=(AC (Ar (Eg (BE (BU .tuple (A4 1))) (Eg (AI (mOp (C7 true) (A4 1) (AL A6))) (Eg (AI (mOp gGt (A4 2) (mC (.int 0)))) (AI (mOp gGt (AE 2 F_pick (A0 (A4 0) (A0 (mC (.int 5)) A6))) (mC (.int 0)))))))
 (AC (AS 3 (AE 2 F_pick (A0 (A4 0) (A0 (mCB (f1 true BA) (A0 (A4 1) A6)) A6))))
 (AO (mOp AQ (mOp CJ (BF (A4 1) AT (Aa (A4 3))) (AL (A0 (AJ Ch (A0 (A4 0) (A0 (mOp gIx (A4 1) (A4 3)) (A0 (mOp CI (A4 2) (mC (.int 1))) A6)))) A6))) (BF (A4 1) (Aa (mOp AQ (A4 3) (mC (.int 1)))) AT))))
  Ae)
 (AC (AS 4 (AE 2 F_pick (A0 (A4 0) (A0 (mC (.int 7)) A6))))
 (AC (AS 5 (AJ DM (A0 (A4 0) A6)))
 (AC (Ar (BE (BU .tuple (A4 1)))
  (AC (AS 3 (AE 2 F_pick (A0 (A4 0) (A0 (mOp AQ (mCB (f1 true BA) (A0 (A4 1) A6)) (mC (.int 1))) A6))))
 (AC (AS 6 (Ad (Aq (A0 (Ad (Dm (A4 1))) (A0 (mOp AQ (mOp CJ (BF (A4 1) AT (Aa (A4 3))) (AL (A0 (A4 5) A6))) (BF (A4 1) (Aa (A4 3)) AT)) (A0 (mOp CJ (BF (A4 1) AT (Aa (A4 3))) (BF (A4 1) (Aa (mOp AQ (A4 3) (mC (.int 1)))) AT)) (A0 (mOp CJ (BF (A4 1) AT (Aa (mOp AQ (A4 3) (mC (.int 1))))) (BF (A4 1) (Aa (A4 3)) AT)) A6)))))))
 (AO (Cm (CA (A4 6) (Ad (Aq (A0 (mOp CJ (mOp CJ (BF (A4 1) AT (Aa (A4 3))) (Fc (BF (A4 1) (Aa (A4 3)) (Aa (mOp AQ (A4 3) (mC (.int 2))))) (CU (mC (.int 1))))) (BF (A4 1) (Aa (mOp AQ (A4 3) (mC (.int 2)))) AT)) (A0 (DU (A4 1) (CU (mC (.int 1)))) (A0 (A4 5) A6)))))) (A4 4)))))
  Ae)
 (AC (Ar (BE (BU .bool (A4 1)))
  (AO (Cm (Aq (A0 (EE (A4 1)) (A0 (mCB Kx (A0 (A4 1) A6)) (A0 (mCB El (A0 (A4 1) A6)) (A0 (AL (A0 (A4 1) A6)) (A0 (mC .non) (A0 (Ad (Aq (A0 (A4 1) A6))) (A0 (A4 5) A6)))))))) (A4 4)))
  Ae)
 (AC (Ar (BE (BU .int (A4 1)))
  (AO (Cm (Aq (A0 (mOp AQ (A4 1) (mC (.int 1))) (A0 (mOp CI (A4 1) (mC (.int 1))) (A0 (mOp CI (mC (.int 0)) (A4 1)) (A0 (mOp gEq (A4 1) (mC (.int 1))) (A0 (mCB El (A0 (A4 1) A6)) (A0 (AL (A0 (A4 1) A6)) (A0 (A4 5) A6)))))))) (A4 4)))
  Ae)
 (AC (Ar (BE (BU .str (A4 1)))
  (AO (Cm (Aq (A0 (mOp Gm (A4 1) (mC (.str "s"))) (A0 (HW (A4 1) AT (Aa (CU (mC (.int 1))))) (A0 (HV (A4 1)) (A0 (DU (A4 1) (CU (mC (.int 1)))) (A0 (AL (A0 (A4 1) A6)) (A0 (mC (.str "steps")) (A0 (A4 5) A6)))))))) (A4 4)))
  Ae)
 (AO (A4 5)))))))))
def GY:Nat->FD
 |0=>λ_ _=>none
 |n+1=>mkF 3 7 (OJ (GY n))
abbrev Ch:FD:=GY 6
abbrev L7:Df:=⟨"_law_bent",KQ,["_law_tape_here","_law_thing","_law_deep"],8,Ch⟩
abbrev GB:Stmt:=top 22
def Ji:FnScope ["_law_thing"] ["_law_thing"] (AH GB):=BR (by kernel_rfl)
@[reducible] def Kl:MS:=(AO (B1 (BU .int (A4 0)) (EE (BU .bool (A4 0)))))
def Br:FD:=mkF 1 1 Kl
abbrev Cd:Df:=⟨"_law_is_number",GB,["_law_thing"],1,Br⟩
abbrev Nq:Stmt:=top 23
def Ry:FnScope ["_law_tape_here","_law_way","_law_due","_law_weight","_law_start","_law_told","_law_rows","_law_k"] ["_law_tape_here","_law_way"] (AH Nq):=BR (by kernel_rfl)
@[reducible] def HR:MS:=(AC (AS 2 (mIf (AI (mOp gEq (AE 2 F_pick (A0 (A4 0) (A0 (mC (.int 4)) A6))) (mC (.int 0)))) (mOp CI (AE 2 F_pick (A0 (A4 0) (A0 (mC (.int 500)) A6))) (mC (.int 99))) (mOp CI (AE 2 F_pick (A0 (A4 0) (A0 (mC (.int 40)) A6))) (mC (.int 5)))))
 (AC (AS 3 (AE 2 F_pick (A0 (A4 0) (A0 (mC (.int 10)) A6))))
 (AC (Ar (AI (mOp gLt (A4 1) (mC (.int 4))))
  (AO (Cm (Aq (A0 (AL (A0 (mC (.str "late")) (A0 (A4 2) A6))) (A0 (AL (A0 (mC (.str "tardy")) (A0 (A4 2) (A0 (A4 3) A6)))) (A0 (AL (A0 (mC (.str "miss")) (A0 (A4 2) (A0 (A4 3) A6)))) (A0 (AL (A0 (mC (.str "ends")) (A0 (A4 3) A6))) A6))))) (A4 1)))
  Ae)
 (AC (Ff [4,5] (A0 (mCB Go (A0 (A4 2) (A0 (mC (.int 200)) A6))) (A0 (mC (.int 0)) A6)))
 (AC (AS 6 (Ad (Aq A6)))
 (AC (Dk (E4 (A0 (mOp AQ (mC (.int 1)) (AE 2 F_pick (A0 (A4 0) (A0 (mC (.int 5)) A6)))) A6)) (Am 7)
  (AC (AS 4 (mOp AQ (mOp AQ (A4 4) (mC (.int 1))) (AE 2 F_pick (A0 (A4 0) (A0 (mC (.int 40)) A6)))))
 (AC (AS 5 (mOp AQ (A4 5) (AE 2 F_pick (A0 (A4 0) (A0 (mC (.int 20)) A6)))))
 (Do (mMt Bx (A4 6) (A0 (AL (A0 (A4 4) (A0 (A4 5) A6))) A6))))))
 (AO (AL (A0 (mC (.str "steps")) (A0 (mCB (f1 true DW) (A0 (A4 6) A6)) A6))))))))))
def F_cost:FD:=mkF 2 8 HR
abbrev L3:Df:=⟨"_law_cost",Nq,["_law_tape_here","_law_way"],2,F_cost⟩
abbrev I0:Stmt:=top 25
def LL:FnScope ["_law_thing","_law_former","_law_row"] ["_law_thing"] (AH I0):=BR (by kernel_rfl)
@[reducible] def N9:MS:=(AC (Ar (mOr (Bf (BE (BU .tuple (A4 0)))) (AI (mOp (C7 false) (A4 0) (AL A6))))
 (AO (mC (.bl false)))
 Ae)
 (AC (AS 1 (mC .non))
 (AC (Dk (Cb (A4 0)) (Am 2)
  (AC (Ar (mOr (Bf (BE (BU .tuple (A4 2)))) (mOr (AI (mOp gNe (mCB (f1 true BA) (A0 (A4 2) A6)) (mC (.int 2)))) (mOr (Bf (BE (AJ Br (A0 (mOp gIx (A4 2) (mC (.int 0))) A6)))) (Bf (BE (AJ Br (A0 (mOp gIx (A4 2) (mC (.int 1))) A6)))))))
  (AO (mC (.bl false)))
  Ae)
 (AC (Ar (mOr (AI (mOp gLt (mOp gIx (A4 2) (mC (.int 1))) (mC (.int 0)))) (Eg (AI (HY true (A4 1))) (mOr (AI (mOp gLe (mOp gIx (A4 2) (mC (.int 0))) (mOp gIx (A4 1) (mC (.int 0))))) (AI (mOp gLt (mOp gIx (A4 2) (mC (.int 1))) (mOp gIx (A4 1) (mC (.int 1))))))))
  (AO (mC (.bl false)))
  Ae)
 (AS 1 (A4 2)))))
 (AO (mC (.bl true))))))
def EL:FD:=mkF 1 3 N9
abbrev Fp:Df:=⟨"_law_are_rows",I0,["_law_thing"],2,EL⟩
abbrev Hy:Stmt:=top 24
def LJ:FnScope ["_law_thing","_law_word","_law_rest"] ["_law_thing"] (AH Hy):=BR (by kernel_rfl)
@[reducible] def N6:MS:=(AC (Ar (mOr (Bf (BE (BU .tuple (A4 0)))) (mOr (AI (mOp gLt (mCB (f1 true BA) (A0 (A4 0) A6)) (mC (.int 2)))) (Bf (BE (BU .str (mOp gIx (A4 0) (mC (.int 0))))))))
 (AO (mC (.bl false)))
 Ae)
 (AC (Ff [1,2] (A0 (mOp gIx (A4 0) (mC (.int 0))) (A0 (BF (A4 0) (Aa (mC (.int 1))) AT) A6)))
 (AC (Ar (AI (mOp gEq (A4 1) (mC (.str "steps"))))
  (AO (B1 (mOp gEq (mCB (f1 true BA) (A0 (A4 2) A6)) (mC (.int 1))) (AJ EL (A0 (mOp gIx (A4 2) (mC (.int 0))) A6))))
  Ae)
 (AC (Ar (AI (mOp gNe (FN (Fh [((mC (.str "late")),(mC (.int 1))),((mC (.str "tardy")),(mC (.int 2))),((mC (.str "miss")),(mC (.int 2))),((mC (.str "ends")),(mC (.int 1)))]) (A4 1) (mC (.int 0))) (mCB (f1 true BA) (A0 (A4 2) A6))))
  (AO (mC (.bl false)))
  Ae)
 (AO (B1 (Ha true (mC (.bl false)) (BO 1 [] (Cb (A4 2)) (Am 0) CG (AJ Br (A0 (A4 0) A6)))) (J1 (mOp gEq (A4 1) (mC (.str "late"))) (mOp gGe (mOp gIx (A4 2) (CU (mC (.int 1)))) (mC (.int 0))))))))))
def EK:FD:=mkF 1 3 N6
abbrev Fo:Df:=⟨"_law_is_cost",Hy,["_law_thing"],3,EK⟩
abbrev Hx:Stmt:=top 26
def LI:FnScope ["_law_thing"] ["_law_thing"] (AH Hx):=BR (by kernel_rfl)
@[reducible] def N4:MS:=(AC (Ar (mOr (Bf (BE (BU .tuple (A4 0)))) (AI (mOp gNe (mCB (f1 true BA) (A0 (A4 0) A6)) (mC (.int 3)))))
 (AO (mC (.bl false)))
 Ae)
 (AC (Ar (mOr (Bf (BE (AJ Br (A0 (mOp gIx (A4 0) (mC (.int 0))) A6)))) (mOr (AI (mOp gLt (mOp gIx (A4 0) (mC (.int 0))) (mC (.int 1)))) (mOr (Bf (BE (AJ Br (A0 (mOp gIx (A4 0) (mC (.int 1))) A6)))) (AI (mOp gLt (mOp gIx (A4 0) (mC (.int 1))) (mC (.int 0)))))))
  (AO (mC (.bl false)))
  Ae)
 (AO (AJ EK (A0 (mOp gIx (A4 0) (mC (.int 2))) A6)))))
def CL:FD:=mkF 1 1 N4
abbrev EG:Df:=⟨"_law_is_work",Hx,["_law_thing"],4,CL⟩
abbrev Gy:Stmt:=top 27
def KO:FnScope ["_law_thing"] ["_law_thing"] (AH Gy):=BR (by kernel_rfl)
@[reducible] def LQ:MS:=(AO (B1 (BU .tuple (A4 0)) (B1 (mOp gGt (mCB (f1 true BA) (A0 (A4 0) A6)) (mC (.int 0))) (Ha true (mC (.bl false)) (BO 1 [] (Cb (A4 0)) (Am 0) CG (AJ CL (A0 (A4 0) A6)))))))
def CQ:FD:=mkF 1 1 LQ
abbrev FB:Df:=⟨"_law_are_works",Gy,["_law_thing"],5,CQ⟩
abbrev LZ:Stmt:=top 28
def PR:FnScope ["_law_tape_here","_law_alike","_law_begin","_law_found","_law_k","_law_coming"] ["_law_tape_here"] (AH LZ):=BR (by kernel_rfl)
@[reducible] def Tw:MS:=(AC (AS 1 (AE 2 F_pick (A0 (A4 0) (A0 (mC (.int 2)) A6))))
 (AC (AS 2 (mOp DY (AE 2 F_pick (A0 (A4 0) (A0 (mC (.int 61)) A6))) (AE 2 F_pick (A0 (A4 0) (A0 (mC (.int 2)) A6)))))
 (AC (AS 3 (Ad (Aq A6)))
 (AC (Dk (E4 (A0 (mOp AQ (mC (.int 1)) (AE 2 F_pick (A0 (A4 0) (A0 (mC (.int 8)) A6)))) A6)) (Am 4)
  (AC (AS 5 (mIf (AI (mOp gEq (A4 1) (mC (.int 0)))) (A4 2) (AE 2 F_pick (A0 (A4 0) (A0 (mC (.int 61)) A6)))))
 (Do (mMt Bx (A4 3) (A0 (AL (A0 (mOp AQ (mC (.int 1)) (AE 2 F_pick (A0 (A4 0) (A0 (mC (.int 20)) A6)))) (A0 (A4 5) (A0 (AE 2 F_cost (A0 (A4 0) (A0 (AE 2 F_pick (A0 (A4 0) (A0 (mC (.int 5)) A6))) A6))) A6)))) A6)))))
 (AO (mCB (f1 true DW) (A0 (A4 3) A6)))))))
def Gp:FD:=mkF 1 6 Tw
abbrev J5:Df:=⟨"_law_works",LZ,["_law_tape_here"],3,Gp⟩
abbrev Np:Stmt:=top 29
def Rx:FnScope ["_law_tape_here","_law_works_here","_law_j","_law_length","_law_coming","_law_cost_here","_law_some","_law_found"] ["_law_tape_here","_law_works_here"] (AH Np):=BR (by kernel_rfl)
@[reducible] def Wm:MS:=(AC (AS 2 (AE 2 F_pick (A0 (A4 0) (A0 (mCB (f1 true BA) (A0 (A4 1) A6)) A6))))
 (AC (Hb (mOp gIx (A4 1) (A4 2)) (HP 3 (DT (Am 3) (DT (Am 4) (DT (Am 5) Ix)))))
 (AC (AS 6 (Ad (Aq (A0 (AL (A0 (mC (.int 0)) (A0 (A4 4) (A0 (A4 5) A6)))) (A0 (AL (A0 (mOp CI (mC (.int 0)) (A4 3)) (A0 (A4 4) (A0 (A4 5) A6)))) (A0 (AL (A0 (mC (.bl true)) (A0 (A4 4) (A0 (A4 5) A6)))) (A0 (AL (A0 (A4 3) (A0 (CU (mC (.int 1))) (A0 (A4 5) A6)))) (A0 (A4 5) (A0 (mC .non) A6)))))))))
 (AC (AS 6 (Ad (CA (A4 6) (Ad (Aq (A0 (AL (A0 (A4 3) (A0 (mC (.bl false)) (A0 (A4 5) A6)))) (A0 (AL (A0 (A4 3) (A0 (mC .non) (A0 (A4 5) A6)))) (A0 (AL (A0 (mCB El (A0 (A4 3) A6)) (A0 (A4 4) (A0 (A4 5) A6)))) A6))))))))
 (AC (Do (mMt Bx (A4 6) (A0 (AL (A0 (A4 3) (A0 (A4 4) (A0 (Ad (Dm (A4 5))) A6)))) A6)))
 (AC (AS 6 (Ad (CA (A4 6) (Ad (Aq (A0 (AL (A0 (A4 3) (A0 (A4 4) A6))) (A0 (AL (A0 (A4 3) (A0 (A4 4) (A0 (A4 5) (A0 (mC (.int 0)) A6))))) (A0 (Ad (Aq (A0 (A4 3) (A0 (A4 4) (A0 (A4 5) A6))))) (A0 (AL (A0 (A4 4) (A0 (A4 3) (A0 (A4 5) A6)))) A6)))))))))
 (AC (AS 6 (Ad (CA (A4 6) (Ad (Aq (A0 (AL (A0 (A4 3) (A0 (A4 4) (A0 (BF (A4 5) AT (Aa (mC (.int 1)))) A6)))) (A0 (AL (A0 (A4 3) (A0 (A4 4) (A0 (AL (A0 (mC (.str "tardy")) (A0 (mC (.int 3)) (A0 (CU (mC (.int 1))) A6)))) A6)))) (A0 (AL (A0 (mOp GM (mC (.int 10)) (mC (.int 60))) (A0 (mOp GM (mC (.int 10)) (mC (.int 60))) (A0 (A4 5) A6)))) A6))))))))
 (AC (Do (mMt Bx (A4 6) (A0 (AL (A0 (A4 3) (A0 (A4 4) (A0 (AL A6) A6)))) A6)))
 (AC (AS 7 (Ad (CA (Ad (BO 1 [1,2] (DV (A4 6)) (Am 0) CG (mOp AQ (mOp CJ (CT (A4 1) AT (Aa (A4 2))) (AL (A0 (A4 0) A6))) (CT (A4 1) (Aa (mOp AQ (A4 2) (mC (.int 1)))) AT)))) (Ad (Aq (A0 (Ad (Dm (A4 1))) (A0 (mOp AQ (A4 1) (AL (A0 (AL A6) A6))) (A0 (mOp AQ (A4 1) (AL (A0 (A4 1) A6))) A6))))))))
 (AO (Ad (CA (A4 7) (A4 6)))))))))))))
def GZ:FD:=mkF 2 8 Wm
abbrev L0:Df:=⟨"_law_near",Np,["_law_tape_here","_law_works_here"],2,GZ⟩
abbrev GA:Stmt:=top 30
def Jh:FnScope ["_law_works_here","_law_days","_law_comings","_law_due"] ["_law_works_here"] (AH GA):=BR (by kernel_rfl)
@[reducible] def Kk:MS:=(AC (AS 1 (Bg Hc (BO 1 [0] (E4 (A0 (mC (.int 20)) A6)) (Am 0) CG (Bg BA (BO 1 [0] (Cb (A4 1)) (Am 0) (AI (mOp gGt (mOp gIx (A4 0) (mC (.int 0))) (A4 1))) (A4 0))))))
 (AC (Ar (AI (mOp gNe (mCB Av (A0 (AE 0 Dd (A0 (A4 0) A6)) A6)) (mCB Av (A0 (A4 1) A6))))
  (AO (mC (.bl false)))
  Ae)
 (AC (AS 2 (Ad (BO 1 [] (Cb (A4 0)) (Am 0) CG (mOp gIx (A4 0) (mC (.int 1))))))
 (AC (AS 3 (mIf (AI (CH false (A4 2) (J0 (Fb (A4 2) AT (Aa (mC (.int 1)))) (mCB (f1 true BA) (A0 (A4 2) A6))))) (mOp gIx (A4 2) (mC (.int 0))) (mC .non)))
 (AO (mOp gEq (mCB Av (A0 (AE 0 CM (A0 (A4 0) A6)) A6)) (mCB Av (A0 (A4 3) A6))))))))
def Bq:FD:=mkF 1 4 Kk
abbrev DZ:Df:=⟨"_law_told_right",GA,["_law_works_here"],2,Bq⟩
abbrev Eu:Stmt:=top 31
def HH:FnScope ["_law_works_here","_law_j","_law_number","_law_way","_law_rows","_law_due","_law_told"] ["_law_works_here","_law_j","_law_number","_law_way"] (AH Eu):=BR (by kernel_rfl)
@[reducible] def II:MS:=(AC (AS 4 (Ad (BO 1 [] (Cb (A4 0)) (Am 0) CG (Ad (Dm (A4 0))))))
 (AC (Gg (mOp gIx (A4 4) (A4 1)) (A4 3) (A4 2))
 (AC (AS 5 (Bg DW (BO 1 [] (DV (A4 4)) (Am 0) CG (mCB (f1 true DW) (A0 (A4 0) A6)))))
 (AC (AS 6 (mIf (AI (mOp gEq (A4 3) (mC (.int 0)))) (AE 0 DD (A0 (A4 0) (A0 (A4 1) (A0 (A4 2) A6)))) (AE 0 DE (A0 (A4 0) (A0 (A4 1) (A0 (A4 2) A6))))))
 (AO (B1 (mOp gEq (mCB Av (A0 (A4 6) A6)) (mCB Av (A0 (A4 5) A6))) (B1 (HZ false true (AJ C4 (A0 (A4 6) A6))) (AE 0 Bq (A0 (A4 6) A6)))))))))
def BS:FD:=mkF 4 7 II
abbrev Db:Df:=⟨"_law_changed_right",Eu,["_law_works_here","_law_j","_law_number","_law_way"],8,BS⟩
abbrev Qm:Stmt:=top 32
def Ub:FnScope ["_law_script","_law_tape_here","_law_things","_law_k","_law_works_here","_law_kept","_law_turn","_law_bent_here","_law_work","_law_one","_law_long","_law_thing","_law_due"] ["_law_script"] (AH Qm):=BR (by kernel_rfl)
@[reducible] def Y7:MS:=(AC (AS 1 (AJ F_tape (A0 (A4 0) A6)))
 (AC (AS 2 (Ad (Aq (A0 (AL A6) (A0 (AL (A0 (AL A6) A6)) (A0 (AL (A0 (mC (.int 1)) (A0 (mC (.int 0)) (A0 (AL (A0 (mC (.str "late")) (A0 (mC (.int 0)) A6))) A6)))) (A0 (AL (A0 (mC (.int 1)) (A0 (mC (.int 0)) A6))) (A0 (AL (A0 (AL (A0 (mC (.int 1)) (A0 (mC (.int 0)) (A0 (AL (A0 (mC (.str "late")) (A0 (mC (.int 0)) A6))) A6)))) A6)) (A0 (Ad (Aq (A0 (AL (A0 (mC (.int 1)) (A0 (mC (.int 0)) (A0 (AL (A0 (mC (.str "late")) (A0 (mC (.int 0)) A6))) A6)))) A6))) (A0 (mC .non) (A0 (mC (.int 0)) (A0 (mC (.str "")) (A0 (mC (.bl true)) A6)))))))))))))
 (AC (Dk (E4 (A0 (mC (.int 3)) A6)) (Am 3)
  (AC (AS 4 (AE 2 Gp (A0 (A4 1) A6)))
 (AC (AS 5 (mCB Av (A0 (A4 4) A6)))
 (AC (Dk (E4 (A0 (mC (.int 2)) A6)) (Am 6)
  (AC (Ar (Bf (BE (AE 0 Bq (A0 (A4 4) A6))))
  (AO (mC (.bl false)))
  Ae)
 (AC (Ar (Bf (BE (AE 0 BS (A0 (A4 4) (A0 (AE 2 F_pick (A0 (A4 1) (A0 (mCB (f1 true BA) (A0 (A4 4) A6)) A6))) (A0 (mOp AQ (mC (.int 1)) (AE 2 F_pick (A0 (A4 1) (A0 (mC (.int 20)) A6)))) (A0 (mC (.int 0)) A6)))))))
  (AO (mC (.bl false)))
  Ae)
 (AC (Ar (Bf (BE (AE 0 BS (A0 (A4 4) (A0 (AE 2 F_pick (A0 (A4 1) (A0 (mCB (f1 true BA) (A0 (A4 4) A6)) A6))) (A0 (AE 2 F_pick (A0 (A4 1) (A0 (mC (.int 61)) A6))) (A0 (mC (.int 1)) A6)))))))
  (AO (mC (.bl false)))
  Ae)
 (Ar (AI (mOp gNe (mCB Av (A0 (A4 4) A6)) (A4 5)))
  (AO (mC (.bl false)))
  Ae)))))
 (AC (AS 7 (AJ Ch (A0 (A4 1) (A0 (A4 4) (A0 (mC (.int 5)) A6)))))
 (AC (AS 8 (AJ Ch (A0 (A4 1) (A0 (mOp gIx (A4 4) (mC (.int 0))) (A0 (mC (.int 4)) A6)))))
 (AC (AS 2 (Ad (CA (A4 2) (Ad (Aq (A0 (A4 4) (A0 (A4 7) (A0 (AJ Ch (A0 (A4 1) (A0 (A4 7) (A0 (mC (.int 5)) A6)))) (A0 (AJ Ch (A0 (A4 1) (A0 (A4 4) (A0 (mC (.int 5)) A6)))) (A0 (mOp gIx (A4 4) (mC (.int 0))) (A0 (A4 8) (A0 (AL (A0 (A4 8) A6)) A6))))))))))))
 (AS 2 (Ad (CA (Ad (CA (A4 2) (AJ GZ (A0 (A4 1) (A0 (A4 4) A6))))) (Ad (Aq (A0 (AJ DM (A0 (A4 1) A6)) A6)))))))))))))
 (AC (AS 9 (AL (A0 (mC (.int 1)) (A0 (mC (.int 0)) (A0 (AL (A0 (mC (.str "ends")) (A0 (mC (.int 1)) A6))) A6)))))
 (AC (AS 10 (Fd (AL (A0 (A4 9) A6)) (mC (.int 300))))
 (AC (AS 2 (Ad (CA (A4 2) (Ad (Aq (A0 (A4 10) (A0 (mOp AQ (CT (A4 10) AT (Aa (mC (.int 299)))) (AL (A0 (AL (A0 (mC (.int 1)) (A0 (CU (mC (.int 1))) (A0 (mOp gIx (A4 9) (mC (.int 2))) A6)))) A6))) (A0 (mOp AQ (mOp AQ (CT (A4 10) AT (Aa (mC (.int 150)))) (AL (A0 (AL (A0 (mC (.int 0)) (A0 (mC (.int 0)) (A0 (mOp gIx (A4 9) (mC (.int 2))) A6)))) A6))) (CT (A4 10) AT (Aa (mC (.int 149))))) A6))))))))
 (AC (Dk (DV (A4 2)) (Am 11)
  (AC (AS 5 (mCB Av (A0 (A4 11) A6)))
 (AC (AS 12 (Bg DX (Aq (A0 (AJ CL (A0 (A4 11) A6)) (A0 (AJ CQ (A0 (A4 11) A6)) A6)))))
 (Ar (mOr (AI (mOp gNe (Bg DX (Aq (A0 (AJ Cg (A0 (A4 11) A6)) (A0 (AJ C4 (A0 (A4 11) A6)) A6)))) (A4 12))) (AI (mOp gNe (mCB Av (A0 (A4 11) A6)) (A4 5))))
  (AO (mC (.bl false)))
  Ae))))
 (AO (mC (.bl true))))))))))
def Rw:FD:=mkF 1 13 Y7
abbrev NK:Df:=⟨"law",Qm,["_law_script"],9,Rw⟩
set_option maxHeartbeats 0 in
def oks{E:EnK}(B:BltA E.mg):(Dn E D3->Kn E D3)/\
 (Dn E Bm->Kn E D3->Kn E Bm)/\
 (Dn E DC->Kn E DC)/\
 (Dn E J7->Kn E J7)/\
 (Dn E Hf->Kn E D3->Kn E Bm->Kn E DC->Kn E Hf)/\
 (Dn E GQ->Kn E J7->Kn E Hf->Kn E GQ)/\
 (Dn E GR->Kn E D3->Kn E Bm->Kn E GQ->Kn E GR)/\
 (Dn E F2->Kn E Bm->Kn E DC->Kn E GR->Kn E F2)/\
 (Dn E EH->Kn E F2->Kn E EH)/\
 (Dn E Eo->Kn E Eo)/\
 (Dn E E8->Kn E E8)/\
 (Dn E Ds->Kn E Ds)/\
 (Dn E E6->Kn E Ds->Kn E E6)/\
 (Dn E E7->Kn E Ds->Kn E E7)/\
 (Dn E Kz->Kn E Kz)/\
 (Dn E Dy->Kn E Dy)/\
 (Dn E F1->Kn E Dy->Kn E F1)/\
 (Dn E L7->Kn E Dy->Kn E F1->Kn E L7)/\
 (Dn E Cd->Kn E Cd)/\
 (Dn E L3->Kn E Dy->Kn E L3)/\
 (Dn E Fp->Kn E Cd->Kn E Fp)/\
 (Dn E Fo->Kn E Cd->Kn E Fp->Kn E Fo)/\
 (Dn E EG->Kn E Cd->Kn E Fo->Kn E EG)/\
 (Dn E FB->Kn E EG->Kn E FB)/\
 (Dn E J5->Kn E Dy->Kn E L3->Kn E J5)/\
 (Dn E L0->Kn E Dy->Kn E L0)/\
 (Dn E DZ->Kn E Eo->Kn E E8->Kn E DZ)/\
 (Dn E Db->Kn E EH->Kn E E6->Kn E E7->Kn E DZ->Kn E Db)/\
 (Dn E NK->Kn E F2->Kn E EH->Kn E Kz->Kn E Dy->Kn E F1->Kn E L7->Kn E EG->Kn E FB->Kn E J5->Kn E L0->Kn E DZ->Kn E Db->Kn E NK):=by
 refine⟨λD=>okK D KN rfl rfl λ_ _ _ _ _ _ _ hr=>?_,
  λD _=>okK D Gu rfl rfl λ_ _ _ _ _ _ _ hr=>?_,
  λD=>okK D Im rfl rfl λ_ _ _ _ _ _ _ hr=>?_,
  λD=>okK D PU rfl rfl λ_ _ _ _ _ _ _ hr=>?_,
  λD _ _ _=>okK D Nm rfl rfl λ_ _ _ _ _ _ _ hr=>?_,
  λD _ _=>okK D Mg rfl rfl λ_ _ _ _ _ _ _ hr=>?_,
  λD _ _ _=>okK D Mh rfl rfl λ_ _ _ _ _ _ _ hr=>?_,
  λD _ _ _=>okK D Mf rfl rfl λ_ _ _ _ _ _ _ hr=>?_,
  λD _=>okK D LK rfl rfl λ_ _ _ _ _ _ _ hr=>?_,
  λD=>okK D Jj rfl rfl λ_ _ _ _ _ _ _ hr=>?_,
  λD=>okK D Il rfl rfl λ_ _ _ _ _ _ _ hr=>?_,
  λD=>okK D KM rfl rfl λ_ _ _ _ _ _ _ hr=>?_,
  λD _=>okK D Ij rfl rfl λ_ _ _ _ _ _ _ hr=>?_,
  λD _=>okK D Ik rfl rfl λ_ _ _ _ _ _ _ hr=>?_,
  λD=>okK D Ru rfl rfl λ_ _ _ _ _ _ _ hr=>?_,
  λD=>okK D Rv rfl rfl λ_ _ _ _ _ _ _ hr=>?_,
  λD _=>okK D Me rfl rfl λ_ _ _ _ _ _ _ hr=>?_,
  λD _ _=>Nat.rec (motive:=λn=>Kn E ⟨"_law_bent",KQ,["_law_tape_here","_law_thing","_law_deep"],n+2,GY n⟩) (ok0 D) (λn ih=>okK (j:=n+2) D Rz rfl (by omega) λ_ _ _ _ _ _ _ hr=>?_) 6,
  λD=>okK D Ji rfl rfl λ_ _ _ _ _ _ _ hr=>?_,
  λD _=>okK D Ry rfl rfl λ_ _ _ _ _ _ _ hr=>?_,
  λD _=>okK D LL rfl rfl λ_ _ _ _ _ _ _ hr=>?_,
  λD _ _=>okK D LJ rfl rfl λ_ _ _ _ _ _ _ hr=>?_,
  λD _ _=>okK D LI rfl rfl λ_ _ _ _ _ _ _ hr=>?_,
  λD _=>okK D KO rfl rfl λ_ _ _ _ _ _ _ hr=>?_,
  λD _ _=>okK D PR rfl rfl λ_ _ _ _ _ _ _ hr=>?_,
  λD _=>okK D Rx rfl rfl λ_ _ _ _ _ _ _ hr=>?_,
  λD _ _=>okK D Jh rfl rfl λ_ _ _ _ _ _ _ hr=>?_,
  λD _ _ _ _=>okK D HH rfl rfl λ_ _ _ _ _ _ _ hr=>?_,
  λD _ _ _ _ _ _ _ _ _ _ _ _=>okK D Ub rfl rfl λ_ _ _ _ _ _ _ hr=>?_⟩
 all_goals (refine' ⟨_,_⟩;rotate_left;repeat' (first
  |((with_reducible show QE _ _ _ _ _);first|exact qv _ _|(first|exact Vu _|exact Vj _|exact Xu _|exact Vp _)|((with_reducible show QE _ _ _ _ (mOp _ _ _));first|((with_reducible show QE _ _ _ _ (mOp gIx _ _));refine' Xq _ _ _)|((with_reducible show QE _ _ _ _ (mOp Bv _ _));refine' T4 _ (NG hr) _ _)|((with_reducible show QE _ _ _ _ (mOp AQ _ _));refine' Ev _ ((OA).or (Kg _)) (EN O2 Lj) _ _)|((with_reducible show QE _ _ _ _ (mOp CI _ _));refine' Ev _ WY VB _ _)|((with_reducible show QE _ _ _ _ (mOp DY _ _));refine' Ev _ Wd VG _ _)|((with_reducible show QE _ _ _ _ (mOp CV _ _));refine' Ev _ We VH _ _)|((with_reducible show QE _ _ _ _ (mOp Ey _ _));refine' Ev _ Tg SU _ _)|((with_reducible show QE _ _ _ _ (mOp GM _ _));refine' Ev _ Wa VC _ _)|((with_reducible show QE _ _ _ _ (mOp Gm _ _));refine' Ev _ Tk SW _ _)|((with_reducible show QE _ _ _ _ (mOp CJ _ _));refine' Ev _ (((OA).or (Kg _)).or (Tj _)) (EN (EN O2 Lj) SV) _ _)|((with_reducible show QE _ _ _ _ (mOp gLt _ _));refine' GF _ R9 Qr _ _)|((with_reducible show QE _ _ _ _ (mOp gGt _ _));refine' GF _ RJ Qs _ _)|((with_reducible show QE _ _ _ _ (mOp gGe _ _));refine' GF _ RK Qt _ _)|((with_reducible show QE _ _ _ _ (mOp gEq _ _));refine' GF _ ((RO).or (FJ _ hr.units)) (EN Nz O0) _ _)|((with_reducible show QE _ _ _ _ (mOp (C7 false) _ _));refine' GF _ (FJ _ hr.units) O1 _ _))|refine' Vi _ _|((with_reducible show QE _ _ _ _ (Ad _));refine' Vq _ _)|refine' Vr _ _|((with_reducible show QE _ _ _ _ (AE _ _ _));first|refine' qcW _ (by assumption) hr _|refine' qcW _ (by assumption) (hr.in1.deeper _) _)|((with_reducible show QE _ _ _ _ (AJ _ _));refine' qcG (by assumption) hr _)|((with_reducible show QE _ _ _ _ (Bg _ _));first|((with_reducible show QE _ _ _ _ (Bg Eh _));refine' Jx _ (JY _ rfl) Nv B.all L2.bt_all _)|((with_reducible show QE _ _ _ _ (Bg Hc _));refine' Jx _ ((JW _ rfl).or (IV _ rfl)) Nt B.sum L2.bt_sum _)|((with_reducible show QE _ _ _ _ (Bg BA _));refine' Jx _ (JX _) Nu B.len L2.bt_len _)|((with_reducible show QE _ _ _ _ (Bg DW _));refine' Xr _ (HB _) KY B.tuple L2.bt_tuple _)|((with_reducible show QE _ _ _ _ (Bg DX _));refine' Jx _ (HC _ hr.gd hr.units) SG B.repr L2.bt_repr _))|((with_reducible show QE _ _ _ _ (mCB _ _));first|((with_reducible show QE _ _ _ _ (mCB (f1 _ Eh) _));refine' IG _ (JY _ rfl) (Mk Nv) B.all L2.bt_all _)|((with_reducible show QE _ _ _ _ (mCB (f1 _ Hc) _));refine' IG _ ((JW _ rfl).or (IV _ rfl)) (Mk Nt) B.sum L2.bt_sum _)|((with_reducible show QE _ _ _ _ (mCB (f1 _ BA) _));refine' IG _ (JX _) (Mk Nu) B.len L2.bt_len _)|((with_reducible show QE _ _ _ _ (mCB Go _));refine' IG _ (Oa rfl) SH B.min L2.bt_min _)|((with_reducible show QE _ _ _ _ (mCB Av _));refine' IG _ (NP _ hr.gd hr.units) Pd B.repr L2.bt_repr _)|((with_reducible show QE _ _ _ _ (mCB (f1 _ DW) _));refine' Mw _ (HB _) (Mk KY) B.tuple L2.bt_tuple _)|((with_reducible show QE _ _ _ _ (mCB El _));refine' Mw _ QY Ux B.str L2.bt_str _)|((with_reducible show QE _ _ _ _ (mCB Kx _));refine' Mw _ Ob Uy B.int L2.bt_int _))|((with_reducible show QE _ _ _ _ (Cm _ _));refine' Vs _ _ _)|((with_reducible show QE _ _ _ _ (CT _ _ _));refine' Vk _ _ _ _)|((with_reducible show QE _ _ _ _ (BF _ _ _));refine' Vm _ _ _ _)|((with_reducible show QE _ _ _ _ (Fc _ _));refine' Sv _ _)|((with_reducible show QE _ _ _ _ (DU _ _));refine' Sw _ _)|((with_reducible show QE _ _ _ _ (HW _ _ _));refine' Vl _ _ _ _)|((with_reducible show QE _ _ _ _ (HV _));refine' Vh _ _)|((with_reducible show QE _ _ _ _ (FN _ _ _));refine' Pw _ (NG hr) _ _ _)|((with_reducible show QE _ _ _ _ (Fd _ _));refine' Sx _ _ _)|refine' Pv _ _ _ _|((with_reducible show QE _ _ _ _ (mMt _ _ _));first|((with_reducible show QE _ _ _ _ (mMt Bx _ _));refine' Xp _ PySem.F.slot_list_append PySem.F.type_list_append JM Nr _ _))|refine' T0 _ _|((with_reducible show QE _ _ _ _ (BU _ _));first|((with_reducible show QE _ _ _ _ (BU .int _));refine' IF _ .int B.isinstance B.int _)|((with_reducible show QE _ _ _ _ (BU .bool _));refine' IF _ .bool B.isinstance B.bool _)|((with_reducible show QE _ _ _ _ (BU .str _));refine' IF _ .str B.isinstance B.str _)|((with_reducible show QE _ _ _ _ (BU .tuple _));refine' IF _ .tuple B.isinstance B.tuple _))|((with_reducible show QE _ _ _ _ (HZ _ _ _));refine' Vt _ _)|((with_reducible show QE _ _ _ _ (CH _ _ _));refine' Sz _ (O9 _ hr.units) _ _)|((with_reducible show QE _ _ _ _ (Ha _ _ _));refine' Sy _ (O8 _) _ _)|((with_reducible show QE _ _ _ _ (B1 _ _));refine' Vv _ _ _)|((with_reducible show QE _ _ _ _ (J1 _ _));refine' Xo _ _ _)|((with_reducible show QE _ _ _ _ (EE _));refine' Vo _ _)|refine' Vn _ _)
  |refine' T6 _ _ _|exact Vw _
  |((with_reducible show QT _ _ _ _ _);first|((with_reducible show QT _ _ _ _ (AI (mOp _ _ _)));first|((with_reducible show QT _ _ _ _ (AI (mOp gLt _ _)));refine' Du _ R9 Qr _ _)|((with_reducible show QT _ _ _ _ (AI (mOp gLe _ _)));refine' Du _ Y5 Xk _ _)|((with_reducible show QT _ _ _ _ (AI (mOp gGt _ _)));refine' Du _ RJ Qs _ _)|((with_reducible show QT _ _ _ _ (AI (mOp gGe _ _)));refine' Du _ RK Qt _ _)|((with_reducible show QT _ _ _ _ (AI (mOp gEq _ _)));refine' Du _ ((RO).or (FJ _ hr.units)) (EN Nz O0) _ _)|((with_reducible show QT _ _ _ _ (AI (mOp gNe _ _)));refine' Du _ ((Y4).or (Iw _ hr.units)) (EN VD VE) _ _)|((with_reducible show QT _ _ _ _ (AI (mOp (C7 true) _ _)));refine' Du _ (Iw _ hr.units) VF _ _)|((with_reducible show QT _ _ _ _ (AI (mOp (C7 false) _ _)));refine' Du _ (FJ _ hr.units) O1 _ _))|refine' VP _ _|((with_reducible show QT _ _ _ _ (BE _));refine' Pq _ _)|((with_reducible show QT _ _ _ _ (Eg _ _));refine' QW.toT _)|((with_reducible show QT _ _ _ _ (mOr _ _));refine' QW.toT _)|((with_reducible show QT _ _ _ _ (AI (HY _ _)));refine' Sa _ _)|((with_reducible show QT _ _ _ _ (AI (CH _ _ _)));first|refine' Lm _ (O9 _ hr.units) _ _|refine' Lm _ (Wb _ hr.units) _ _))
  |refine' SZ _ _|refine' VN _ _|refine' VO _ _ _|refine' Xm _ _ _
  |((with_reducible show QN _ _ _ _ _);first|refine' VZ _ _|((with_reducible show QN _ _ _ _ (BO _ _ _ _ _ _));refine' qnA _ (λ_ _ _=>_) (λ_ _ _=>_) (λ_ _ _=>_))|((with_reducible show QN _ _ _ _ (J0 _ _));refine' VY _ _ _)|((with_reducible show QN _ _ _ _ (CA _ _));refine' Va _ _ _)|((with_reducible show QN _ _ _ _ (Fb _ _ _));refine' VX _ _ _ _)|((with_reducible show QN _ _ _ _ (Dj _));refine' Mv _ B.sorted _)|((with_reducible show QN _ _ _ _ (FM _));refine' Pt _ B.list _)|((with_reducible show QN _ _ _ _ (Dm _));refine' Sn _ B.list _))
  |((with_reducible show QI _ _ _ _ _ _);first|((with_reducible show QI _ _ _ _ _ (E4 _));refine' Sq _ B.range _)|((with_reducible show QI _ _ _ _ _ (Cb _));refine' Vc _ _)|((with_reducible show QI _ _ _ _ _ (DV _));refine' Sr _ _)|((with_reducible show QI _ _ _ _ _ (Fg _));refine' Vd _ _)|((with_reducible show QI _ _ _ _ _ (Iz _ _));refine' Vb _ B.zip _ _))
  |((with_reducible show QR _ _ _ _ _ _);first|((with_reducible show QR _ _ _ _ _ (Fg _));refine' VW _ _)|((with_reducible show QR _ _ _ _ _ (DV _));refine' Sj _ _))
  |exact qgA
  |refine' Ve _ rfl _
  |exact Ss _|refine' Pu _ _ _
  |exact Vg _|refine' Vf _ _
  |exact Sm _|refine' Sl _ _
  |exact Sk _|refine' Ps _ _ _ _
  |((with_reducible show QSs _ _ _ _ _);first|((with_reducible show QSs _ _ _ _ (AC _ _));refine' Pr _ _ _)|(first|exact Sc _|refine' Sb _ _))
  | ((with_reducible show QS _ _ _ _ _);first|((with_reducible show QS _ _ _ _ (AS _ (Ad (BO _ _ _ _ _ _))));first|refine' Yj _ (λ_ _ _=>_) (λ_ _ _=>_) (λ_ _ _=>_)|refine' qsA _)|((with_reducible show QS _ _ _ _ (AS _ _));refine' qsA _)|refine' Xn _ _ _ _|refine' VR _ _|refine' VT _ rfl _ _ _|refine' Sh _ _|((with_reducible show QS _ _ _ _ (DB _ _ _));refine' Si _ (NG hr) _ _ _)|((with_reducible show QS _ _ _ _ (Gg _ _ _));refine' Sg _ _ _ _)|refine' VS _ rfl (Ef (by kernel_rfl)) rfl rfl (by decide) rfl rfl _|refine' Sf _ rfl (Ef (by kernel_rfl)) rfl rfl rfl rfl rfl rfl _|refine' VU _ _ _|exact Se _)))
open Bd
def X2:F_pick=Bd.F_pick:=rfl
def X1:F_tape=Bd.F_tape:=rfl
def X3:F_cost=Bd.F_cost:=rfl
def T(_:Nat)(a b:MO):Prop:=∃τ:Tp,tp τ=[a,b]
def tap:Tap T F_pick where
 cl:=by
  rintro k a b ⟨τ,e⟩;have:=MN τ;rw[e]at this;simpa using this
 le:=λh _=>h
 pick:=by
  rintro k a b many ⟨τ,e⟩ h0 h1;obtain⟨r,τ',d⟩:=draw τ many h0 h1;refine⟨r,.lst (τ'.cells.map λi=>.im (.int i)),.dic (BI τ'),d.lo,d.hi,?_,τ',rfl⟩;rw[<- e,X2];exact d.eq
def C3{m:MA}{ls:Ls}{hd:Hd}{QE:D->Hd->Prop}(h:WA m ls hd λds x=>∃(a b:MO) (rest:Hd) (many:Int),x=a::b::rest/\ds=[.mu 1,.im (.int many)]/\T 0 a b/\0<many/\many<1073741824/\∀r a' b',T 0 a' b'->0<=r->r<many->QE (.im (.int r)) (a'::b'::rest)):WE (AE 2 F_pick m) ls hd QE:=by
 obtain⟨ds,x,e,a,b,rest,many,rfl,rfl,hT,h0,h1,q⟩:=h;exact tap.draw (n:=0) hT e h0 h1 λr a' b' hT' p1 p2=>q r a' b' hT' p1 p2
def RU{F:List D->Hd->Option (D×Hd)}{m:MA}{ls:Ls}{hd:Hd}{QE:D->Hd->Prop}{R:I->Prop}(h:WA m ls hd λds x=>∃(a b:MO) (rest:Hd) (as:List D),x=a::b::rest/\ds=.mu 1::as/\T 0 a b/\Bj 2 as=true/\(∀a b,T 0 a b->WF F (.mu 1::as) [a,b] λd x=>∃i a' b' g,d=.im i/\R i/\T 0 a' b'/\x=a'::b'::g)/\∀i a' b',T 0 a' b'->R i->QE (.im i) (a'::b'::rest)):WE (AE 2 F m) ls hd QE:=by
 obtain⟨ds,x,e,a,b,rest,as,rfl,rfl,hT,hc,hF,q⟩:=h;exact tap.call (n:=0) (c:=0) hT e hc hF q
def XO{way:Int}(h0:0<=way)(h5:way<5):∀a b,T 0 a b->WF F_cost [.mu 1,.im (.int way)] [a,b] λd x=>∃i a' b' g,d=.im i/\(∃c,i=BW c/\c.ok)/\T 0 a' b'/\x=a'::b'::g:=by
 rintro a b ⟨τ,e⟩;obtain⟨c,τ',g,q,ok,_⟩:=OW τ way h0 h5;rw[X3,<- e];exact WP.eq q ⟨_,_,_,g,rfl,⟨c,rfl,ok⟩,⟨τ',rfl⟩,rfl⟩
abbrev wkD(ws:List Wk):List D:=ws.map λw=>D.im (Al w)
def Rc:∀a b,T 0 a b->WF Gp [.mu 1] [a,b] λd x=>∃i a' b' g,d=.im i/\(∃ws,i=AW ws/\(1<=ws.length/\ws.length<=8)/\∀w∈ws,w.ok)/\T 0 a' b'/\x=a'::b'::g:=by
 intro a b hT;unfold Gp;refine BH rfl ?_;refine AB (Ac (C3 (A1 (A5 rfl (A1 (A8 (A7 ⟨a,b,[],2,rfl,rfl,hT,by decide,by decide,λr1 a b hT p1 q1=>A9 ?_⟩)))))));refine AB (Ac (AA (C3 (A1 (A5 rfl (A1 (A8 (A7 ⟨a,b,[],61,rfl,rfl,hT,by decide,by decide,λr2 a b hT p2 q2=>C3 (A1 (A5 rfl (A1 (A8 (A7 ⟨a,b,[],2,rfl,rfl,hT,by decide,by decide,λr3 a b hT p3 q3=>UL (EO (by omega) (by omega)) (A9 ?_)⟩)))))⟩))))))));have hb:0<=r2*r3/\r2*r3<=60:=by
  obtain h|h:r3=0∨r3=1:=by omega
  .subst h;omega
  .subst h;omega
 generalize r2*r3=be at hb;refine AB (Ac (Ah (B9 (A7 ⟨D0,A9 ?_⟩))));refine AB (G0 (MH (A1 (AA (A8 (C3 (A1 (A5 rfl (A1 (A8 (A7 ⟨a,b,[.lst []],8,rfl,rfl,hT,by decide,by decide,λr4 a b hT p4 q4=>DN (A7 ⟨_,rfl,FF (by omega) (by omega),?_⟩)⟩)))))))))));obtain⟨n,hn⟩:∃n:Nat,1+r4=(n:Int):=⟨(1+r4).toNat,by omega⟩
 rw[hn,toNat_natCast];refine ES (λl ls hd=>∃(ws:List Wk) (a b:MO) (z4 z5:Option D),ls=[some (.mu 1),some (.im (.int r1)),some (.im (.int be)),some (.mu 2),z4,z5]/\hd=[a,b,.lst (wkD ws)]/\T 0 a b/\ws.length+l.length=n/\∀w∈ws,w.ok) ⟨[],a,b,none,none,rfl,rfl,hT,by simp,by simp⟩ ?_ ?_
 .rintro d r ls hd ⟨ws,a,b,z4,z5,rfl,rfl,hT,hl,ok⟩;refine⟨_,rfl,?_⟩;dsimp only[set_cons_zero,set_cons_succ];simp at hl;refine AB (WP.mono (Q:=λf x=>∃(co:Int) (a b:MO),f=Fl.nx [some (.mu 1),some (.im (.int r1)),some (.im (.int be)),some (.mu 2),some d,some (.im (.int co))]/\x=[a,b,.lst (wkD ws)]/\T 0 a b/\0<=co/\co<=60) ?_ ?_)
  .refine Ac (MK (AG (AA (A5 rfl (A8 (FE ⟨_,rfl,?_⟩))))));by_cases h:r1=0
   .rw[if_pos (by simpa using h)];exact A5 rfl ⟨be,a,b,rfl,rfl,hT,hb.1,hb.2⟩
   .rw[if_neg (by simpa using h)];refine C3 (A1 (A5 rfl (A1 (A8 (A7 ⟨a,b,[.lst (wkD ws)],61,rfl,rfl,hT,by decide,by decide,λr5 a b hT p5 q5=>⟨r5,a,b,rfl,rfl,hT,p5,by omega⟩⟩)))))
  .rintro f x ⟨co,a,b,rfl,rfl,hT,c0,c1⟩;refine A9 ?_;refine Ic (MJ (A5 rfl ⟨⟨wkD ws,rfl⟩,A1 (AN (A1 (AA (A8 (C3 (A1 (A5 rfl (A1 (A8 (A7 ⟨a,b,[.lst (wkD ws)],20,rfl,rfl,hT,by decide,by decide,λr6 a b hT p6 q6=>DN (A1 (A5 rfl (A1 ?_)))⟩))))))))))⟩));refine RU (R:=λi=>∃c,i=BW c/\c.ok) (A1 (A5 rfl (A1 (C3 (A1 (A5 rfl (A1 (A8 (A7 ⟨a,b,[.lst (wkD ws)],5,rfl,rfl,hT,by decide,by decide,λr7 a b hT p7 q7=>A7 ⟨a,b,[.lst (wkD ws)],_,rfl,rfl,hT,rfl,XO p7 q7,?_⟩⟩)))))))));rintro i a b hT ⟨c,rfl,hc⟩;refine A7 ⟨Ay,A7 (K7 (ds:=wkD ws) rfl (Ej (by simp;omega)) ⟨B8 _,ws++[⟨1+r6,co,c⟩],a,b,_,_,rfl,?_,hT,by simp;omega,λw hw=>?_⟩)⟩
   .simp[wkD,Al]
   .rcases mem_append.mp hw with hw|hw
    .exact ok w hw
    .rw[mem_singleton]at hw;subst hw;exact⟨by simp;omega,by simp;omega,c0,c1,hc⟩
 .rintro ls hd ⟨ws,a,b,z4,z5,rfl,rfl,hT,hl,ok⟩;refine A9 (AF (Az (A1 (A5 rfl (A7 (CC (ds:=wkD ws) rfl rfl ⟨_,a,b,[.lst (wkD ws)],?_,⟨ws,rfl,by simp at hl;omega,ok⟩,hT,rfl⟩))))));rw[show wkD ws=(ws.map Al).map D.im by simp[wkD],CF]
open An
def Cu{ma mb:ME}{ls:Ls}{hd:Hd}{QA:List D->Hd->Prop}(h:WE ma ls hd λd x=>WE mb ls x λe y=>∃i j xs ys,d=.mu i/\e=.mu j/\y[i]?=some (.lst xs)/\y[j]?=some (.lst ys)/\Bh (xs.length+ys.length)/\QA (xs++ys) y):WA (CA ma mb) ls hd QA:=by
 obtain⟨d,x,e1,e,y,e2,i,j,xs,ys,rfl,rfl,e3,e4,c,q⟩:=h;exact⟨_,_,by simp only[CA,e1,bind_some,e2,e3,e4,c,if_true],q⟩
def keep{a b a' b':MO}{g g':Hd}{t:Tv}{d:D}{n:Nat}(hn:n<=(a::b::g).length)(h:Is n (a::b::g) t d):Is n (a'::b'::(g++g')) t d:=h.mono (le_refl _) λk k2 kn=>by
 obtain⟨j,rfl⟩:∃j,k=j+2:=⟨k-2,by omega⟩
 simp only[List.getElem?_cons_succ];simp at hn;rw[List.getElem?_append_left (by omega)]
def keeps{a b a' b':MO}{g g':Hd}{t:List Tv}{d:List D}{n:Nat}(hn:n<=(a::b::g).length)(h:Iss n (a::b::g) t d):Iss n (a'::b'::(g++g')) t d:=h.mono (le_refl _) λk k2 kn=>by
 obtain⟨j,rfl⟩:∃j,k=j+2:=⟨k-2,by omega⟩
 simp only[List.getElem?_cons_succ];simp at hn;rw[List.getElem?_append_left (by omega)]
def JE{a b:MO}{g:Hd}(hT:T 0 a b):WF DM [.mu 1] (a::b::g) λd x=>∃a' b' g' t,x=a'::b'::(g++g')/\T 0 a' b'/\Is x.length x t d/\Bo (10^60) 200 2 2 t:=by
 unfold DM;refine BH rfl ?_;refine AB (Ac (Ah (B9 ?_)));refine A1 (A8 (A1 (A8 (A1 (A8 (A1 (A8 (A1 (A8 (A1 (A8 ?_)))))))))));refine A1 (AN (A7 ⟨D0,?_⟩));refine A1 (Ah (B9 (A7 ⟨D0,?_⟩)));refine A1 (AN (A1 (A8 (A7 ⟨BG,?_⟩))));refine A1 (Ah (B9 (A1 (A8 (A7 ⟨BG,?_⟩)))));refine A1 (Cr (A8 ⟨_,rfl,?_⟩));refine A1 (A8 (A1 (A8 (A1 (A8 ?_)))));refine A1 (AA (A8 (A8 (Ie (k:=50) (by decide) ?_))));refine A1 (AN (A1 (AN (A7 ⟨D0,A7 ⟨BG,?_⟩⟩))));refine A1 (AN (A1 (A8 (A1 (A8 (A7 ⟨Cz,?_⟩))))));refine A1 (AN (A1 (A8 (A1 (A8 (A7 ⟨Cz,A7 ⟨AM (by simp),A9 ?_⟩⟩))))));generalize hds:[D.im .non,_,_,_,_,_,_,_,_,_,_,_,_,_,_,_,_,_]=ds;refine AF (AA (A5 rfl (C3 (A1 (A5 rfl (A1 (A8 (A7 ⟨a,b,g++[.lst [],.lst [.im (.int 2)],.lst ds],18,by simp,rfl,hT,by decide,by decide,λr a b hT p q=>?_⟩))))))));have hl:(a::b::g++[MO.lst []]).length=g.length+3:=by simp
 have key:∀h:Hd,h=a::b::(g++[.lst [],.lst [.im (.int 2)],.lst ds])->Iss h.length h ([.non,.bl true,.bl false,.str "",.str "late",.str "0",.tup [],.lst [],.tup [.int 0],.lst [.int 2],.int (-1),.int 0,.int 1,.int 3,.int (10^50),.tup [.tup []],.tup [.int 0,.int 1],.tup [.str "ends",.int 2]]:List Tv) ds:=by
  rintro h rfl;subst hds;refine .cons (AV .non) (.cons (AV (.bl true)) (.cons (AV (.bl false)) (.cons (AV (.str "")) (.cons (AV (.str "late")) (.cons (AV (.str "0")) (.cons (AV (.tup [])) ?_))))));refine .cons ?_ (.cons (AV (.tup [.int 0])) (.cons ?_ (.cons (AV (.int (-1))) (.cons (AV (.int 0)) (.cons (AV (.int 1)) (.cons (AV (.int 3)) (.cons (AV (.int (10^50))) (.cons (AV (.tup [.tup []])) (.cons (AV (.tup [.int 0,.int 1])) (.one (AV (.tup [.str "ends",.int 2]))))))))))))
  .simp only[Is];exact⟨g.length+2,[],by simp,by omega,by simp,by simp,Iss.nil⟩
  .simp only[Is];exact⟨g.length+3,[.im (.int 2)],by simp,by omega,by simp,by simp,.one (AV (.int 2))⟩
 obtain⟨d,t,e1,e2,e3⟩:=RW (key _ rfl) p q;refine Ab (ds:=ds) (by rw[Md,NB];simp) e1 ⟨a,b,_,t,rfl,hT,e3,?_⟩;have all:∀t∈([.non,.bl true,.bl false,.str "",.str "late",.str "0",.tup [],.lst [],.tup [.int 0],.lst [.int 2],.int (-1),.int 0,.int 1,.int 3,.int (10^50),.tup [.tup []],.tup [.int 0,.int 1],.tup [.str "ends",.int 2]]:List Tv),Bo (10^60) 200 2 2 t:=by
  intro t ht;simp only[mem_cons,not_mem_nil,or_false]at ht;rcases ht with rfl|rfl|rfl|rfl|rfl|rfl|rfl|rfl|rfl|rfl|rfl|rfl|rfl|rfl|rfl|rfl|rfl|rfl
  all_goals refine⟨?_,?_,?_,?_⟩
  all_goals (simp only[Gq,Gqs,An.wt,wts,dep,B0,An.tl]<;>decide +kernel)
 exact all t e2
def PB(m w dp l:Nat)(g:Hd)(d:D)(x:Hd):Prop:=∃a' b' g' t,x=a'::b'::(g++g')/\T 0 a' b'/\Is x.length x t d/\Bo (m+1) (2*w+400) (dp+4) (max l 2+1) t
def Ap{hd:Hd}{d:D}{ds:List D}(h:AR d=some ds):BL hd d=some ds:=by unfold BL;rw[h]
def K1{m:MA}{ls:Ls}{hd:Hd}{i:Nat}{r:Int}{Q:D->Hd->Prop}{mw w dp l:Nat}(h:WA m ls hd λds x=>ls[i]?=some (some (.im (.int r)))/\∃ts,Iss x.length x ts ds/\0<=r/\r<ts.length/\(∀t∈ts,Bo mw w dp l t)/\∀d t,Is x.length x t d->Bo mw w dp l t->Q d x):WE (Cm m (A4 i)) ls hd Q:=by
 obtain⟨ds,x,e,e1,ts,h1,h2,h3,h4,q⟩:=h;obtain⟨d,t,e2,ht,hi⟩:=RW h1 h2 h3;exact UQ ⟨ds,x,e,A5 e1 ⟨r,d,rfl,e2,q d t hi (h4 t ht)⟩⟩
def FL{m w dp l:Nat}{t:Tv}(hm:10^60<=m)(h:Bo (10^60) 200 2 2 t):Bo (m+1) (2*w+400) (dp+4) (max l 2+1) t:=h.mono (by omega) (by omega) (by omega) (by omega)
def eqv_nil(ts:List Tv):PyData.eqv (pyT (.tup ts)) (I.py (.tup []))=ts.isEmpty:=by
 cases ts with
 |nil=>rfl
 |cons t r=>rw[pyT,F7,I.py,I.pys];rfl
def Di{n:Nat}{h g:Hd}{t:Tv}{d:D}(hn:n<=h.length)(q:Is n h t d):Is n (h++g) t d:=q.mono (le_refl _) λk _ kn=>List.getElem?_append_left (by omega)
def HK{n:Nat}{h g:Hd}{t:List Tv}{d:List D}(hn:n<=h.length)(q:Iss n h t d):Iss n (h++g) t d:=q.mono (le_refl _) λk _ kn=>List.getElem?_append_left (by omega)
def Ci{n n':Nat}{h:Hd}{t:Tv}{d:D}(hn:n<=n')(q:Is n h t d):Is n' h t d:=q.mono hn λk _ _=>rfl
def EW{n n':Nat}{h:Hd}{t:List Tv}{d:List D}(hn:n<=n')(q:Iss n h t d):Iss n' h t d:=q.mono hn λk _ _=>rfl
section
variable{m w dp l:Nat}{a b:MO}{g:Hd}{d dO:D}{tO:Tv}{r k:Int}{ls:Ls}
def Rj{ts:List Tv}{z3 z6:Option D}(hm:10^60<=m)(hw:w<=100000){h:Hd}{g1:Hd}(eh:h=a::b::(g++g1))(hT:T 0 a b)(hI:Is h.length h (.tup ts) d)(hO:Is h.length h tO dO)(bt:Bo m w dp l (.tup ts))(bO:Bo (10^60) 200 2 2 tO)(r0:0<=r)(r1:r<7):
 WS (AC (AS 3 (AE 2 F_pick (A0 (A4 0) (A0 (mOp AQ (mCB (f1 true BA) (A0 (A4 1) A6)) (mC (.int 1))) A6))))
 (AC (AS 6 (Ad (Aq (A0 (Ad (Dm (A4 1))) (A0 (mOp AQ (mOp CJ (BF (A4 1) AT (Aa (A4 3))) (AL (A0 (A4 5) A6))) (BF (A4 1) (Aa (A4 3)) AT)) (A0 (mOp CJ (BF (A4 1) AT (Aa (A4 3))) (BF (A4 1) (Aa (mOp AQ (A4 3) (mC (.int 1)))) AT)) (A0 (mOp CJ (BF (A4 1) AT (Aa (mOp AQ (A4 3) (mC (.int 1))))) (BF (A4 1) (Aa (A4 3)) AT)) A6)))))))
 (AO (Cm (CA (A4 6) (Ad (Aq (A0 (mOp CJ (mOp CJ (BF (A4 1) AT (Aa (A4 3))) (Fc (BF (A4 1) (Aa (A4 3)) (Aa (mOp AQ (A4 3) (mC (.int 2))))) (CU (mC (.int 1))))) (BF (A4 1) (Aa (mOp AQ (A4 3) (mC (.int 2)))) AT)) (A0 (DU (A4 1) (CU (mC (.int 1)))) (A0 (A4 5) A6)))))) (A4 4)))))
  [some (.mu 1),some d,some (.im (.int k)),z3,some (.im (.int r)),some dO,z6] h λfl x=>∃d',fl=.rt d'/\PB m w dp l g d' x:=by
 obtain⟨ds,hv,hs⟩:=hI.view;obtain⟨g0,w0,p0,l0⟩:=bt.tup;have hlen:=hs.len;have hwl:=Ib ts;have hl5:ds.length<=100000:=by omega
 subst eh;refine AB (Ac (C3 (A1 (A5 rfl (A1 (AA (Az (A1 (A5 rfl (A7 (CC (ds:=ds) (by rw[if_pos rfl];exact Ap hv) rfl (A8 (DN (A7 ⟨a,b,g++g1,(ds.length:Int)+1,rfl,rfl,hT,by omega,by omega,λr3 a b hT p q=>A9 ?_⟩))))))))))))));obtain⟨j,rfl⟩:∃j:Nat,r3=(j:Int):=⟨r3.toNat,by omega⟩
 have hs:Iss (a::b::(g++g1)).length (a::b::(g++g1)) ts ds:=by have:=keeps (g':=[]) (a':=a) (b':=b) (le_refl _) hs;rw[append_nil]at this;exact this
 have hO:Is (a::b::(g++g1)).length (a::b::(g++g1)) tO dO:=by have:=keep (g':=[]) (a':=a) (b':=b) (le_refl _) hO;rw[append_nil]at this;exact this
 generalize eH:a::b::(g++g1)=h at *;have hn:h.length=(a::b::(g++g1)).length:=by rw[<- eH]
 have tl:∀n,(ds.take n).length<=ds.length:=λn=>by rw[length_take];omega
 have dl:∀n,(ds.drop n).length<=ds.length:=λn=>by rw[length_drop];omega
 refine AB (Ac (Ah (B9 (A1 (Ah (Gc (A5 rfl ⟨ds,Ap hv,?_⟩)))))));refine A1 (AA (AA (Ju (j:=3) rfl hv rfl (AN (A1 (A5 rfl (A7 ⟨BG,DJ (AD _) (AD _) (by have:=tl j;simp;omega) (Ql (j:=3) rfl hv rfl (CO (AD _) (AD _) (by simp) (by have:=tl j;have:=dl j;simp;omega) ?_))⟩)))))));refine A1 (AA (Ju (j:=3) rfl hv rfl (KJ (c:=1) (j:=3) rfl hv rfl (DJ (AD _) (AD _) (by have:=tl j;have:=dl (j+1);omega) ?_))));refine A1 (AA (UZ (j:=3) rfl hv rfl (Ql (j:=3) rfl hv rfl (DJ (AD _) (AD _) (by have:=tl (j+1);have:=dl j;omega) (A7 ⟨AM (by simp),A9 ?_⟩)))));generalize eA:[D.mu h.length,_,_,_]=A;refine AF (K1 (i:=4) (r:=r) (mw:=m+1) (w:=2*w+400) (dp:=dp+4) (l:=max l 2+1) (Cu (A5 rfl (Ah (B9 ?_)))));refine A1 (AA (AA (Ju (j:=3) rfl hv rfl (Rf (UY (j:=3) rfl hv rfl (Cr (A8 ⟨_,rfl,rfl,_,AD _,DJ (AD _) (AD _) (by have:=tl j;simp;omega) (KJ (c:=2) (j:=3) rfl hv rfl (DJ (AD _) (AD _) (by have:=tl j;have:=dl (j+2);simp;omega) ?_))⟩)))))));refine A1 (Rh (A5 rfl (Cr (A8 ⟨_,rfl,rfl,ds,hv,A1 (A5 rfl (A7 ⟨Ay,?_⟩))⟩))));generalize eB:[AK (List.take j ds++(List.take 2 (List.drop j ds)).reverse++List.drop (j+2) ds),AK ds.reverse,dO]=B;refine⟨h.length+1,h.length+2,A,B,by simp,by simp,by simp,by simp,AM (by subst eA;subst eB;simp),rfl,[.lst ts,.tup ((ts.take j++[tO])++ts.drop j),.tup (ts.take j++ts.drop (j+1)),.tup (ts.take (j+1)++ts.drop j),.tup ((ts.take j++((ts.drop j).take 2).reverse)++ts.drop (j+2)),.tup ts.reverse,tO],?_,r0,by simpa using r1,?_,λd' t' hi bo=>⟨d',rfl,a,b,g1++[.lst ds,.lst A,.lst B],t',by rw[<- eH];simp,hT,hi,bo⟩⟩
 .subst eA;subst eB;have h2:2<=h.length:=by rw[hn];simp
  generalize eX:h++[MO.lst ds]++[MO.lst _]++[MO.lst _]=X;have hX:h.length<=X.length:=by rw[<- eX];simp
  have hX2:h.length<X.length:=by rw[<- eX];simp
  have u:Iss X.length X ts ds:=by rw[<- eX,append_assoc,append_assoc];exact EW (by simp) (HK (le_refl _) hs)
  have o:Is X.length X tO dO:=by rw[<- eX,append_assoc,append_assoc];exact Ci (by simp) (Di (le_refl _) hO)
  refine .cons ?_ (.cons (((u.take j).app (.one o)).app (u.drop j)).tup (.cons ((u.take j).app (u.drop (j+1))).tup (.cons ((u.take (j+1)).app (u.drop j)).tup (.cons (((u.take j).app ((u.drop j).take 2).rev).app (u.drop (j+2))).tup (.cons u.rev.tup (.one o))))));simp only[Is];exact⟨h.length,ds,rfl,h2,hX2,by rw[<- eX];simp,u⟩
 .have s0:=CW ts j;have s1:=CW ts (j+1);have s2:=CW ts (j+2);have s3:=CW (ts.drop j) 2;rw[List.drop_drop]at s3;have s4:=LU ((ts.drop j).take 2);have bw:=bO.wt;have tk:∀n u,u∈ts.take n->u∈ts:=λn u hu=>mem_of_mem_take hu;have dr:∀n u,u∈ts.drop n->u∈ts:=λn u hu=>List.mem_of_mem_drop hu;intro t ht;simp only[mem_cons,not_mem_nil,or_false]at ht;rcases ht with rfl|rfl|rfl|rfl|rfl|rfl|rfl
  .exact(FU hm bt (λu hu=>.inl hu) (by omega) (by omega)).2
  .refine(FU hm bt (λu hu=>?_) ?_ ?_).1
   .simp only[mem_append,mem_singleton]at hu;rcases hu with(hu|rfl)|hu
    .exact .inl (tk _ _ hu)
    .exact .inr bO
    .exact .inl (dr _ _ hu)
   .rw[Bw,Bw];simp only[wts];omega
   .simp;omega
  .refine(FU hm bt (λu hu=>?_) ?_ ?_).1
   .rcases mem_append.mp hu with hu|hu
    .exact .inl (tk _ _ hu)
    .exact .inl (dr _ _ hu)
   .rw[Bw];omega
   .simp;omega
  .refine(FU hm bt (λu hu=>?_) ?_ ?_).1
   .rcases mem_append.mp hu with hu|hu
    .exact .inl (tk _ _ hu)
    .exact .inl (dr _ _ hu)
   .rw[Bw];omega
   .simp;omega
  .refine(FU hm bt (λu hu=>?_) ?_ ?_).1
   .simp only[mem_append,List.mem_reverse]at hu;rcases hu with(hu|hu)|hu
    .exact .inl (tk _ _ hu)
    .exact .inl (dr _ _ (mem_of_mem_take hu))
    .exact .inl (dr _ _ hu)
   .rw[Bw,Bw];omega
   .simp;omega
  .refine(FU hm bt (λu hu=>.inl (by simpa using hu)) ?_ (by simp)).1;rw[LU];omega
  .exact FL hm bO
def IZ{t:Tv}(hm:10^60<=m)(bt:Bo m w dp l t):Bo (m+1) (2*w+400) (dp+4) (max l 2+1) (.tup [t])/\Bo (m+1) (2*w+400) (dp+4) (max l 2+1) (.lst [t]):=by
 have h1:=bt.gd;have h2:=bt.wt;have h3:=bt.dp;exact⟨Dz (λu hu=>by rw[mem_singleton]at hu;subst hu;exact h1.mono (by omega)) (by simp only[wts];omega) (by simp only[B0];omega) (by simp),Ia (λu hu=>by rw[mem_singleton]at hu;subst hu;exact h1.mono (by omega)) (by simp only[wts];omega) (by simp only[B0];omega) (by simp)⟩
def US{v:Bool}{z3 z6:Option D}(hm:10^60<=m){h:Hd}{g1:Hd}(eh:h=a::b::(g++g1))(hT:T 0 a b)(hO:Is h.length h tO dO)(bt:Bo m w dp l (.bl v))(bO:Bo (10^60) 200 2 2 tO)(r0:0<=r)(r1:r<7):
 WS (AO (Cm (Aq (A0 (EE (A4 1)) (A0 (mCB Kx (A0 (A4 1) A6)) (A0 (mCB El (A0 (A4 1) A6)) (A0 (AL (A0 (A4 1) A6)) (A0 (mC .non) (A0 (Ad (Aq (A0 (A4 1) A6))) (A0 (A4 5) A6)))))))) (A4 4)))
  [some (.mu 1),some (.im (.bl v)),some (.im (.int k)),z3,some (.im (.int r)),some dO,z6] h λfl x=>∃d',fl=.rt d'/\PB m w dp l g d' x:=by
 refine AF (K1 (i:=4) (r:=r) (mw:=m+1) (w:=2*w+400) (dp:=dp+4) (l:=max l 2+1) (B9 ?_));refine A1 (Ig (AG (A5 rfl ⟨_,rfl,?_⟩)));refine A1 (Az (A1 (A5 rfl (A7 ⟨_,_,rfl,?_⟩))));refine A1 (Az (A1 (A5 rfl (A7 (Ra ?_)))));refine A1 (AN (A1 (A5 rfl (A7 ⟨BG,?_⟩))));refine A1 (A8 (A1 (Ah (B9 (A1 (A5 rfl (A7 ⟨BG,?_⟩)))))));refine A1 (A5 rfl (A7 ⟨AM (by simp),rfl,[.bl (!v),.int (if v then 1 else 0),.str (if v then "True" else "False":Str),.tup [.bl v],.non,.lst [.bl v],tO],?_,r0,by simpa using r1,?_,λd' t' hi bo=>⟨d',rfl,a,b,g1++[.lst [.im (.bl v)]],t',by rw[eh];simp,hT,hi,bo⟩⟩))
 .have h2:2<=h.length:=by rw[eh];simp
  refine .cons (AV (.bl (!v))) (.cons (AV (.int (if v then 1 else 0))) (.cons (AV (.str (if v then "True" else "False":Str))) (.cons (AV (.tup [.bl v])) (.cons (AV .non) (.cons ?_ (.one (Ci (by simp) (Di (le_refl _) hO))))))));simp only[Is];exact⟨h.length,_,rfl,h2,by simp,by simp,.one (AV (.bl v))⟩
 .intro t ht;simp only[mem_cons,not_mem_nil,or_false]at ht;rcases ht with rfl|rfl|rfl|rfl|rfl|rfl|rfl
  .exact NR (by omega)
  .refine FV ?_ ?_
   .cases v<;>simp
   .have:Nat.log2 (Int.natAbs (if v then 1 else 0))<=1:=by cases v<;>decide
    omega
  .refine Dc ?_ ?_
   .cases v<;>decide
   .have:(if v then "True" else "False":Str).length<=5:=by cases v<;>decide
    omega
  .exact(IZ hm bt).1
  .exact Of (by omega)
  .exact(IZ hm bt).2
  .exact FL hm bO
def Rl{v:Int}{z3 z6:Option D}(hm:10^60<=m)(hm2:m<=10^70){h:Hd}{g1:Hd}(eh:h=a::b::(g++g1))(hT:T 0 a b)(hO:Is h.length h tO dO)(bt:Bo m w dp l (.int v))(bO:Bo (10^60) 200 2 2 tO)(r0:0<=r)(r1:r<7):
 WS (AO (Cm (Aq (A0 (mOp AQ (A4 1) (mC (.int 1))) (A0 (mOp CI (A4 1) (mC (.int 1))) (A0 (mOp CI (mC (.int 0)) (A4 1)) (A0 (mOp gEq (A4 1) (mC (.int 1))) (A0 (mCB El (A0 (A4 1) A6)) (A0 (AL (A0 (A4 1) A6)) (A0 (A4 5) A6)))))))) (A4 4)))
  [some (.mu 1),some (.im (.int v)),some (.im (.int k)),z3,some (.im (.int r)),some dO,z6] h λfl x=>∃d',fl=.rt d'/\PB m w dp l g d' x:=by
 have hv:v.natAbs<=m:=by have:=bt.gd;simpa only[Gq]using this
 have hwv:v.natAbs.log2+2<=w:=by have:=bt.wt;simpa only[An.wt]using this
 have hb:v.natAbs<10^71:=lt_of_le_of_lt (le_trans hv hm2) (by decide);have lg:v.natAbs.log2<1920:=by
  by_cases z:v.natAbs=0
  .rw[z];decide
  .exact lt_of_lt_of_le ((log2_lt z).mpr (lt_of_lt_of_le hb (show 10^71<=2^240 by decide))) (by decide)
 refine AF (K1 (i:=4) (r:=r) (mw:=m+1) (w:=2*w+400) (dp:=dp+4) (l:=max l 2+1) (B9 ?_));refine A1 (AA (A5 rfl (A8 (DN ?_))));refine A1 (AA (A5 rfl (A8 (Hk ?_))));refine A1 (AA (A8 (A5 rfl (Hk ?_))));refine A1 (AA (A5 rfl (A8 (FE ?_))));refine A1 (Az (A1 (A5 rfl (A7 (LV lg ?_)))));refine A1 (AN (A1 (A5 rfl (A7 ⟨BG,?_⟩))));refine A1 (A5 rfl (A7 ⟨AM (by simp),rfl,[.int (v+1),.int (v-1),.int (0-v),.bl (decide (v=1)),.str (Str.ofString (toString v)),.tup [.int v],tO],?_,r0,by simpa using r1,?_,λd' t' hi bo=>⟨d',rfl,a,b,g1,t',eh,hT,hi,bo⟩⟩))
 .exact .cons (AV (.int (v+1))) (.cons (AV (.int (v-1))) (.cons (AV (.int (0-v))) (.cons (AV (.bl (decide (v=1)))) (.cons (AV (.str (Str.ofString (toString v)))) (.cons (AV (.tup [.int v])) (.one hO))))))
 .have lo:=QC v.natAbs;intro t ht;simp only[mem_cons,not_mem_nil,or_false]at ht;rcases ht with rfl|rfl|rfl|rfl|rfl|rfl|rfl
  .refine FV (by omega) ?_;have:=Fi (show(v+1).natAbs<=v.natAbs+1 by omega);omega
  .refine FV (by omega) ?_;have:=Fi (show(v-1).natAbs<=v.natAbs+1 by omega);omega
  .refine FV (by omega) ?_;have:=Fi (show(0-v).natAbs<=v.natAbs by omega);omega
  .exact NR (by omega)
  .refine Dc (MB v) ?_;have:=Lr hb;omega
  .exact(IZ hm bt).1
  .exact FL hm bO
def Rk{v:Str}{z3 z6:Option D}(hm:10^60<=m)(hw:w<=100000){h:Hd}{g1:Hd}(eh:h=a::b::(g++g1))(hT:T 0 a b)(hO:Is h.length h tO dO)(bt:Bo m w dp l (.str v))(bO:Bo (10^60) 200 2 2 tO)(r0:0<=r)(r1:r<7):
 WS (AO (Cm (Aq (A0 (mOp Gm (A4 1) (mC (.str "s"))) (A0 (HW (A4 1) AT (Aa (CU (mC (.int 1))))) (A0 (HV (A4 1)) (A0 (DU (A4 1) (CU (mC (.int 1)))) (A0 (AL (A0 (A4 1) A6)) (A0 (mC (.str "steps")) (A0 (A4 5) A6)))))))) (A4 4)))
  [some (.mu 1),some (.im (.str v)),some (.im (.int k)),z3,some (.im (.int r)),some dO,z6] h λfl x=>∃d',fl=.rt d'/\PB m w dp l g d' x:=by
 have hv:Asc v:=by have:=bt.gd;simpa only[Gq]using this
 have hwv:v.length+1<=w:=by have:=bt.wt;simpa only[An.wt]using this
 obtain⟨u1,u2⟩:=XU hv;have r2:=Lh v;have c2:=XN v none (some (-1));refine AF (K1 (i:=4) (r:=r) (mw:=m+1) (w:=2*w+400) (dp:=dp+4) (l:=max l 2+1) (B9 ?_));refine A1 (AA (A5 rfl (A8 (Rb (by
  have:("s":Str).length=1:=by decide
  omega) ?_))))
 refine A1 (UO (A5 rfl (D7 (Bc (Cr (A8 ⟨_,rfl,_,rfl,v,rfl,by omega,?_⟩))))));refine A1 (UN (A5 rfl ⟨v,rfl,by omega,?_⟩));refine A1 (Rg (A5 rfl (Cr (A8 ⟨_,rfl,rfl,v,rfl,by omega,?_⟩))));refine A1 (AN (A1 (A5 rfl (A7 ⟨BG,?_⟩))));refine A1 (A8 (A1 (A5 rfl (A7 ⟨AM (by simp),rfl,[.str (v++"s"),.str (Fq v none (some (-1))),.str (Txt.upper v),.str (GD v),.tup [.str v],.str "steps",tO],?_,r0,by simpa using r1,?_,λd' t' hi bo=>⟨d',rfl,a,b,g1,t',eh,hT,hi,bo⟩⟩))))
 .exact .cons (AV (.str (v++"s"))) (.cons (AV (.str (Fq v none (some (-1))))) (.cons (AV (.str (Txt.upper v))) (.cons (AV (.str (GD v))) (.cons (AV (.tup [.str v])) (.cons (AV (.str "steps")) (.one hO))))))
 .intro t ht;simp only[mem_cons,not_mem_nil,or_false]at ht;rcases ht with rfl|rfl|rfl|rfl|rfl|rfl|rfl
  .refine Dc (UH hv (by decide)) ?_;rw[U0];have:("s":Str).length=1:=by decide
   omega
  .exact Dc (UG hv _ _) (by omega)
  .exact Dc u1 (by omega)
  .exact Dc (UF hv) (by omega)
  .exact(IZ hm bt).1
  .refine Dc (by decide) ?_;have:("steps":Str).length=5:=by decide
   omega
  .exact FL hm bO
end
def GX:∀(f k:Nat),k<f->∀{m w dp l:Nat},10^60<=m->m<=10^70->w<=100000->dp<=25->∀{a b:MO} {g:Hd} {t:Tv} {d:D},T 0 a b->Is (a::b::g).length (a::b::g) t d->Bo m w dp l t ->
 WF (GY f) [.mu 1,d,.im (.int (k:Int))] (a::b::g) (PB m w dp l g)
 |0,k,hk,_,_,_,_,_,_,_,_,_,_,_,_,_,_,_,_=>absurd hk (Nat.not_lt_zero _)
 |f+1,k,hk,m,w,dp,l,hm,hm2,hw,hdp,a,b,g,t,d,hT,hI,bt=>by
  show WF (mkF 3 7 (OJ (GY f))) _ _ _;refine BH rfl ?_;change WS _ [some (.mu 1),some d,some (.im (.int (k:Int))),none,none,none,none] _ _;refine AB (WP.mono (Q:=λfl x=>(∃d',fl=.rt d'/\PB m w dp l g d' x)∨∃a' b',fl=.nx [some (.mu 1),some d,some (.im (.int (k:Int))),none,none,none,none]/\x=a'::b'::g/\T 0 a' b') ?_ ?_)
  .refine AY (Hj (Af (Ak (A5 rfl ⟨_,hI.isD .tuple,_,rfl,?_⟩))));by_cases ht:∃ts,t=.tup ts
   .obtain⟨ts,rfl⟩:=ht;rw[if_pos (by simp[ty])];obtain⟨ds,hv,hs⟩:=hI.view;obtain⟨g0,w0,p0,l0⟩:=bt.tup;have hlen:=hs.len;have hwl:=Ib ts;refine Hj (AG (AA (A5 rfl (AN (A7 ⟨D0,?_⟩)))));rw[JN];have bp:=bt.dp;refine K6 (hI.pyN (by omega)) (DQ 30 (.tup [])) ⟨(bt.gd.ok hm2).lay,by simp[I.py,I.pys,PyData.canLay0,PyData.canLayAll0],le_trans (Nat.min_le_right _ _) (by simp[I.py,I.pys,PyData.depth,PyData.depthAll])⟩ ⟨_,rfl,?_⟩;rw[eqv_nil];cases ts with
    |nil=>
     rw[if_neg (by simp)];exact⟨(λh=>by cases h),λ_=>AU (.inr ⟨a,b,rfl,rfl,hT⟩)⟩
    |cons t0 tr=>
     rw[if_pos (by simp)];refine Hj (AG (AA (A5 rfl (A8 (Jr ⟨_,rfl,?_⟩)))));by_cases hk0:0<k
     .rw[if_pos (by simpa using hk0)];refine AG (AA (C3 (A1 (A5 rfl (A1 (A8 (A7 ⟨a,b,g,5,rfl,rfl,hT,by decide,by decide,λr a b hT p q=>A8 (Jr ⟨_,rfl,λ_=>?_,λ_=>AU (.inr ⟨a,b,rfl,rfl,hT⟩)⟩)⟩)))))));have hs:Iss (a::b::g).length (a::b::g) (t0::tr) ds:=by have:=keeps (g':=[]) (a':=a) (b':=b) (le_refl _) hs;rw[append_nil]at this;exact this
      refine AB (Ac (C3 (A1 (A5 rfl (A1 (Az (A1 (A5 rfl (A7 (CC (ds:=ds) (by rw[if_pos rfl];exact Ap hv) rfl (A7 ⟨a,b,g,(ds.length:Int),rfl,rfl,hT,by rw[hlen];simp,by omega,λr3 a b hT p q=>A9 ?_⟩)))))))))));have hs:Iss (a::b::g).length (a::b::g) (t0::tr) ds:=by have:=keeps (g':=[]) (a':=a) (b':=b) (le_refl _) hs;rw[append_nil]at this;exact this
      obtain⟨j,rfl⟩:∃j:Nat,r3=(j:Int):=⟨r3.toNat,by omega⟩
      have hj:j<(t0::tr).length:=by omega
      obtain⟨dj,ej,ij⟩:=hs.get (List.getElem?_eq_getElem hj);have mj:(t0::tr)[j]∈(t0::tr):=List.getElem_mem hj;have hwj:wt ((t0::tr)[j])<=wts (t0::tr):=by
       have s1:=CW (t0::tr) j;rw[List.drop_eq_getElem_cons hj]at s1;simp only[wts]at s1 ⊢;omega
      have bj:Bo m (wt ((t0::tr)[j])) (dp-1) (tl ((t0::tr)[j])) ((t0::tr)[j]):=⟨g0 _ mj,le_refl _,by have:=Dl mj;omega,le_refl _⟩
      refine AF (AA (AA (Ju (j:=3) rfl hv rfl (AN (A1 (AX (A1 (A5 rfl (A1 (AA (A5 rfl (A5 rfl (Ab (ds:=ds) (Ap hv) (Aj rfl ej) (A1 (AA (A5 rfl (A8 (Hk ?_))))))))))))))))));rw[show((k:Int)-1)=((k-1:Nat):Int) by omega];refine A7 ((GX f (k-1) (by omega) hm hm2 (show wt ((t0::tr)[j])<=100000 by omega) (by omega) hT ij bj).mono ?_);rintro d' x ⟨a,b,g',t',rfl,hT,hi,bo⟩;have u:Iss (a::b::(g++g')).length (a::b::(g++g')) (t0::tr) ds:=EW (by simp) (keeps (le_refl _) hs);have tlj:(ds.take j).length<=ds.length:=by rw[length_take];omega
      have dlj:(ds.drop (j+1)).length<=ds.length:=by rw[length_drop];omega
      refine A7 ⟨BG,DJ (AD _) (AD _) (by simp;omega) (KJ (c:=1) (j:=3) rfl hv rfl (CO (AD _) (AD _) (by simp) (by simp;omega) (.inl ⟨_,rfl,a,b,g',.tup (((t0::tr).take j++[t'])++(t0::tr).drop (j+1)),rfl,hT,(((u.take j).app (.one hi)).app (u.drop (j+1))).tup,?_⟩)))⟩;have s1:=CW (t0::tr) j;rw[List.drop_eq_getElem_cons hj]at s1;simp only[wts]at s1;have bw:=bo.wt;have bd:=bo.dp;have lt1:(((t0::tr).take j++[t'])++(t0::tr).drop (j+1)).length=(t0::tr).length:=by
       simp only[length_append,length_take,length_drop,length_singleton];omega
      refine Dz (λu hu=>?_) ?_ ?_ ?_ (by omega)
      .simp only[mem_append,mem_singleton]at hu;rcases hu with(hu|rfl)|hu
       .exact(g0 u (mem_of_mem_take hu)).mono (by omega)
       .exact bo.gd
       .exact(g0 u (List.mem_of_mem_drop hu)).mono (by omega)
      .rw[Bw,Bw];simp only[wts]at w0 ⊢;omega
      .have dt:B0 ((t0::tr).take j)<=B0 (t0::tr):=EQ λu hu=>Dl (mem_of_mem_take hu);have dd:B0 ((t0::tr).drop (j+1))<=B0 (t0::tr):=EQ λu hu=>Dl (List.mem_of_mem_drop hu);rw[Ep,Ep];simp only[B0]at dt dd p0 ⊢;omega
      .omega
     .rw[if_neg (by simpa using hk0)];exact⟨(λh=>by cases h),λ_=>AU (.inr ⟨a,b,rfl,rfl,hT⟩)⟩
   .rw[if_neg (by cases t<;>simp[ty]at ht ⊢)];exact⟨(λh=>by cases h),λ_=>AU (.inr ⟨a,b,rfl,rfl,hT⟩)⟩
  .rintro fl x (⟨d',rfl,h⟩|⟨a,b,rfl,rfl,hT⟩)
   .exact h
   refine A9 ?_;have hI:Is (a::b::g).length (a::b::g) t d:=by have:=keep (g':=[]) (a':=a) (b':=b) (le_refl _) hI;rw[append_nil]at this;exact this
   refine AB (Ac (C3 (A1 (A5 rfl (A1 (A8 (A7 ⟨a,b,g,7,rfl,rfl,hT,by decide,by decide,λr a b hT r0 r1=>A9 ?_⟩)))))));refine AB (Ac (AX (A1 (A5 rfl (A7 ((JE hT).mono ?_))))));rintro dO x ⟨a,b,g1,tO,rfl,hT,hO,bO⟩;refine A9 ?_;have hI:Is (a::b::(g++g1)).length (a::b::(g++g1)) t d:=Ci (by simp) (keep (le_refl _) hI);change WS _ [some (.mu 1),some d,some (.im (.int (k:Int))),none,some (.im (.int r)),some dO,none] _ _;have fin:∀(fl:Fl) (x:Hd),(∃d',fl=.rt d'/\PB m w dp l g d' x)->(match fl with|.rt d=>PB m w dp l g d x|.nx _=>PB m w dp l g (.im .non) x|_=>False):=by
    rintro fl x ⟨d',rfl,h⟩;exact h
   cases t with
   |tup ts=>
    refine AB (AY (Af (Ak (A5 rfl ⟨true,hI.isD .tuple,_,rfl,λ_=>?_,λh=>by cases h⟩))));exact WP.mono (Rj hm hw rfl hT hI hO bt bO r0 r1) (by rintro fl x ⟨d',rfl,h⟩;exact h)
   |bl v=>
    have hI2:=hI;simp only[Is]at hI;subst hI;refine AB (AY (Af (Ak (A5 rfl ⟨false,hI2.isD .tuple,_,rfl,(λh=>by cases h),λ_=>AU (A9 ?_)⟩))));refine AB (AY (Af (Ak (A5 rfl ⟨true,hI2.isD .bool,_,rfl,λ_=>?_,λh=>by cases h⟩))));exact WP.mono (US hm rfl hT hO bt bO r0 r1) (by rintro fl x ⟨d',rfl,h⟩;exact h)
   |int v=>
    have hI2:=hI;simp only[Is]at hI;subst hI;refine AB (AY (Af (Ak (A5 rfl ⟨false,hI2.isD .tuple,_,rfl,(λh=>by cases h),λ_=>AU (A9 ?_)⟩))));refine AB (AY (Af (Ak (A5 rfl ⟨false,hI2.isD .bool,_,rfl,(λh=>by cases h),λ_=>AU (A9 ?_)⟩))));refine AB (AY (Af (Ak (A5 rfl ⟨true,hI2.isD .int,_,rfl,λ_=>?_,λh=>by cases h⟩))));exact WP.mono (Rl hm hm2 rfl hT hO bt bO r0 r1) (by rintro fl x ⟨d',rfl,h⟩;exact h)
   |str v=>
    have hI2:=hI;simp only[Is]at hI;subst hI;refine AB (AY (Af (Ak (A5 rfl ⟨false,hI2.isD .tuple,_,rfl,(λh=>by cases h),λ_=>AU (A9 ?_)⟩))));refine AB (AY (Af (Ak (A5 rfl ⟨false,hI2.isD .bool,_,rfl,(λh=>by cases h),λ_=>AU (A9 ?_)⟩))));refine AB (AY (Af (Ak (A5 rfl ⟨false,hI2.isD .int,_,rfl,(λh=>by cases h),λ_=>AU (A9 ?_)⟩))));refine AB (AY (Af (Ak (A5 rfl ⟨true,hI2.isD .str,_,rfl,λ_=>?_,λh=>by cases h⟩))));exact WP.mono (Rk hm hw rfl hT hO bt bO r0 r1) (by rintro fl x ⟨d',rfl,h⟩;exact h)
   |non=>
    refine AB (AY (Af (Ak (A5 rfl ⟨false,hI.isD .tuple,_,rfl,(λh=>by cases h),λ_=>AU (A9 ?_)⟩))));refine AB (AY (Af (Ak (A5 rfl ⟨false,hI.isD .bool,_,rfl,(λh=>by cases h),λ_=>AU (A9 ?_)⟩))));refine AB (AY (Af (Ak (A5 rfl ⟨false,hI.isD .int,_,rfl,(λh=>by cases h),λ_=>AU (A9 ?_)⟩))));refine AB (AY (Af (Ak (A5 rfl ⟨false,hI.isD .str,_,rfl,(λh=>by cases h),λ_=>AU (A9 ?_)⟩))));exact AF (A5 rfl ⟨a,b,g1,tO,rfl,hT,hO,FL hm bO⟩)
   |lst ts=>
    refine AB (AY (Af (Ak (A5 rfl ⟨false,hI.isD .tuple,_,rfl,(λh=>by cases h),λ_=>AU (A9 ?_)⟩))));refine AB (AY (Af (Ak (A5 rfl ⟨false,hI.isD .bool,_,rfl,(λh=>by cases h),λ_=>AU (A9 ?_)⟩))));refine AB (AY (Af (Ak (A5 rfl ⟨false,hI.isD .int,_,rfl,(λh=>by cases h),λ_=>AU (A9 ?_)⟩))));refine AB (AY (Af (Ak (A5 rfl ⟨false,hI.isD .str,_,rfl,(λh=>by cases h),λ_=>AU (A9 ?_)⟩))));exact AF (A5 rfl ⟨a,b,g1,tO,rfl,hT,hO,FL hm bO⟩)
def Aw:Tv->Bool
 |.int _=>true
 |_=>false
def BQ:Tv->Int
 |.int i=>i
 |_=>0
def IH{n:Nat}{h:Hd}{t:Tv}{d:D}(hi:Is n h t d):WF Bk [d] h λd' x=>d'=.im (.bl (Aw t))/\x=h:=by
 unfold Bk;refine BH rfl ?_;refine AF (B5 (AG (Ak (A5 rfl ⟨_,hi.isD .int,_,rfl,?_⟩))));cases t with
 |int i=>
  rw[if_pos (by simp[ty])];exact Ig (AG (Ak (A5 rfl ⟨_,hi.isD .bool,_,rfl,by simp[ty,Aw]⟩)))
 |bl i=>
  rw[if_pos (by simp[ty])];exact Ig (AG (Ak (A5 rfl ⟨_,hi.isD .bool,_,rfl,by simp[ty,Aw]⟩)))
 |non=>rw[if_neg (by simp[ty])];exact⟨rfl,rfl⟩
 |str x=>rw[if_neg (by simp[ty])];exact⟨rfl,rfl⟩
 |tup x=>rw[if_neg (by simp[ty])];exact⟨rfl,rfl⟩
 |lst x=>rw[if_neg (by simp[ty])];exact⟨rfl,rfl⟩
def Ky:∀ns ms:List Int,PyData.eqvAll (ns.map PyData.int) (ms.map PyData.int)=decide (ns=ms)
 |[],[]=>by simp[PyData.eqvAll]
 |[],m::s=>by simp[PyData.eqvAll]
 |n::r,[]=>by simp[PyData.eqvAll]
 |n::r,m::s=>by
  simp only[map_cons,PyData.eqvAll,PyData.eqv,Ky r s,List.cons.injEq,Bool.decide_and];rfl
def IT:∀ns:List Int,PyData.depthAll (ns.map PyData.int)=0
 |[]=>by simp[PyData.depthAll]
 |n::r=>by simp[PyData.depthAll,PyData.depth,IT r]
def NZ{mi:MI}{ls:Ls}{hd:Hd}{QA:List D->Hd->Prop}(h:WI mi ls hd λp x=>∃ns:List Int,p.1=BB ns/\ns.length<64/\QA (BB (EC ns)) x):WA (Dj mi) ls hd QA:=by
 obtain⟨p,x,e,ns,e1,hl,q⟩:=h;refine⟨_,_,?_,q⟩;simp only[Dj,e,bind_some,e1,show Bb (BB ns)=some ns from JR ns,hl,if_true]
def Ln{hd:Hd}{k:Nat}{ns:List Int}(e:hd[k]?=some (.lst (BB ns))):pyD hd (.mu k)=some (.list (ns.map PyData.int)):=by
 show(match hd[k]? with|some (.lst ds)=>(BP ds).map λis=>PyData.list (I.pys is)|_=>none)=_;rw[e];show(BP (BB ns)).map _=_;rw[Cl,map_some,DG]
def KB{neg:Bool}{ma:ME}{ml:MA}{ls:Ls}{hd:Hd}{QE:D->Hd->Prop}(h:WE ma ls hd λd x=>WA ml ls x λds y=>∃ns ms:List Int,pyD y d=some (.list (ns.map PyData.int))/\ds=BB ms/\QE (.im (.bl (if neg then !decide (ns=ms)else decide (ns=ms)))) y):WE (CH neg ma ml) ls hd QE:=by
 obtain⟨d,x,e1,ds,y,e2,ns,ms,e3,rfl,q⟩:=h;refine⟨_,y,?_,q⟩;unfold CH;rw[e1];simp only[bind_some,e2];simp only[BB,Cl,bind_some,DG,e3];unfold J4;rw[if_pos ⟨Bd.lay_ints ns,Bd.lay_ints ms,by simp[PyData.depth,IT]⟩];simp only[PyData.eqv,Ky]
def Hr{F:List D->Hd->Option (D×Hd)}{spec:Tv->Bool}{N:Nat}{h:Hd}{ts:List Tv}{ds:List D}(hs:Iss N h ts ds)(hN:N<=h.length)(hF:∀t∈ts,∀d g,Is N (h++g) t d->WF F [d] (h++g) λd' x=>d'=.im (.bl (spec t))/\∃g',x=h++g++g'){QA:List D->Hd->Prop}(q:∀g,QA (blD (ts.map spec)) (h++g)):WP (B6 (Am 0) CG (AJ F (A0 (A4 0) A6)) [] ds [none] h) QA:=by
 refine Qf (λr es ls hd=>∃g us tr z,hd=h++g/\ts=us++tr/\Iss N h tr r/\es=blD (us.map spec)/\ls=[z]) ⟨[],[],ts,none,by simp,rfl,hs,rfl,rfl⟩ ?_ ?_
 .rintro d r es ls hd ⟨g,us,tr,z,rfl,rfl,hr,rfl,rfl⟩;cases tr with
  |nil=>simp only[Iss]at hr;cases hr
  |cons t tr=>
   simp only[Iss]at hr;obtain⟨d',r',e,hi,hr⟩:=hr;obtain⟨rfl,rfl⟩:=List.cons.inj e;refine⟨[some d],rfl,CY ?_⟩;rw[if_pos rfl];refine AX (A1 (A5 rfl (A7 ((hF t (by simp) d g (Di hN hi)).mono ?_))));rintro d' x ⟨rfl,g',rfl⟩;exact⟨B8 _,g++g',us++[t],tr,_,by simp,by simp,hr,by simp[blD],rfl⟩
 .rintro es ls hd ⟨g,us,tr,z,rfl,rfl,hr,rfl,rfl⟩;cases tr with
  |nil=>simpa using q g
  |cons t tr=>simp only[Iss]at hr;obtain⟨d',r',e,_⟩:=hr;cases e
def BJ(k:Int)(t:Tv):Bool:=Aw t&&decide (k<=BQ t)
def GN{n:Nat}{h:Hd}{t:Tv}{d:D}{k:Int}(hi:Is n h t d):WF Ax [.im (.int k),d] h λd' x=>d'=.im (.bl (BJ k t))/\x=h:=by
 unfold Ax;refine BH rfl ?_;refine AF (B5 (AG (AX (A1 (A5 rfl (A7 ((IH hi).mono ?_))))))) ;rintro d' x ⟨rfl,rfl⟩;refine⟨_,rfl,?_⟩;cases t with
 |int i=>
  simp only[Is]at hi;subst hi;rw[if_pos (by simp[Aw])];exact AA (A5 rfl (A5 rfl (MF ⟨by simp only[BJ,Aw,BQ,Bool.true_and];congr,rfl⟩)))
 |bl i=>rw[if_neg (by simp[Aw])];exact⟨rfl,rfl⟩
 |non=>rw[if_neg (by simp[Aw])];exact⟨rfl,rfl⟩
 |str x=>rw[if_neg (by simp[Aw])];exact⟨rfl,rfl⟩
 |tup x=>rw[if_neg (by simp[Aw])];exact⟨rfl,rfl⟩
 |lst x=>rw[if_neg (by simp[Aw])];exact⟨rfl,rfl⟩
def CZ(k:Nat):Tv->Bool
 |.tup ts=>decide (ts.length=k)
 |_=>false
def LX{n:Nat}{h:Hd}{t:Tv}{d:D}{k:Nat}(hi:Is n h t d):WF CN [.im (.int (k:Int)),d] h λd' x=>d'=.im (.bl (CZ k t))/\x=h:=by
 unfold CN;refine BH rfl ?_;refine AF (B5 (AG (Ak (A5 rfl ⟨_,hi.isD .tuple,_,rfl,?_⟩))));cases t with
 |tup ts=>
  obtain⟨ds,hv,hs⟩:=hi.view;have hl:=hs.len;rw[if_pos (by simp[ty])];refine AA (Az (A1 (A5 rfl (A7 (CC (ds:=ds) (by rw[if_pos rfl];exact Ap hv) rfl (A5 rfl (FE ⟨?_,rfl⟩)))))));simp[CZ,hl];omega
 |int i=>rw[if_neg (by simp[ty])];exact⟨rfl,rfl⟩
 |bl i=>rw[if_neg (by simp[ty])];exact⟨rfl,rfl⟩
 |non=>rw[if_neg (by simp[ty])];exact⟨rfl,rfl⟩
 |str x=>rw[if_neg (by simp[ty])];exact⟨rfl,rfl⟩
 |lst x=>rw[if_neg (by simp[ty])];exact⟨rfl,rfl⟩
def C6:Tv->Bool
 |.tup [a,b]=>Aw a&&(Aw b&&decide (0<=BQ b))
 |_=>false
def UV{t:Tv}(h:CZ 2 t=true):∃a b,t=.tup [a,b]:=by
 cases t with
 |tup ts=>
  simp[CZ]at h
  match ts,h with
  |[a,b],_=>exact⟨a,b,rfl⟩
 |_=>simp[CZ]at h
def Ip{t:Tv}(h:¬ CZ 2 t=true):C6 t=false:=by
 unfold C6;split
 .simp[CZ]at h
 .rfl
def Xg{n:Nat}{h:Hd}{t:Tv}{d:D}(hi:Is n h t d):WF Fs [d] h λd' x=>d'=.im (.bl (C6 t))/\x=h:=by
 unfold Fs;refine BH rfl ?_;refine AF (B5 (AG (AX (A1 (A8 (A1 (A5 rfl (A7 ((LX (k:=2) hi).mono ?_)))))))));rintro d' x ⟨rfl,rfl⟩;refine⟨_,rfl,?_⟩;by_cases ht:CZ 2 t=true
 .rw[if_pos ht];obtain⟨a,b,rfl⟩:=UV ht;obtain⟨ds,hv,hs⟩:=hi.view;simp only[Iss]at hs;obtain⟨da,_,rfl,ia,db,_,rfl,ib,rfl⟩:=hs;refine B5 (AG (AX (A1 (AA (A5 rfl (A8 (Ab (Ap hv) (Aj (k:=0) rfl rfl) (A7 ((IH ia).mono ?_)))))))));rintro d' x ⟨rfl,rfl⟩;refine⟨_,rfl,?_⟩;by_cases ha:Aw a=true
  .rw[if_pos ha];refine AX (A1 (A8 (A1 (AA (A5 rfl (A8 (Ab (Ap hv) (Aj (k:=1) rfl rfl) (A7 ((GN ib).mono ?_)))))))));rintro d' x ⟨rfl,rfl⟩;exact⟨by simp[C6,ha,BJ],rfl⟩
  .rw[if_neg ha];exact⟨by simp[C6,Bool.eq_false_iff.mpr ha],rfl⟩
 .rw[if_neg ht];exact⟨by rw[Ip ht],rfl⟩
def UM{ma mb:MI}{ls:Ls}{hd:Hd}{QI:List D×Gd->Hd->Prop}(h:WI ma ls hd λp x=>WI mb ls x λq y=>GOk y p.2/\QI (List.zipWith (λx y=>AK [x,y]) p.1 q.1,p.2++q.2) y):WI (Iz ma mb) ls hd QI:=by
 obtain⟨p,x,e1,q,y,e2,g,k⟩:=h;exact⟨_,_,by simp only[Iz,e1,bind_some,e2,g,if_true],k⟩
abbrev F6(p:Int×Int):Tv:=.tup [.int p.1,.int p.2]
def Cw{t:Tv}(h:Aw t=true):t=.int (BQ t):=by
 cases t<;>simp[Aw,BQ]at h ⊢
def Ld:∀{ts:List Tv},ts.all C6=true->∃ps:List (Int×Int),ts=ps.map F6/\∀p∈ps,0<=p.2
 |[],_=>⟨[],rfl,by simp⟩
 |t::ts,h=>by
  simp only[all_cons,Bool.and_eq_true]at h;obtain⟨ps,rfl,hp⟩:=Ld h.2;have ht:=h.1;unfold C6 at ht;split at ht
  .next a b=>
   simp only[Bool.and_eq_true,decide_eq_true_eq]at ht;refine⟨(BQ a,BQ b)::ps,?_,λp hpp=>?_⟩
   .rw[map_cons,F6,<- Cw ht.1,<- Cw ht.2.1]
   .rcases mem_cons.mp hpp with rfl|hpp
    .exact ht.2.2
    .exact hp p hpp
  .cases ht
def Le{n:Nat}{h:Hd}:∀{ps:List (Int×Int)} {ds:List D},Iss n h (ps.map F6) ds->ds=ps.map λp=>D.im (Cv p)
 |[],ds,q=>by simp only[map_nil,Iss]at q;subst q;rfl
 |p::ps,ds,q=>by
  simp only[map_cons,Iss]at q;obtain⟨d,r,rfl,q1,q2⟩:=q;rw[Le q2];simp only[Is,Iss]at q1;obtain⟨es,rfl,d1,_,rfl,rfl,d2,_,rfl,rfl,rfl⟩:=q1;rfl
def up:List Int->Bool
 |a::b::r=>decide (a<b)&&up (b::r)
 |_=>true
def le:List Int->Bool
 |a::b::r=>decide (a<=b)&&le (b::r)
 |_=>true
def Nb:∀ns:List Int,((ns.zip (ns.drop 1)).map λp=>decide (p.1<p.2)).all id=up ns
 |[]=>rfl
 |[a]=>rfl
 |a::b::r=>by
  have:=Nb (b::r);simp only[List.drop_succ_cons,List.drop_zero,List.zip_cons_cons,map_cons,all_cons,id,up]at this ⊢;rw[<- this]
def RP:∀ns:List Int,le ns=true↔ns.Pairwise (·<=·)
 |[]=>by simp[le]
 |[a]=>by simp[le]
 |a::b::r=>by
  have:=RP (b::r);rw[le,Bool.and_eq_true,this,decide_eq_true_eq,List.pairwise_cons (a:=a)];constructor
  .rintro⟨h1,h2⟩;refine⟨λx hx=>?_,h2⟩;rcases mem_cons.mp hx with rfl|hx
   .exact h1
   .exact Int.le_trans h1 ((List.pairwise_cons.mp h2).1 x hx)
  .rintro⟨h1,h2⟩;exact⟨h1 b (by simp),h2⟩
def U1(ns:List Int):decide (ns=EC ns)=le ns:=by
 rw[Bool.eq_iff_iff,RP,decide_eq_true_eq];constructor
 .intro h;rw[h];exact EY ns
 .intro h;exact(FI (Hu ns) (EY ns) h).symm
def SC{h:Hd}{k:Nat}{ns:List Int}(e:h[k]?=some (.lst (BB ns)))(hl:ns.length<=1000):WF Gs [.mu k] h λd' x=>d'=.im (.bl (up ns))/\x=h:=by
 unfold Gs;refine BH rfl ?_;have G:GOk h [(k,BB ns)]:=λp hp=>by rw[mem_singleton]at hp;subst hp;exact e
 refine AF (Cs (BY (UM (K9 (A5 rfl ⟨k,BB ns,rfl,e,YY (Na (A5 rfl (Bc (A8 ⟨_,rfl,D7 ⟨BB ns,by simp[B7,e],G,AM (by simp;omega),?_⟩⟩))))⟩)))));rw[show((1:Int))=((1:Nat):Int)from rfl,GT];have ez:List.zipWith (λx y=>AK [x,y]) (BB ns) ((BB ns).drop 1)=(ns.zip (ns.drop 1)).map λp=>D.im (Cv p):=by
  rw[BB,<- map_drop,List.zipWith_map,List.zip,List.map_zipWith];rfl
 dsimp only;rw[ez];refine Ct (λp=>D.im (Cv p)) (λp:Int×Int=>some (.im (.bl (decide (p.1<p.2))))) (λ_ ls=>∃x y,ls=[some x,some y]) _ (by simpa using G) ?_ ?_
 .rintro p hp ls hls;refine⟨[some (.im (.int p.1)),some (.im (.int p.2))],by rcases hls with rfl|⟨_,x,y,rfl⟩<;>rfl,⟨_,_,rfl⟩,CY ⟨rfl,?_⟩⟩;rw[if_pos rfl];exact⟨_,rfl,AA (A5 rfl (A5 rfl (Ga ⟨rfl,rfl⟩)))⟩
 .rw[List.filterMap_eq_map',show((ns.zip (ns.drop 1)).map λp:Int×Int=>D.im (.bl (decide (p.1<p.2))))=blD ((ns.zip (ns.drop 1)).map λp=>decide (p.1<p.2)) by simp[blD]];refine⟨_,by rw[Eh,Fr];rfl,?_,rfl⟩;rw[<- Nb]
def BV:Option (Int×Int)->List Tv->Bool
 |_,[]=>true
 | f,t::r=>C6 t&&((match f,t with
  |some q,.tup [a,b]=>decide (q.1<BQ a)&&decide (q.2<=BQ b)
  | _,_=>true)&&BV (match t with|.tup [a,b]=>some (BQ a,BQ b)|_=>none) r)
def Bt:Tv->Bool
 |.tup ts=>!ts.isEmpty&&BV none ts
 |_=>false
def JK:∀{ts:List Tv} {f:Option (Int×Int)},BV f ts=true->ts.all C6=true
 |[],f,_=>rfl
 |t::r,f,h=>by
  simp only[BV,Bool.and_eq_true]at h;simp only[all_cons,Bool.and_eq_true];exact⟨h.1,JK h.2.2⟩
def IA:∀(ps:List (Int×Int)) (q:Int×Int),(∀p∈ps,0<=p.2)->BV (some q) (ps.map F6)=(up (q.1::ps.map (·.1))&&le (q.2::ps.map (·.2)))
 |[],q,_=>rfl
 |p::ps,q,h=>by
  have ih:=IA ps p λx hx=>h x (by simp[hx]);have h0:=h p (by simp);simp only[map_cons,BV,C6,Aw,BQ,up,le];rw[show((p.1,p.2):Int×Int)=p from rfl,ih];rw[Bool.eq_iff_iff];simp only[Bool.and_eq_true,decide_eq_true_eq,true_and];exact⟨λ⟨_,⟨x,y⟩,z,w⟩=>⟨⟨of_decide_eq_true x,z⟩,of_decide_eq_true y,w⟩,λ⟨⟨x,z⟩,y,w⟩=>⟨decide_eq_true h0,⟨decide_eq_true x,decide_eq_true y⟩,z,w⟩⟩
def IB:∀(ps:List (Int×Int)),(∀p∈ps,0<=p.2)->BV none (ps.map F6)=(up (ps.map (·.1))&&le (ps.map (·.2)))
 |[],_=>rfl
 |p::ps,h=>by
  have ih:=IA ps p λx hx=>h x (by simp[hx]);have h0:=h p (by simp);simp only[map_cons,BV,C6,Aw,BQ];rw[show((p.1,p.2):Int×Int)=p from rfl,ih];rw[Bool.eq_iff_iff];simp only[Bool.and_eq_true,decide_eq_true_eq,true_and];exact⟨λq=>q.2,λq=>⟨decide_eq_true h0,q⟩⟩
structure Cq(t:Tv):Prop where
 gq:Gq (10^60+9) t
 dp:dep t<=25
def Cq.lay{t:Tv}(h:Cq t):(pyT t).canLay0=true:=(h.gq.ok (by decide)).lay
def Cq.mem{ts:List Tv}(h:Cq (.tup ts)){u:Tv}(hu:u∈ts):Cq u:=by
 have h1:=h.gq;have h2:=h.dp;simp only[Gq]at h1;simp only[dep]at h2;exact⟨gds_iff.mp h1.2 u hu,by have:=Dl hu;omega⟩
def Cq.len{ts:List Tv}(h:Cq (.tup ts)):ts.length<=39:=by
 have h1:=h.gq;simp only[Gq]at h1;omega
def IN{ls:Ls}{hd:Hd}{i N:Nat}{ts:List Tv}{d:D}{Q:Bool->Hd->Prop}(e:ls[i]?=some (some d))(hI:Is N hd (.tup ts) d)(hl:(pyT (.tup ts)).canLay0=true)(hp:dep (.tup ts)<=30)(q:Q ts.isEmpty hd):WT (AI (mOp (C7 false) (A4 i) (AL A6))) ls hd Q:=by
 refine AG (AA (A5 e (AN (A7 ⟨D0,?_⟩))));rw[JN];refine K6 (hI.pyN hp) (DQ 30 (.tup [])) ⟨hl,by simp[I.py,I.pys,PyData.canLay0,PyData.canLayAll0],le_trans (Nat.min_le_right _ _) (by simp[I.py,I.pys,PyData.depth,PyData.depthAll])⟩ ⟨_,rfl,?_⟩;rw[eqv_nil];exact q
def QD{N:Nat}{h:Hd}{t:Tv}{d:D}(hN:N<=h.length)(hi:Is N h t d)(c:Cq t):WF F4 [d] h λd' x=>d'=.im (.bl (Bt t))/\∃g,x=h++g:=by
 unfold F4;refine BH rfl ?_;refine AB (AY (Bs (BX (Af (Ak (A5 rfl ⟨_,hi.isD .tuple,_,rfl,?_⟩))))));by_cases hT:∃ts,t=.tup ts
 .obtain⟨ts,rfl⟩:=hT;obtain⟨ds,hv,hs⟩:=hi.view;have hl:=hs.len;have cl:=c.len;rw[if_neg (by simp[ty])];refine IN rfl hi c.lay (by have:=c.dp;omega) ?_;by_cases he:ts.isEmpty=true
  .rw[he];exact⟨λ_=>AF (A8 ⟨by simp[Bt,he],[],by simp⟩),λh=>by cases h⟩
  have he:=Bool.eq_false_iff.mpr he;rw[he];refine⟨(λh=>by cases h),λ_=>AU (A9 ?_)⟩;refine AB (AY (BX (Af (Cs (BY (E1 (A5 rfl ⟨ds,hv,AM (by dsimp only;omega),?_⟩)))))));refine Hr (spec:=C6) hs hN (λt ht d g hi=>(Xg hi).mono (by rintro d' x ⟨rfl,rfl⟩;exact⟨rfl,[],by simp⟩)) λg=>?_;refine⟨_,by rw[Eh,Fr];rfl,_,rfl,?_⟩;rw[all_map,show(id ∘ C6)=C6 from rfl];by_cases hr:ts.all C6=true
  .rw[hr];refine⟨(λh=>by cases h),λ_=>AU (A9 ?_)⟩;obtain⟨ps,rfl,hp⟩:=Ld hr;have e:=Le hs;subst e;have pl:ps.length<=39:=by simpa using cl
   have rG:=IB ps hp;refine AB (AY (BX (Af (AX (A1 (Ah (BY (E1 (A5 rfl ⟨_,hv,AM (by dsimp only;simp;omega),?_⟩)))))))));refine Ct (λp=>D.im (Cv p)) (λp:Int×Int=>some (.im (.int p.1))) (λ_ ls=>∃x,ls=[some x]) _ (B8 _) ?_ ?_
   .rintro p hp ls hls;refine⟨[some (.im (Cv p))],by rcases hls with rfl|⟨_,x,rfl⟩<;>rfl,⟨_,rfl⟩,CY ⟨rfl,?_⟩⟩;rw[if_pos rfl];exact⟨_,rfl,AA (A5 rfl (A8 (Ab rfl (Aj (k:=0) rfl rfl) ⟨rfl,rfl⟩)))⟩
   rw[List.filterMap_eq_map',show(ps.map λp:Int×Int=>D.im (.int p.1))=BB (ps.map (·.1)) by simp[BB]];refine A7 ((SC (ns:=ps.map (·.1)) (by simp) (by simp;omega)).mono ?_);rintro d' x ⟨rfl,rfl⟩;refine⟨_,rfl,?_⟩;by_cases hu:up (ps.map (·.1))=true
   .rw[hu];refine⟨(λh=>by cases h),λ_=>AU (A9 ?_)⟩;refine AB (Ac (Ah (BY (E1 (A5 rfl ⟨_,hv,AM (by dsimp only;simp;omega),?_⟩)))));refine Ct (λp=>D.im (Cv p)) (λp:Int×Int=>some (.im (.int p.2))) (λ_ ls=>∃x,ls=[some x]) _ (B8 _) ?_ ?_
    .rintro p hp ls hls;refine⟨[some (.im (Cv p))],by rcases hls with rfl|⟨_,x,rfl⟩<;>rfl,⟨_,rfl⟩,CY ⟨rfl,?_⟩⟩;rw[if_pos rfl];exact⟨_,rfl,AA (A5 rfl (A8 (Ab rfl (Aj (k:=1) rfl rfl) ⟨rfl,rfl⟩)))⟩
    rw[List.filterMap_eq_map',show(ps.map λp:Int×Int=>D.im (.int p.2))=BB (ps.map (·.2)) by simp[BB]];refine A9 ?_;have lastE:∀(X:Hd) (o:MO),(X++[o])[X.length]?=some o:=λX o=>by simp
    refine AF (KB (A5 rfl (NZ (K9 (A5 rfl ⟨_,_,rfl,lastE _ _,ps.map (·.2),rfl,by simp;omega,ps.map (·.2),_,Ln (lastE _ _),rfl,?_,_,by rw[append_assoc,append_assoc]⟩)))));show D.im (.bl (decide (ps.map (·.2)=EC (ps.map (·.2)))))=_;rw[U1];simp[Bt,he,rG,hu]
   .rw[Bool.eq_false_iff.mpr hu];refine⟨λ_=>AF (A8 ⟨by simp[Bt,rG,Bool.eq_false_iff.mpr hu],_,by rw[append_assoc]⟩),λh=>by cases h⟩
  .rw[Bool.eq_false_iff.mpr hr];refine⟨λ_=>AF (A8 ⟨?_,_,rfl⟩),λh=>by cases h⟩;have:BV none ts=false:=Bool.eq_false_iff.mpr λq=>hr (JK q);simp[Bt,this]
 .rw[if_pos (by cases t<;>simp[ty]at hT ⊢)];refine⟨λ_=>AF (A8 ⟨?_,[],by simp⟩),λh=>by cases h⟩;cases t<;>simp[Bt]at hT ⊢
def GJ{n:Nat}{h:Hd}{t:Tv}{d:D}(hi:Is n h t d):WF Br [d] h λd' x=>d'=.im (.bl (Aw t))/\x=h:=IH hi
def Gn:Option (Int×Int)->D
 |none=>.im .non
 |some p=>.im (Cv p)
def PX{f:Option (Int×Int)}{x y:Int}{tr:List Tv}(h0:0<=y)(hf:∀q,f=some q->q.1<x/\q.2<=y):BV f (F6 (x,y)::tr)=BV (some (x,y)) tr:=by
 simp only[BV,C6,Aw,BQ];cases f with
 |none=>rw[Bool.eq_iff_iff];simp only[Bool.and_eq_true,true_and];exact⟨λq=>q.2,λq=>⟨decide_eq_true h0,q⟩⟩
 |some q=>
  obtain⟨h1,h2⟩:=hf q rfl;rw[Bool.eq_iff_iff];simp only[Bool.and_eq_true,true_and];exact⟨λq=>q.2.2,λz=>⟨decide_eq_true h0,⟨decide_eq_true h1,decide_eq_true h2⟩,z⟩⟩
def Dt{f:Option (Int×Int)}{t:Tv}{tr:List Tv}(h:C6 t=false):BV f (t::tr)=false:=by
 simp only[BV,h,Bool.false_and]
def IC{q:Int×Int}{x y:Int}{tr:List Tv}(h:¬ (q.1<x/\q.2<=y)):BV (some q) (F6 (x,y)::tr)=false:=by
 rw[Bool.eq_false_iff];intro z;simp only[BV,C6,Aw,BQ,Bool.and_eq_true,true_and]at z;exact h ⟨of_decide_eq_true z.2.1.1,of_decide_eq_true z.2.1.2⟩
def S7{a b:Tv}(ha:Aw a=true)(hb:Aw b=true):Tv.tup [a,b]=F6 (BQ a,BQ b):=by rw[F6,<- Cw ha,<- Cw hb]
def Oh{N:Nat}{h:Hd}{t:Tv}{d:D}(hi:Is N h t d)(c:Cq t):WF EL [d] h λd' x=>d'=.im (.bl (Bt t))/\x=h:=by
 unfold EL;refine BH rfl ?_;refine AB (AY (Bs (BX (Af (Ak (A5 rfl ⟨_,hi.isD .tuple,_,rfl,?_⟩))))));by_cases hT:∃ts,t=.tup ts
 .obtain⟨ts,rfl⟩:=hT;obtain⟨ds,hv,hs⟩:=hi.view;rw[if_neg (by simp[ty])];refine IN rfl hi c.lay (by have:=c.dp;omega) ?_;by_cases he:ts.isEmpty=true
  .rw[he];exact⟨λ_=>AF (A8 ⟨by simp[Bt,he],rfl⟩),λh=>by cases h⟩
  have he:=Bool.eq_false_iff.mpr he;rw[he];refine⟨(λh=>by cases h),λ_=>AU (A9 ?_)⟩;refine AB (Ac (A8 (A9 ?_)));refine AB (G0 (E1 (A5 rfl ⟨ds,hv,?_⟩)));refine ES (λl ls hd=>∃f tr z2,ls=[some d,some (Gn f),z2]/\hd=h/\Iss N h tr l/\BV none ts=BV f tr) ⟨none,ts,none,rfl,rfl,hs,rfl⟩ ?_ ?_
  .rintro e r ls hd ⟨f,tr,z2,rfl,hx,hr,eq⟩;subst hd;cases tr with
   |nil=>simp only[Iss]at hr;cases hr
   |cons t tr=>
    simp only[Iss]at hr;obtain⟨d',r',ee,hi,hr⟩:=hr;obtain⟨rfl,rfl⟩:=List.cons.inj ee;refine⟨[some d,some (Gn f),some e],rfl,?_⟩;have bad:BV f (t::tr)=false->D.im (.bl false)=.im (.bl (Bt (.tup ts))):=λq=>by simp[Bt,eq,q]
    refine AB (AY (Bs (BX (Af (Ak (A5 rfl ⟨_,hi.isD .tuple,_,rfl,?_⟩))))));by_cases hU:∃us,t=.tup us
    .obtain⟨us,rfl⟩:=hU;obtain⟨es,hu,hus⟩:=hi.view;have ul:=hus.len;rw[if_neg (by simp[ty])];refine Bs (AG (AA (Az (A1 (A5 rfl (A7 (CC (ds:=es) (by rw[if_pos rfl];exact Ap hu) rfl (A8 (K5 ⟨_,rfl,?_⟩)))))))));by_cases h2:us.length=2
     .rw[if_neg (by simp;omega)]
      match us,h2 with
      |[a,b],_=>
       simp only[Iss]at hus;obtain⟨da,_,rfl,ia,db,_,rfl,ib,rfl⟩:=hus;refine Bs (BX (Af (AX (A1 (AA (A5 rfl (A8 (Ab (Ap hu) (Aj (k:=0) rfl rfl) (A7 ((GJ ia).mono ?_))))))))));rintro d' x ⟨rfl,hx⟩;subst x;refine⟨_,rfl,?_⟩;by_cases ha:Aw a=true
       .rw[if_neg (by simp[ha])];refine BX (Af (AX (A1 (AA (A5 rfl (A8 (Ab (Ap hu) (Aj (k:=1) rfl rfl) (A7 ((GJ ib).mono ?_)))))))));rintro d' x ⟨rfl,hx⟩;subst x;refine⟨_,rfl,?_⟩;by_cases hb:Aw b=true
        .rw[hb];refine⟨(λh=>by cases h),λ_=>AU (A9 ?_)⟩;rw[S7 ha hb]at bad eq;rw[Cw ha]at ia;rw[Cw hb]at ib;generalize BQ a=x at *;generalize BQ b=y at *;simp only[Is]at ia ib;subst ia;subst ib;refine AB (AY (Bs (AG (AA (AA (A5 rfl (A8 (Ab (Ap hu) (Aj (k:=1) rfl rfl) (A8 (Ga ⟨_,rfl,?_⟩))))))))));by_cases hy:y<0
         .rw[if_pos (by simpa using hy)];refine⟨λ_=>AF (A8 ⟨bad (Dt (by simp only[C6,Aw,BQ,Bool.true_and];exact decide_eq_false (by omega))),rfl⟩),λh=>by cases h⟩
         .rw[if_neg (by simpa using hy)];have go:(∀q,f=some q->q.1<x/\q.2<=y)->WS (AS 1 (A4 2)) [some d,some (Gn f),some e] h (Qh [] (λls hd=>∃f tr z2,ls=[some d,some (Gn f),z2]/\hd=h/\Iss N h tr r/\BV none ts=BV f tr) (MQ (AO (mC (.bl true))) λfl x=>match fl with|.rt d=>d=.im (.bl (Bt (.tup ts)))/\x=h|.nx _=>D.im .non=.im (.bl (Bt (.tup ts)))/\x=h|_=>False)):=λhf=>by
           refine Ac (A5 rfl ⟨B8 _,some (x,y),tr,some e,?_,rfl,hr,by rw[eq,PX (by omega) hf]⟩);have:e=.im (Cv (x,y)):=by
            have:=hi;simp only[Is,Iss]at this;obtain⟨es,rfl,d1,_,rfl,d2,d3,_,rfl,d4,rfl⟩:=this;have e1:=hu;rw[AD]at e1;obtain⟨rfl,e2⟩:=List.cons.inj (Option.some.inj e1);obtain⟨rfl,_⟩:=List.cons.inj e2;rfl
           subst this;rfl
          refine Hj (AG ?_);cases f with
          |none=>
           refine WP.eq (z:=.im (.bl false)) (h:=h) (by simp[HY,Gn]) ⟨_,rfl,?_⟩;rw[if_neg (by simp)];exact⟨(λh=>by cases h),λ_=>AU (A9 (go λq h=>by cases h))⟩
          |some q=>
           refine WP.eq (z:=.im (.bl true)) (h:=h) (by simp[HY,Gn,Cv]) ⟨_,rfl,?_⟩;rw[if_pos rfl];refine Bs (AG (AA (AA (A5 rfl (A8 (Ab (Ap hu) (Aj (k:=0) rfl rfl) (AA (A5 rfl (A8 (Ab rfl (Aj (k:=0) rfl rfl) (XZ ⟨_,rfl,?_⟩)))))))))));by_cases h1:x<=q.1
           .rw[if_pos (by simpa using h1)];exact⟨λ_=>AF (A8 ⟨bad (IC (by omega)),rfl⟩),λh=>by cases h⟩
           .rw[if_neg (by simpa using h1)];refine AG (AA (AA (A5 rfl (A8 (Ab (Ap hu) (Aj (k:=1) rfl rfl) (AA (A5 rfl (A8 (Ab rfl (Aj (k:=1) rfl rfl) (Ga ⟨_,rfl,?_⟩))))))))));refine⟨λh2=>AF (A8 ⟨bad (IC (by simp at h2;omega)),rfl⟩),λh2=>AU (A9 (go λq' hq=>?_))⟩;cases hq;simp at h2;omega
        .refine⟨λ_=>AF (A8 ⟨bad (Dt (by simp[C6,Bool.eq_false_iff.mpr hb])),rfl⟩),λh=>by simp[hb]at h⟩
       .rw[if_pos (by simp[ha])];exact⟨λ_=>AF (A8 ⟨bad (Dt (by simp[C6,Bool.eq_false_iff.mpr ha])),rfl⟩),λh=>by cases h⟩
     .rw[if_pos (by simp;omega)];exact⟨λ_=>AF (A8 ⟨bad (Dt (Ip (by simpa [CZ]using h2))),rfl⟩),λh=>by cases h⟩
    .rw[if_pos (by cases t<;>simp[ty]at hU ⊢)];exact⟨λ_=>AF (A8 ⟨bad (Dt (Ip (by cases t<;>simp[CZ]at hU ⊢))),rfl⟩),λh=>by cases h⟩
  .rintro ls hd ⟨f,tr,z2,rfl,hx,hr,eq⟩;subst hd;cases tr with
   |nil=>exact A9 (AF (A8 ⟨by simp[Bt,eq,BV,he],rfl⟩))
   |cons t tr=>simp only[Iss]at hr;obtain⟨d',r',e,_⟩:=hr;cases e
 .rw[if_pos (by cases t<;>simp[ty]at hT ⊢)];refine⟨λ_=>AF (A8 ⟨?_,rfl⟩),λh=>by cases h⟩;cases t<;>simp[Bt]at hT ⊢
def isS(x:Str):Tv->Bool
 |.str w=>decide (w=x)
 |_=>false
def U9(t:Tv)(x:Str):PyData.eqv (pyT t) (.str x)=isS x t:=by
 cases t with
 |str w=>
  rw[pyT,isS,PyData.eqv,Bool.eq_iff_iff,decide_eq_true_eq];simp
 |non=>rw[pyT,isS,PyData.eqv]<;>(intros;simp_all)
 |bl b=>rw[pyT,isS,PyData.eqv]<;>(intros;simp_all)
 |int b=>rw[pyT,isS,PyData.eqv]<;>(intros;simp_all)
 |tup b=>rw[pyT,isS,PyData.eqv]<;>(intros;simp_all)
 |lst b=>rw[pyT,isS,PyData.eqv]<;>(intros;simp_all)
def Cp{ls:Ls}{hd:Hd}{i N:Nat}{t:Tv}{d:D}{x:Str}{Q:D->Hd->Prop}(e:ls[i]?=some (some d))(hI:Is N hd t d)(c:Cq t)(hx:PyData.strOk x=true)(q:Q (.im (.bl (isS x t))) hd):WE (mOp (C7 false) (A4 i) (mC (.str x))) ls hd Q:=by
 refine AA (A5 e (A8 ?_));refine K6 (hI.pyN (by have:=c.dp;omega)) (DQ 30 (.str x)) ⟨c.lay,by simpa [I.py,PyData.canLay0]using hx,le_trans (Nat.min_le_right _ _) (by simp[I.py,PyData.depth])⟩ ?_;rw[show I.py (.str x)=.str x from rfl,U9];exact q
def IK{ls:Ls}{hd:Hd}{i:Nat}{d:D}{ds:List D}{k:Int}{Q:D->Hd->Prop}(e:ls[i]?=some (some d))(hv:AR d=some ds)(q:Q (.im (.bl (decide ((ds.length:Int)=k)))) hd):WE (mOp gEq (mCB (f1 true BA) (A0 (A4 i) A6)) (mC (.int k))) ls hd Q:=
 AA (Az (A1 (A5 e (A7 (CC (by rw[if_pos rfl];exact Ap hv) rfl (A8 (FE q)))))))
def Ca(p:Tv->Bool):List Tv->Bool
 |[a]=>p a
 |_=>false
def E2:List Tv->Bool
 |[a,b]=>Aw a&&BJ 0 b
 |_=>false
def Ai:Tv->Bool
 |.tup (.str w::rs)=>if w="late" then Ca Aw rs else if w="tardy"∨w="miss" then E2 rs else if w="ends" then Ca (BJ 0) rs else if w="steps" then Ca Bt rs else false
 |_=>false
def DS{p:Tv->Bool}{rs:List Tv}(h:¬ rs.length=1):Ca p rs=false:=by
 unfold Ca;split
 .simp at h
 .rfl
def Ho{rs:List Tv}(h:¬ rs.length=2):E2 rs=false:=by
 unfold E2;split
 .simp at h
 .rfl
def M3{t0:Tv}{rs:List Tv}(h:∀w,t0≠.str w):Ai (.tup (t0::rs))=false:=by
 unfold Ai;split
 .next e=>cases e;exact absurd rfl (h _)
 .rfl
def QH{N:Nat}{h:Hd}{t:Tv}{d:D}(hN:N<=h.length)(hi:Is N h t d)(c:Cq t):WF F5 [d] h λd' x=>d'=.im (.bl (Ai t))/\∃g,x=h++g:=by
 unfold F5;refine BH rfl ?_;refine AB (AY (Bs (BX (Af (Ak (A5 rfl ⟨_,hi.isD .tuple,_,rfl,?_⟩))))));by_cases hT:∃ts,t=.tup ts
 .obtain⟨ts,rfl⟩:=hT;obtain⟨ds,hv,hs⟩:=hi.view;rw[if_neg (by simp[ty])];refine IN rfl hi c.lay (by have:=c.dp;omega) ?_;cases ts with
  |nil=>exact⟨λ_=>AF (A8 ⟨by simp[Ai],[],by simp⟩),λh=>by cases h⟩
  |cons t0 rs=>
   simp only[Iss]at hs;obtain⟨d0,es,rfl,i0,hs⟩:=hs;have hl:=hs.len;have c0:=c.mem (u:=t0) (by simp);have cr:∀u∈rs,Cq u:=λu hu=>c.mem (by simp[hu]);refine⟨(λh=>by cases h),λ_=>AU (A9 ?_)⟩;refine AB (Ac (AA (A5 rfl (A8 (Ab (Ap hv) (Aj (k:=0) rfl rfl) (A9 ?_))))));change WS _ [some d,some d0] _ _;have nil:∀{b:Bool},b=Ai (.tup (t0::rs))->(D.im (.bl b)=.im (.bl (Ai (.tup (t0::rs))))/\∃g,h=h++g):=λe=>⟨by rw[e],[],by simp⟩
   by_cases hw:∃w,t0=.str w
   .obtain⟨w,rfl⟩:=hw;refine AB (AY (AG (Cp rfl i0 c0 (by decide +kernel) ⟨_,rfl,?_⟩)));by_cases w1:w="late"
    .refine⟨λ_=>?_,(λh=>by simp[isS,w1]at h)⟩;have e0:Ai (.tup (.str w::rs))=Ca Aw rs:=by simp[Ai,w1]
     refine AF (B5 (AG (IK rfl hv ⟨_,rfl,?_⟩)));by_cases l1:rs.length=1
     .rw[if_pos (by simp;omega)]
      match rs,l1 with
      |[a],_=>
       simp only[Iss]at hs;obtain⟨da,_,rfl,ia,rfl⟩:=hs;refine AX (A1 (AA (A5 rfl (A8 (Ab (Ap hv) (Aj (k:=1) rfl rfl) (A7 ((IH ia).mono ?_)))))));rintro d' x ⟨rfl,hx⟩;subst x;exact nil (by rw[e0];rfl)
     .rw[if_neg (by simp;omega)];exact nil (by rw[e0,DS l1])
    refine⟨(λh=>by simp[isS,w1]at h),λ_=>AU (A9 ?_)⟩;refine AB (AY (Bs (AG (Cp rfl i0 c0 (by decide +kernel) ⟨_,rfl,?_⟩))));have two:(w="tardy"∨w="miss")->WS (AO (B1 (mOp gEq (mCB (f1 true BA) (A0 (A4 0) A6)) (mC (.int 3))) (B1 (AJ Bk (A0 (mOp gIx (A4 0) (mC (.int 1))) A6)) (AJ Ax (A0 (mC (.int 0)) (A0 (mOp gIx (A4 0) (mC (.int 2))) A6)))))) [some d,some d0] h λf x=>∃d',f=.rt d'/\d'=.im (.bl (Ai (.tup (.str w::rs))))/\∃g,x=h++g:=λhw=>by
     have e0:Ai (.tup (.str w::rs))=E2 rs:=by simp[Ai,w1,hw]
     refine AF (B5 (AG (IK rfl hv ⟨_,rfl,?_⟩)));by_cases l1:rs.length=2
     .rw[if_pos (by simp;omega)]
      match rs,l1 with
      |[a,b],_=>
       simp only[Iss]at hs;obtain⟨da,_,rfl,ia,db,_,rfl,ib,rfl⟩:=hs;refine B5 (AG (AX (A1 (AA (A5 rfl (A8 (Ab (Ap hv) (Aj (k:=1) rfl rfl) (A7 ((IH ia).mono ?_)))))))));rintro d' x ⟨rfl,hx⟩;subst x;refine⟨_,rfl,?_⟩;by_cases ha:Aw a=true
       .rw[if_pos ha];refine AX (A1 (A8 (A1 (AA (A5 rfl (A8 (Ab (Ap hv) (Aj (k:=2) rfl rfl) (A7 ((GN ib).mono ?_)))))))));rintro d' x ⟨rfl,hx⟩;subst x;exact⟨_,rfl,nil (by rw[e0];simp[E2,ha])⟩
       .rw[if_neg ha];exact⟨_,rfl,nil (by rw[e0];simp[E2,Bool.eq_false_iff.mpr ha])⟩
     .rw[if_neg (by simp;omega)];exact⟨_,rfl,nil (by rw[e0,Ho l1])⟩
    by_cases w2:w="tardy"
    .rw[if_pos (by simp[isS,w2])];exact⟨λ_=>WP.mono (two (.inl w2)) (by rintro f x ⟨d',rfl,h⟩;exact h),λh=>by cases h⟩
    rw[if_neg (by simp[isS,w2])];refine AG (Cp rfl i0 c0 (by decide +kernel) ⟨_,rfl,?_⟩);by_cases w3:w="miss"
    .exact⟨λ_=>WP.mono (two (.inr w3)) (by rintro f x ⟨d',rfl,h⟩;exact h),λh=>by simp[isS,w3]at h⟩
    refine⟨(λh=>by simp[isS,w3]at h),λ_=>AU (A9 ?_)⟩;refine AB (AY (AG (Cp rfl i0 c0 (by decide +kernel) ⟨_,rfl,?_⟩)));by_cases w4:w="ends"
    .refine⟨λ_=>?_,(λh=>by simp[isS,w4]at h)⟩;have e0:Ai (.tup (.str w::rs))=Ca (BJ 0) rs:=by rw[Ai,if_neg w1,if_neg (λq=>q.elim w2 w3),if_pos w4]
     refine AF (B5 (AG (IK rfl hv ⟨_,rfl,?_⟩)));by_cases l1:rs.length=1
     .rw[if_pos (by simp;omega)]
      match rs,l1 with
      |[a],_=>
       simp only[Iss]at hs;obtain⟨da,_,rfl,ia,rfl⟩:=hs;refine AX (A1 (A8 (A1 (AA (A5 rfl (A8 (Ab (Ap hv) (Aj (k:=1) rfl rfl) (A7 ((GN ia).mono ?_)))))))));rintro d' x ⟨rfl,hx⟩;subst x;exact nil (by rw[e0];rfl)
     .rw[if_neg (by simp;omega)];exact nil (by rw[e0,DS l1])
    refine⟨(λh=>by simp[isS,w4]at h),λ_=>AU (A9 ?_)⟩;refine AF (B5 (AG (Cp rfl i0 c0 (by decide +kernel) ⟨_,rfl,?_⟩)));by_cases w5:w="steps"
    .rw[if_pos (by simp[isS,w5])];have e0:Ai (.tup (.str w::rs))=Ca Bt rs:=by rw[Ai,if_neg w1,if_neg (λq=>q.elim w2 w3),if_neg w4,if_pos w5]
     refine B5 (AG (IK rfl hv ⟨_,rfl,?_⟩));by_cases l1:rs.length=1
     .rw[if_pos (by simp;omega)]
      match rs,l1 with
      |[a],_=>
       simp only[Iss]at hs;obtain⟨da,_,rfl,ia,rfl⟩:=hs;refine AX (A1 (AA (A5 rfl (A8 (Ab (Ap hv) (Aj (k:=1) rfl rfl) (A7 ((QD hN ia (cr a (by simp))).mono ?_)))))));rintro d' x ⟨rfl,g,rfl⟩;exact⟨by rw[e0];rfl,g,rfl⟩
     .rw[if_neg (by simp;omega)];exact nil (by rw[e0,DS l1])
    .rw[if_neg (by simp[isS,w5])];exact nil (by simp[Ai,w1,w2,w3,w4,w5])
   .have no:∀x,isS x t0=false:=λx=>by cases t0<;>simp[isS]at hw ⊢
    have e0:Ai (.tup (t0::rs))=false:=M3 λw q=>hw ⟨w,q⟩;refine AB (AY (AG (Cp rfl i0 c0 (by decide +kernel) ⟨_,rfl,(λh=>by simp[no]at h),λ_=>AU (A9 ?_)⟩)));refine AB (AY (Bs (AG (Cp rfl i0 c0 (by decide +kernel) ⟨_,rfl,?_⟩))));rw[if_neg (by simp[no])];refine AG (Cp rfl i0 c0 (by decide +kernel) ⟨_,rfl,(λh=>by simp[no]at h),λ_=>AU (A9 ?_)⟩);refine AB (AY (AG (Cp rfl i0 c0 (by decide +kernel) ⟨_,rfl,(λh=>by simp[no]at h),λ_=>AU (A9 ?_)⟩)));refine AF (B5 (AG (Cp rfl i0 c0 (by decide +kernel) ⟨_,rfl,?_⟩)));rw[if_neg (by simp[no])];exact nil (by rw[e0])
 .rw[if_pos (by cases t<;>simp[ty]at hT ⊢)];refine⟨λ_=>AF (A8 ⟨?_,[],by simp⟩),λh=>by cases h⟩;cases t<;>simp[Ai]at hT ⊢
abbrev KW:List (Key×D):=[(.inr "late",.im (.int 1)),(.inr "tardy",.im (.int 2)),(.inr "miss",.im (.int 2)),(.inr "ends",.im (.int 1))]
def kind(w:Str):Int:=if w="late" then 1 else if w="tardy" then 2 else if w="miss" then 2 else if w="ends" then 1 else 0
def Ov(w:Str):(Bi KW (.inr w)).getD (.im (.int 0))=.im (.int (kind w)):=by
 have c:∀(a b:Str),((Sum.inr a:Key)=.inr b)=(b=a):=λa b=>propext ⟨λh=>(Sum.inr.inj h).symm,λh=>by rw[h]⟩;rw[KW,Es,Es,Es,Es];simp only[c];unfold kind;split
 .rfl
 .split
  .rfl
  .split
   .rfl
   .split
    .rfl
    .rfl
def XJ{ls:Ls}{hd:Hd}:Fh [((mC (.str "late")),(mC (.int 1))),((mC (.str "tardy")),(mC (.int 2))),((mC (.str "miss")),(mC (.int 2))),((mC (.str "ends")),(mC (.int 1)))] ls hd=some (.mu hd.length,hd++[.dic KW]):=by
 have e:Dw [] KW=KW:=by first|rfl|kernel_rfl
 show(if KW.length<=15 then some (D.mu hd.length,hd++[MO.dic (Dw [] KW)])else none)=_;rw[e];rfl
def OL{N:Nat}{h:Hd}{t:Tv}{d:D}(hN:N<=h.length)(hi:Is N h t d)(c:Cq t):WF EK [d] h λd' x=>d'=.im (.bl (Ai t))/\∃g,x=h++g:=by
 unfold EK;refine BH rfl ?_;refine AB (AY (Bs (BX (Af (Ak (A5 rfl ⟨_,hi.isD .tuple,_,rfl,?_⟩))))));by_cases hT:∃ts,t=.tup ts
 .obtain⟨ts,rfl⟩:=hT;obtain⟨ds,hv,hs⟩:=hi.view;have hl0:=hs.len;rw[if_neg (by simp[ty])];refine Bs (AG (AA (Az (A1 (A5 rfl (A7 (CC (ds:=ds) (by rw[if_pos rfl];exact Ap hv) rfl (A8 (Ga ⟨_,rfl,?_⟩)))))))));have nil:∀{b:Bool},b=Ai (.tup ts)->(D.im (.bl b)=.im (.bl (Ai (.tup ts)))/\∃g,h=h++g):=λe=>⟨by rw[e],[],by simp⟩
  by_cases l2:ts.length<2
  .rw[if_pos (by simp;omega)];refine⟨λ_=>AF (A8 (nil ?_)),λh=>by cases h⟩
   match ts,l2 with
   |[],_=>rfl
   |[t0],_=>
    unfold Ai;split
    .next e=>
     cases e;rw[DS (by simp),Ho (by simp),DS (by simp),DS (by simp)];simp
    .rfl
  rw[if_neg (by simp;omega)];cases ts with
  |nil=>simp at l2
  |cons t0 rs=>
   simp only[Iss]at hs;obtain⟨d0,es,rfl,i0,hs⟩:=hs;have hl:=hs.len;have l1:1<=rs.length:=by simp at l2;omega
   have c0:=c.mem (u:=t0) (by simp);have cr:∀u∈rs,Cq u:=λu hu=>c.mem (by simp[hu]);have cl:=c.len;simp at cl;refine BX (Af (Ak (AA (A5 rfl (A8 (Ab (Ap hv) (Aj (k:=0) rfl rfl) ⟨_,i0.isD .str,_,rfl,?_⟩))))));by_cases hw:∃w,t0=.str w
   .obtain⟨w,rfl⟩:=hw;refine⟨(λh=>by simp[ty]at h),λ_=>AU (A9 ?_)⟩;simp only[Is]at i0;subst i0;refine AB (UK (A1 (AA (A5 rfl (A8 (Ab (Ap hv) (Aj (k:=0) rfl rfl) (A1 (ET (A5 rfl (Bc (A8 ⟨_,rfl,D7 ⟨_,hv,A7 ⟨rfl,A9 ?_⟩⟩⟩)))))))))));rw[show((1:Int))=((1:Nat):Int)from rfl,GT,List.drop_succ_cons,List.drop_zero];change WS _ [some d,some (.im (.str w)),some (AK es)] _ _;have hr:=AD es;refine AB (AY (AG (AA (A5 rfl (A8 (G7 ⟨_,rfl,?_⟩))))));by_cases w5:w="steps"
    .refine⟨λ_=>?_,(λh=>by simp[w5]at h)⟩;have e0:Ai (.tup (.str w::rs))=Ca Bt rs:=by subst w5;rw[Ai,if_neg (by decide +kernel),if_neg (by decide +kernel),if_neg (by decide +kernel),if_pos rfl]
     refine AF (B5 (AG (IK rfl hr ⟨_,rfl,?_⟩)));by_cases l1:rs.length=1
     .rw[if_pos (by simp;omega)]
      match rs,l1 with
      |[a],_=>
       simp only[Iss]at hs;obtain⟨da,_,rfl,ia,rfl⟩:=hs;refine AX (A1 (AA (A5 rfl (A8 (Ab (Ap hr) (Aj (k:=0) rfl rfl) (A7 ((Oh ia (cr a (by simp))).mono ?_)))))));rintro d' x ⟨rfl,hx⟩;subst x;exact nil (by rw[e0];rfl)
     .rw[if_neg (by simp;omega)];exact nil (by rw[e0,DS l1])
    refine⟨(λh=>by simp[w5]at h),λ_=>AU (A9 ?_)⟩;refine AB (AY (AG (AA (Ou (WP.eq XJ ⟨⟨KW,by simp[By]⟩,A5 rfl (A8 ⟨KW,.inr w,by simp[By],rfl,?_⟩)⟩)))));rw[Ov];refine Az (A1 (A5 rfl (A7 (CC (ds:=es) (by rw[if_pos rfl];exact Ap hr) rfl (K5 ⟨_,rfl,?_⟩)))));have nil2:∀{b:Bool},b=Ai (.tup (.str w::rs))->(D.im (.bl b)=.im (.bl (Ai (.tup (.str w::rs))))/\∃g,h++[MO.dic KW]=h++g):=λe=>⟨by rw[e],_,rfl⟩
    by_cases hk:kind w=(rs.length:Int)
    .refine⟨(λh=>by simp[hl,hk]at h),λ_=>AU (A9 ?_)⟩;refine AF (B5 (AG (NY (A8 (BY (E1 (A5 rfl ⟨es,hr,AM (by dsimp only;omega),?_⟩)))))));refine Hr (spec:=Aw) (HK hN hs) (by simp;omega) (λt ht d g hi=>(GJ hi).mono (by rintro d' x ⟨rfl,rfl⟩;exact⟨rfl,[],by simp⟩)) λg=>?_;refine⟨_,_,_,rfl,rfl,Ku _,_,rfl,?_⟩;rw[Lx];have nil3:∀{b:Bool},b=Ai (.tup (.str w::rs))->(D.im (.bl b)=.im (.bl (Ai (.tup (.str w::rs))))/\∃g',h++[MO.dic KW]++g=h++g'):=λe=>⟨by rw[e],_,by rw[append_assoc]⟩
     by_cases hall:∀u∈rs,Aw u=true
     .rw[if_pos (by simp;exact λx hx=>hall x hx)];refine UP (AG (AA (A5 rfl (A8 (G7 ⟨_,rfl,?_⟩)))));by_cases w1:w="late"
      .rw[if_pos (by simp[w1])];refine nil3 ?_;rw[Ai,if_pos w1];have:rs.length=1:=by rw[kind,if_pos w1]at hk;omega
       match rs,this with
       |[a],_=>exact(hall a (by simp)).symm
      rw[if_neg (by simp[w1])];have lastI:∀{ds:List D} {k:Nat} {z:D},ds.length=k+1->ds[k]?=some z->atI ds (-1)=some z:=λ{ds k z} e1 e2=>by
       unfold atI ixN;rw[if_neg (by omega),if_pos (by omega)];show ds[_]?=_;rw[<- e2];congr 1;omega
      by_cases w23:w="tardy"∨w="miss"
      .have e0:Ai (.tup (.str w::rs))=E2 rs:=by rw[Ai,if_neg w1,if_pos w23]
       have:rs.length=2:=by
        rw[kind,if_neg w1]at hk;rcases w23 with q|q
        .rw[if_pos q]at hk;omega
        .by_cases q2:w="tardy"
         .rw[if_pos q2]at hk;omega
         .rw[if_neg q2,if_pos q]at hk;omega
       match rs,this with
       |[a,b],_=>
        simp only[Iss]at hs;obtain⟨da,_,rfl,ia,db,_,rfl,ib,rfl⟩:=hs;have ha:=hall a (by simp);have hb:=hall b (by simp);rw[Cw hb]at ib;simp only[Is]at ib;subst ib;refine AA (AA (A5 rfl (Cr (A8 ⟨_,rfl,Ab (Ap hr) (lastI (k:=1) rfl rfl) (A8 (MF (nil3 ?_)))⟩))));rw[e0];simp only[E2,ha,BJ,hb,Bool.true_and]
      .by_cases w4:w="ends"
       .have e0:Ai (.tup (.str w::rs))=Ca (BJ 0) rs:=by rw[Ai,if_neg w1,if_neg w23,if_pos w4]
        have:rs.length=1:=by
         rw[kind,if_neg w1,if_neg (λq=>w23 (.inl q)),if_neg (λq=>w23 (.inr q)),if_pos w4]at hk;omega
        match rs,this with
        |[a],_=>
         simp only[Iss]at hs;obtain⟨da,_,rfl,ia,rfl⟩:=hs;have ha:=hall a (by simp);rw[Cw ha]at ia;simp only[Is]at ia;subst ia;refine AA (AA (A5 rfl (Cr (A8 ⟨_,rfl,Ab (Ap hr) (lastI (k:=0) rfl rfl) (A8 (MF (nil3 ?_)))⟩))));rw[e0];simp only[Ca,BJ,ha,Bool.true_and]
       .rw[kind,if_neg w1,if_neg (λq=>w23 (.inl q)),if_neg (λq=>w23 (.inr q)),if_neg w4]at hk;omega
     .rw[if_neg (by simp;simpa using hall)];refine nil3 ?_
      symm
      have no1:Ca Aw rs=false:=by
       unfold Ca;split
       .next a=>simpa using hall
       .rfl
      have no2:E2 rs=false:=by
       unfold E2;split
       .next a b=>
        rw[Bool.eq_false_iff];intro q;simp only[BJ,Bool.and_eq_true]at q;exact hall λu hu=>by
         simp only[mem_cons,not_mem_nil,or_false]at hu;rcases hu with rfl|rfl
         .exact q.1
         .exact q.2.1
       .rfl
      have no3:Ca (BJ 0) rs=false:=by
       unfold Ca;split
       .next a=>
        rw[Bool.eq_false_iff];intro q;simp only[BJ,Bool.and_eq_true]at q;exact hall λu hu=>by rw[mem_singleton]at hu;subst hu;exact q.1
       .rfl
      rw[Ai,no1,no2,no3,if_neg w5];simp
    .refine⟨λ_=>AF (A8 (nil2 ?_)),(λh=>by simp[hl,hk]at h)⟩
     symm
     rw[Ai,if_neg w5];unfold kind at hk;by_cases w1:w="late"
     .rw[if_pos w1]at hk ⊢;exact DS (by omega)
     rw[if_neg w1]at hk ⊢;by_cases w2:w="tardy"
     .rw[if_pos w2]at hk;rw[if_pos (.inl w2)];exact Ho (by omega)
     rw[if_neg w2]at hk;by_cases w3:w="miss"
     .rw[if_pos w3]at hk;rw[if_pos (.inr w3)];exact Ho (by omega)
     rw[if_neg w3]at hk;rw[if_neg (λq=>q.elim w2 w3)];by_cases w4:w="ends"
     .rw[if_pos w4]at hk ⊢;exact DS (by omega)
     rw[if_neg w4]
   .refine⟨λ_=>AF (A8 (nil ?_)),(λh=>by cases t0<;>simp[ty]at hw h)⟩;exact(M3 λw q=>hw ⟨w,q⟩).symm
 .rw[if_pos (by cases t<;>simp[ty]at hT ⊢)];refine⟨λ_=>AF (A8 ⟨?_,[],by simp⟩),λh=>by cases h⟩;cases t<;>simp[Ai]at hT ⊢
def BN:Tv->Bool
 |.tup [a,b,c]=>BJ 1 a&&(BJ 0 b&&Ai c)
 |_=>false
def Co:Tv->Bool
 |.tup ts=>!ts.isEmpty&&ts.all BN
 |_=>false
def Inn(t:Tv):Prop:=∀ts,t=.tup ts->∀u∈ts,Cq u
def Cq.inn{t:Tv}(h:Cq t):Inn t:=λts e u hu=>by subst e;exact h.mem hu
def Oz{t:Tv}(h:CZ 3 t=true):∃a b c,t=.tup [a,b,c]:=by
 cases t with
 |tup ts=>
  simp[CZ]at h
  match ts,h with
  |[a,b,c],_=>exact⟨a,b,c,rfl⟩
 |_=>simp[CZ]at h
def K8{t:Tv}(h:¬ CZ 3 t=true):BN t=false:=by
 unfold BN;split
 .simp[CZ]at h
 .rfl
def Kq{N:Nat}{h:Hd}{t:Tv}{d:D}(hN:N<=h.length)(hi:Is N h t d)(c:Inn t):WF Cg [d] h λd' x=>d'=.im (.bl (BN t))/\∃g,x=h++g:=by
 unfold Cg;refine BH rfl ?_;refine AB (AY (BX (Af (AX (A1 (A8 (A1 (A5 rfl (A7 ((LX (k:=3) hi).mono ?_))))))))));rintro d' x ⟨rfl,hx⟩;subst x;refine⟨_,rfl,?_⟩;have nil:∀{b:Bool},b=BN t->(D.im (.bl b)=.im (.bl (BN t))/\∃g,h=h++g):=λe=>⟨by rw[e],[],by simp⟩
 by_cases ht:CZ 3 t=true
 .rw[ht];refine⟨(λh=>by cases h),λ_=>AU (A9 ?_)⟩;obtain⟨a,b,q,rfl⟩:=Oz ht;obtain⟨ds,hv,hs⟩:=hi.view;simp only[Iss]at hs;obtain⟨da,_,rfl,ia,db,_,rfl,ib,dc,_,rfl,ic,rfl⟩:=hs;refine AB (NX (A5 rfl ⟨[some d,some da,some db,some dc],by simp[HP,hv],A9 ?_⟩));refine AF (B5 (AG (AX (A1 (A8 (A1 (A5 rfl (A7 ((GN ia).mono ?_)))))))));rintro d' x ⟨rfl,hx⟩;subst x;refine⟨_,rfl,?_⟩;by_cases ha:BJ 1 a=true
  .rw[if_pos ha];refine B5 (AG (AX (A1 (A8 (A1 (A5 rfl (A7 ((GN ib).mono ?_))))))));rintro d' x ⟨rfl,hx⟩;subst x;refine⟨_,rfl,?_⟩;by_cases hb:BJ 0 b=true
   .rw[if_pos hb];refine AX (A1 (A5 rfl (A7 ((QH hN ic (c _ rfl q (by simp))).mono ?_))));rintro d' x ⟨rfl,g,rfl⟩;exact⟨by simp[BN,ha,hb],g,rfl⟩
   .rw[if_neg hb];exact nil (by simp[BN,Bool.eq_false_iff.mpr hb])
  .rw[if_neg ha];exact nil (by simp[BN,Bool.eq_false_iff.mpr ha])
 .refine⟨λ_=>AF (A8 (nil (K8 ht).symm)),(λh=>by simp[ht]at h)⟩
def JO{N:Nat}{h:Hd}{t:Tv}{d:D}(hN:N<=h.length)(hi:Is N h t d)(c:Inn t):WF CL [d] h λd' x=>d'=.im (.bl (BN t))/\∃g,x=h++g:=by
 unfold CL;refine BH rfl ?_;have nil:∀{b:Bool},b=BN t->(D.im (.bl b)=.im (.bl (BN t))/\∃g,h=h++g):=λe=>⟨by rw[e],[],by simp⟩
 refine AB (AY (Bs (BX (Af (Ak (A5 rfl ⟨_,hi.isD .tuple,_,rfl,?_⟩))))));by_cases hT:∃ts,t=.tup ts
 .obtain⟨ts,rfl⟩:=hT;obtain⟨ds,hv,hs⟩:=hi.view;have hl0:=hs.len;rw[if_neg (by simp[ty])];refine AG (AA (Az (A1 (A5 rfl (A7 (CC (ds:=ds) (by rw[if_pos rfl];exact Ap hv) rfl (A8 (K5 ⟨_,rfl,?_⟩))))))));by_cases l3:ts.length=3
  .refine⟨(λh=>by simp at h;omega),λ_=>AU (A9 ?_)⟩
   match ts,l3 with
   |[a,b,q],_=>
    simp only[Iss]at hs;obtain⟨da,_,rfl,ia,db,_,rfl,ib,dc,_,rfl,ic,rfl⟩:=hs;refine AB (AY (Bs (BX (Af (AX (A1 (AA (A5 rfl (A8 (Ab (Ap hv) (Aj (k:=0) rfl rfl) (A7 ((GJ ia).mono ?_))))))))))));rintro d' x ⟨rfl,hx⟩;subst x;refine⟨_,rfl,?_⟩;by_cases ha:Aw a=true
    .rw[if_neg (by simp[ha])];have ia2:=ia;rw[Cw ha]at ia2;simp only[Is]at ia2;subst ia2;refine Bs (AG (AA (AA (A5 rfl (A8 (Ab (Ap hv) (Aj (k:=0) rfl rfl) (A8 (Ga ⟨_,rfl,?_⟩))))))));by_cases ha1:BQ a<1
     .rw[if_pos (by simpa using ha1)];refine⟨λ_=>AF (A8 (nil ?_)),λh=>by cases h⟩;simp[BN,BJ,ha,show ¬ (1<=BQ a) by omega]
     .rw[if_neg (by simpa using ha1)];refine Bs (BX (Af (AX (A1 (AA (A5 rfl (A8 (Ab (Ap hv) (Aj (k:=1) rfl rfl) (A7 ((GJ ib).mono ?_))))))))));rintro d' x ⟨rfl,hx⟩;subst x;refine⟨_,rfl,?_⟩;by_cases hb:Aw b=true
      .rw[if_neg (by simp[hb])];have ib2:=ib;rw[Cw hb]at ib2;simp only[Is]at ib2;subst ib2;refine AG (AA (AA (A5 rfl (A8 (Ab (Ap hv) (Aj (k:=1) rfl rfl) (A8 (Ga ⟨_,rfl,?_⟩)))))));by_cases hb1:BQ b<0
       .refine⟨λ_=>AF (A8 (nil ?_)),λh=>by simp at h;omega⟩;simp[BN,BJ,hb,show ¬ (0<=BQ b) by omega]
       .refine⟨(λh=>by simp at h;omega),λ_=>AU (A9 ?_)⟩;refine AF (AX (A1 (AA (A5 rfl (A8 (Ab (Ap hv) (Aj (k:=2) rfl rfl) (A7 ((OL hN ic (c _ rfl q (by simp))).mono ?_))))))));rintro d' x ⟨rfl,g,rfl⟩;exact⟨by simp[BN,BJ,ha,hb,show 1<=BQ a by omega,show 0<=BQ b by omega],g,rfl⟩
      .rw[if_pos (by simp[hb])];refine⟨λ_=>AF (A8 (nil ?_)),λh=>by cases h⟩;simp[BN,BJ,Bool.eq_false_iff.mpr hb]
    .rw[if_pos (by simp[ha])];refine⟨λ_=>AF (A8 (nil ?_)),λh=>by cases h⟩;simp[BN,BJ,Bool.eq_false_iff.mpr ha]
  .refine⟨λ_=>AF (A8 (nil (K8 (by simpa [CZ]using l3)).symm)),(λh=>by simp at h;omega)⟩
 .rw[if_pos (by cases t<;>simp[ty]at hT ⊢)];refine⟨λ_=>AF (A8 (nil ?_)),λh=>by cases h⟩;cases t<;>simp[BN]at hT ⊢
structure Th(t:Tv):Prop where
 ok:OkV 90000 29 (pyT t)
 dp:dep t<=29
 tl:tl t<=1000
 inn:Inn t
def JQ{N:Nat}{h:Hd}{t:Tv}{d:D}(hN:N<=h.length)(hi:Is N h t d)(c:Th t):WF C4 [d] h λd' x=>d'=.im (.bl (Co t))/\∃g,x=h++g:=by
 unfold C4;refine BH rfl ?_;refine AB (AY (Bs (BX (Af (Ak (A5 rfl ⟨_,hi.isD .tuple,_,rfl,?_⟩))))));by_cases hT:∃ts,t=.tup ts
 .obtain⟨ts,rfl⟩:=hT;obtain⟨ds,hv,hs⟩:=hi.view;have hl0:=hs.len;have htl:ts.length<=1000:=c.tl;rw[if_neg (by simp[ty])];refine IN rfl hi c.ok.lay (by have:=c.dp;omega) ?_;by_cases he:ts.isEmpty=true
  .rw[he];exact⟨λ_=>AF (A8 ⟨by simp[Co,he],[],by simp⟩),λh=>by cases h⟩
  have he:=Bool.eq_false_iff.mpr he;rw[he];refine⟨(λh=>by cases h),λ_=>AU (A9 ?_)⟩;refine AF (Cs (BY (E1 (A5 rfl ⟨ds,hv,AM (by dsimp only;omega),?_⟩))));refine Hr (spec:=BN) hs hN (λt ht d g hi=>Kq (by simp;omega) hi (c.inn ts rfl t ht).inn) λg=>?_;refine⟨_,by rw[Eh,Fr];rfl,?_,g,rfl⟩;dsimp only;rw[all_map,show(id ∘ BN)=BN from rfl];simp[Co,he]
 .rw[if_pos (by cases t<;>simp[ty]at hT ⊢)];refine⟨λ_=>AF (A8 ⟨?_,[],by simp⟩),λh=>by cases h⟩;cases t<;>simp[Co]at hT ⊢
def NS{N:Nat}{h:Hd}{t:Tv}{d:D}(hN:N<=h.length)(hi:Is N h t d)(c:Th t):WF CQ [d] h λd' x=>d'=.im (.bl (Co t))/\∃g,x=h++g:=by
 unfold CQ;refine BH rfl ?_;refine AF (B5 (AG (Ak (A5 rfl ⟨_,hi.isD .tuple,_,rfl,?_⟩))));by_cases hT:∃ts,t=.tup ts
 .obtain⟨ts,rfl⟩:=hT;obtain⟨ds,hv,hs⟩:=hi.view;have hl0:=hs.len;have htl:ts.length<=1000:=c.tl;rw[if_pos (by simp[ty])];refine B5 (AG (AA (Az (A1 (A5 rfl (A7 (CC (ds:=ds) (by rw[if_pos rfl];exact Ap hv) rfl (A8 (Jr ⟨_,rfl,?_⟩)))))))));by_cases he:ts.length=0
  .rw[if_neg (by rw[decide_eq_true_eq];omega)];exact⟨by simp[Co,List.length_eq_zero_iff.mp he],[],by simp⟩
  rw[if_pos (by rw[decide_eq_true_eq];omega)];refine NY (A8 (BY (E1 (A5 rfl ⟨ds,hv,AM (by dsimp only;omega),?_⟩))));refine Hr (spec:=BN) hs hN (λt ht d g hi=>JO (by simp;omega) hi (c.inn ts rfl t ht).inn) λg=>?_;refine⟨_,_,_,rfl,rfl,Ku _,?_,g,rfl⟩;rw[Lx];have ea:∀b:Bool,(.im (.bl (if true=true then !b else b)):D)=.im (.bl (!b)):=λb=>rfl;rw[ea];have he2:ts.isEmpty=false:=by cases ts<;>simp at he ⊢
  simp only[Co,he2,Bool.not_false,Bool.true_and]
  congr 2
  rw[Bool.eq_iff_iff];simp
 .rw[if_neg (by cases t<;>simp[ty]at hT ⊢)];refine⟨?_,[],by simp⟩;cases t<;>simp[Co]at hT ⊢
def G6{i:Int}{hd:Hd}{QE:D->Hd->Prop}(h:i.natAbs.log2<1920)(q:QE (.im (.str (toString i))) hd):WP (Av [.im (.int i)] hd) QE:=⟨_,_,by show GP [.im (.int i)] hd=_;unfold GP;exact if_pos h,q⟩
def K4{hd:Hd}{QE:D->Hd->Prop}(q:QE (.im (.str "None")) hd):WP (Av [.im .non] hd) QE:=⟨_,_,rfl,q⟩
def KH{i:Int}(h:-1000000<=i/\i<=1000000):i.natAbs.log2<1920:=by
 by_cases z:i.natAbs=0
 .rw[z];decide
 .exact lt_of_lt_of_le ((log2_lt z).mpr (show i.natAbs<2^20 by omega)) (by decide)
def GL(ws:List Wk):(ws.map Al).map D.im=wkD ws:=by simp[wkD]
def BK(ws:List Wk):AR (.im (AW ws))=some (wkD ws):=by show some _=_;rw[GL]
def kS(ns:List Int):Hc (BB ns)=some (.im (.int ns.sum)):=by unfold Hc;rw[show Bb (BB ns)=some ns from JR ns];rfl
def E5(ws:List Wk):List Int:=ws.map Wk.len
def Ce(ws:List Wk):List Int:=ws.map Wk.com
def Tz{ws:List Wk}(ok:∀w∈ws,w.ok):((List.range 20).map λk:Nat=>(((ws.filter λw=>decide ((k:Int)<w.len)).length:Nat):Int)).sum=(E5 ws).sum:=by
 induction ws with
 |nil=>rfl
 |cons w ws ih=>
  have ih:=ih λx hx=>ok x (by simp[hx]);have h1:=(ok w (by simp)).l1;have h2:=(ok w (by simp)).l2;rw[E5,map_cons,sum_cons,<- E5,<- ih];obtain⟨l,hl⟩:∃l:Nat,w.len=(l:Int):=⟨w.len.toNat,by omega⟩
  have step:∀(L:List Nat),(L.map λk:Nat=>((((w::ws).filter λw=>decide ((k:Int)<w.len)).length:Nat):Int)).sum=(L.map λk:Nat=>if k<l then(1:Int)else 0).sum+(L.map λk:Nat=>(((ws.filter λw=>decide ((k:Int)<w.len)).length:Nat):Int)).sum:=by
   intro L
   induction L with
   |nil=>rfl
   |cons k L ihL=>
    have hd1:((((w::ws).filter λw=>decide ((k:Int)<w.len)).length:Nat):Int)=(if k<l then(1:Int)else 0)+(((ws.filter λw=>decide ((k:Int)<w.len)).length:Nat):Int):=by
     rw[filter_cons,hl];by_cases hk:k<l
     .rw[if_pos (by simpa using hk),if_pos hk,length_cons];omega
     .rw[if_neg (by simpa using hk),if_neg hk];omega
    rw[map_cons,sum_cons,ihL,map_cons,sum_cons,map_cons,sum_cons,hd1];omega
  rw[step,hl]
  congr 1
  have:∀l:Nat,l<=20->((List.range 20).map λk:Nat=>if k<l then(1:Int)else 0).sum=(l:Int):=by decide +kernel
  exact this l (by omega)
def Oj{ws:List Wk}(hl:ws.length<=8):WF Dd [.im (AW ws)] [] λd x=>d=.im (.int (E5 ws).sum)/\x=[]:=by
 unfold Dd;refine BH rfl ?_;refine AF (Cs (BY (E1 (A5 rfl ⟨_,BK ws,AM (by dsimp only;simp;omega),?_⟩))));refine Ct (λw=>D.im (Al w)) (λw:Wk=>some (.im (.int w.len))) (λ_ ls=>∃x,ls=[some x]) _ (B8 _) ?_ ?_
 .rintro w hw ls hls;refine⟨[some (.im (Al w))],by rcases hls with rfl|⟨_,x,rfl⟩<;>rfl,⟨_,rfl⟩,CY ⟨rfl,?_⟩⟩;rw[if_pos rfl];exact⟨_,rfl,AA (A5 rfl (A8 (Ab rfl (Aj (k:=0) rfl rfl) ⟨rfl,rfl⟩)))⟩
 rw[List.filterMap_eq_map',show(ws.map λw:Wk=>D.im (.int w.len))=BB (E5 ws) by simp[BB,E5]];exact⟨_,kS _,rfl,rfl⟩
def Ge(ws:List Wk)(c:Int):D:=if(Ce ws).all (λx=>decide (x=c))=true then .im (.int c)else .im .non
def Uc{w:Wk}{ws:List Wk}(hl:ws.length<=7):WF CM [.im (AW (w::ws))] [] λd x=>d=Ge (w::ws) w.com/\x=[]:=by
 unfold CM;refine BH rfl ?_;refine AB (Ac (AA (AA (A5 rfl (A8 (Ab (Ap (BK _)) (Aj (k:=0) rfl rfl) (A8 (Ab rfl (Aj (k:=1) rfl rfl) (A9 ?_)))))))));refine AB (AY (Af (Cs (BY (E1 (A5 rfl ⟨_,BK _,AM (by dsimp only;simp;omega),?_⟩))))));refine Ct (λw=>D.im (Al w)) (λx:Wk=>some (.im (.bl (decide (x.com=w.com))))) (λ_ ls=>∃x,ls=[some x,some (.im (.int w.com))]) _ (B8 _) ?_ ?_
 .rintro x hx ls hls;refine⟨[some (.im (Al x)),some (.im (.int w.com))],by rcases hls with rfl|⟨_,x,rfl⟩<;>rfl,⟨_,rfl⟩,CY ⟨rfl,?_⟩⟩;rw[if_pos rfl];exact⟨_,rfl,AA (AA (A5 rfl (A8 (Ab rfl (Aj (k:=1) rfl rfl) (A5 rfl (FE ⟨rfl,rfl⟩))))))⟩
 rw[List.filterMap_eq_map',show((w::ws).map λx:Wk=>D.im (.bl (decide (x.com=w.com))))=blD ((w::ws).map λx=>decide (x.com=w.com)) by simp[blD]];refine⟨_,by rw[Eh,Fr];rfl,_,rfl,?_⟩;have ea:((w::ws).map λx=>decide (x.com=w.com)).all id=(Ce (w::ws)).all (λx=>decide (x=w.com)):=by rw[Ce,all_map,all_map];rfl
 unfold Ge;rw[<- ea];refine⟨λh=>?_,λh=>AU (A9 ?_)⟩
 .rw[if_pos h];exact AF (A5 rfl ⟨rfl,rfl⟩)
 .rw[if_neg (by rw[h];simp)];exact AF (A8 ⟨rfl,rfl⟩)
def UT{ml:MA}{mb:ME}{ls:Ls}{hd:Hd}{QA:List D->Hd->Prop}(h:WA ml ls hd λds x=>WE mb ls x λe y=>∃k,e=.im (.int k)/\(0<=k/\k<=1000)/\Bh (ds.length*k.toNat)/\QA (List.replicate k.toNat ds).flatten y):WA (J0 ml mb) ls hd QA:=by
 obtain⟨ds,x,e1,e,y,e2,k,rfl,h1,h2,q⟩:=h;exact⟨_,_,by simp only[J0,e1,bind_some,e2,h1,h2,and_self,if_true],q⟩
def SI(n:Nat)(c:D):(List.replicate n [c]).flatten=List.replicate n c:=by
 induction n with
 |zero=>rfl
 |succ n ih=>rw[replicate_succ,flatten_cons,ih];rfl
def Nf{ws:List Wk}(h1:1<=ws.length)(h8:ws.length<=8)(ok:∀w∈ws,w.ok):WF Bq [.im (AW ws)] [] λd x=>d=.im (.bl true):=by
 unfold Bq;refine BH rfl ?_;refine AB (Ac (Cs (BY (MH (A1 (A8 (A7 ⟨_,rfl,FF (by decide) (by decide),AM (by simp),?_⟩)))))));rw[show((20:Int)).toNat=20 from rfl,Mo];refine Ct (λk:Nat=>D.im (.int (k:Int))) (λk:Nat=>some (.im (.int (((ws.filter λw=>decide ((k:Int)<w.len)).length:Nat):Int)))) (λ_ ls=>∃x,ls=[some x,some (.im (AW ws))]) _ (B8 _) ?_ ?_
 .rintro k hk ls hls;refine⟨[some (.im (.int (k:Int))),some (.im (AW ws))],by rcases hls with rfl|⟨_,x,rfl⟩<;>rfl,⟨_,rfl⟩,CY ⟨rfl,?_⟩⟩;rw[if_pos rfl];refine⟨_,rfl,Cs (BY (E1 (A5 rfl ⟨_,BK ws,AM (by dsimp only;simp;omega),?_⟩)))⟩;refine Ct (λw=>D.im (Al w)) (λw:Wk=>if(k:Int)<w.len then some (.im (Al w))else none) (λ_ ls=>∃x,ls=[some x,some (.im (.int (k:Int)))]) _ (B8 _) ?_ ?_
  .rintro w hw ls hls;refine⟨[some (.im (Al w)),some (.im (.int (k:Int)))],by rcases hls with rfl|⟨_,x,rfl⟩<;>rfl,⟨_,rfl⟩,?_⟩;refine AG (AA (AA (A5 rfl (A8 (Ab rfl (Aj (k:=0) rfl rfl) (A5 rfl (Jr ⟨_,rfl,rfl,?_⟩)))))));by_cases hc:(k:Int)<w.len
   .rw[if_pos (by simpa using hc)];exact⟨_,if_pos hc,A5 rfl ⟨rfl,rfl⟩⟩
   .rw[if_neg (by simpa using hc),if_neg hc]
  refine⟨_,rfl,rfl,?_⟩;have:∀L:List Wk,(L.filterMap λw:Wk=>if(k:Int)<w.len then some (D.im (Al w))else none).length=(L.filter λw=>decide ((k:Int)<w.len)).length:=λL=>by
   induction L with
   |nil=>rfl
   |cons w L ih=>
    rw[filterMap_cons,filter_cons];by_cases hc:(k:Int)<w.len
    .simp[hc,ih]
    .simp[hc,ih]
  rw[this]
 rw[List.filterMap_eq_map',show((List.range 20).map λk:Nat=>D.im (.int (((ws.filter λw=>decide ((k:Int)<w.len)).length:Nat):Int)))=BB ((List.range 20).map λk:Nat=>(((ws.filter λw=>decide ((k:Int)<w.len)).length:Nat):Int)) by simp[BB]];refine⟨_,kS _,A9 ?_⟩;rw[Tz ok];have lb:0<=(E5 ws).sum/\(E5 ws).sum<=20*(ws.length:Int):=by
  clear h1 h8
  induction ws with
  |nil=>simp[E5]
  |cons w ws ih=>
   have ih:=ih λx hx=>ok x (by simp[hx]);have a:=(ok w (by simp)).l1;have b:=(ok w (by simp)).l2;simp only[E5,map_cons,sum_cons,length_cons]at ih ⊢;omega
 have lg:=KH (i:=(E5 ws).sum) (by omega);refine AB (AY (AG (AA (Az (A1 (C5 (A1 (A5 rfl (A7 ⟨by simp,(Oj h8).mono ?_⟩)))))))));rintro d x ⟨rfl,-⟩;refine⟨_,rfl,A7 (G6 lg (Az (A1 (A5 rfl (A7 (G6 lg (Hn ⟨_,rfl,(λh=>by simp at h),λ_=>AU (A9 ?_)⟩)))))))⟩;refine AB (Ac (Ah (BY (E1 (A5 rfl ⟨_,BK ws,AM (by dsimp only;simp;omega),?_⟩)))));refine Ct (λw=>D.im (Al w)) (λw:Wk=>some (.im (.int w.com))) (λ_ ls=>∃x,ls=[some x]) _ (B8 _) ?_ ?_
 .rintro w hw ls hls;refine⟨[some (.im (Al w))],by rcases hls with rfl|⟨_,x,rfl⟩<;>rfl,⟨_,rfl⟩,CY ⟨rfl,?_⟩⟩;rw[if_pos rfl];exact⟨_,rfl,AA (A5 rfl (A8 (Ab rfl (Aj (k:=1) rfl rfl) ⟨rfl,rfl⟩)))⟩
 rw[List.filterMap_eq_map',show(ws.map λw:Wk=>D.im (.int w.com))=BB (Ce ws) by simp[BB,Ce]];refine A9 ?_;cases ws with
 |nil=>simp at h1
 |cons w ws=>
  have c0:=(ok w (by simp)).c1;have c1:=(ok w (by simp)).c2;have lc:=KH (i:=w.com) (by omega);refine AB (Ac (MK (AG (KB (A5 rfl (UT (Na (A5 rfl (D7 (Bc (A8 ⟨_,rfl,BB (Ce (w::ws)),rfl,?_⟩)))))))))));rw[show((1:Int))=((1:Nat):Int)from rfl,FR];refine Az (A1 (A5 rfl (A7 (CC (ds:=BB (Ce (w::ws))) rfl rfl ⟨((w::ws).length:Int),by simp[Ce],⟨by omega,by omega⟩,AM (by rw[show((BB (Ce (w::ws))).take 1).length=1 from rfl,Nat.one_mul,toNat_natCast];omega),?_⟩))));have er:(List.replicate ((w::ws).length:Int).toNat ((BB (Ce (w::ws))).take 1)).flatten=BB (List.replicate (w::ws).length w.com):=by
   rw[show(BB (Ce (w::ws))).take 1=[D.im (.int w.com)]from rfl,SI,toNat_natCast];simp[BB]
  rw[er];refine⟨Ce (w::ws),_,Ln rfl,rfl,_,rfl,?_⟩;have es:(Ce (w::ws)=List.replicate (w::ws).length w.com)↔(Ce (w::ws)).all (λx=>decide (x=w.com))=true:=by
   rw[List.eq_replicate_iff,all_eq_true];constructor
   .rintro⟨_,h⟩ x hx;simpa using h x hx
   .intro h;exact⟨by simp[Ce],λx hx=>by simpa using h x hx⟩
  have fin:∀(dd:D),dd=Ge (w::ws) w.com->WS (AO (mOp gEq (mCB Av (A0 (AE 0 CM (A0 (A4 0) A6)) A6)) (mCB Av (A0 (A4 3) A6)))) [some (.im (AW (w::ws))),some (.im (.int (E5 (w::ws)).sum)),some (.mu 0),some dd] [.lst (BB (Ce (w::ws)))] λf x=>∃d',f=.rt d'/\d'=.im (.bl true):=by
   rintro dd rfl;refine AF (AA (Az (A1 (C5 (A1 (A5 rfl (A7 ⟨by simp,(Uc (by simp at h8;omega)).mono ?_⟩)))))));rintro d x ⟨rfl,-⟩;unfold Ge;split
   .refine⟨_,rfl,A7 (G6 lc (Az (A1 (A5 rfl (A7 (G6 lc (G7 ⟨_,rfl,by simp⟩)))))))⟩
   .refine⟨_,rfl,A7 (K4 (Az (A1 (A5 rfl (A7 (K4 (G7 ⟨_,rfl,by simp⟩)))))))⟩
  by_cases hc:(Ce (w::ws)).all (λx=>decide (x=w.com))=true
  .rw[if_pos (by simpa using es.mpr hc)];refine AA (A5 rfl (A8 (Ab rfl (Aj (k:=0) rfl rfl) (A9 ?_))));exact WP.mono (fin _ (by rw[Ge,if_pos hc])) (by rintro f x ⟨d',rfl,h⟩;exact h)
  .rw[if_neg (by simpa using λq=>hc (es.mp q))];refine A8 (A9 ?_);exact WP.mono (fin _ (by rw[Ge,if_neg hc])) (by rintro f x ⟨d',rfl,h⟩;exact h)
def Bz(w dp:Nat)(t:Tv):Prop:=Bo (10^60) w dp 30 t
def Bz.mono{w dp w' dp':Nat}{t:Tv}(h:Bz w dp t)(a:w<=w')(b:dp<=dp'):Bz w' dp' t:=Bo.mono h (le_refl _) a b (le_refl _)
def K3{w:Nat}:∀{us:List Tv},(∀u∈us,wt u<=w)->wts us<=us.length*w
 |[],_=>by simp[wts]
 |u::us,h=>by
  have h1:=h u (by simp);have h2:=K3 (us:=us) λv hv=>h v (by simp[hv]);rw[wts,length_cons,Nat.succ_mul];omega
def IX{w dp k:Nat}{us:List Tv}(h:∀u∈us,Bz w dp u)(hl:us.length<=k)(hk:k<=30):Bz (k*w+1) (dp+1) (.tup us)/\Bz (k*w+1) (dp+1) (.lst us):=by
 have h1:=K3 (w:=w) λu hu=>(h u hu).wt;have h2:us.length*w<=k*w:=Nat.mul_le_mul_right _ hl;have h3:=EQ (k:=dp) λu hu=>(h u hu).dp;exact⟨Dz (λu hu=>(h u hu).gd) (by omega) (by omega) (by omega),Ia (λu hu=>(h u hu).gd) (by omega) (by omega) (by omega)⟩
def E9{w dp k:Nat}{is:List I}(h:∀i∈is,Bz w dp (ofI i))(hl:is.length<=k)(hk:k<=30):Bz (k*w+1) (dp+1) (ofI (.tup is)):=by
 rw[ofI,Be];exact(IX (λu hu=>by obtain⟨i,hi,rfl⟩:=mem_map.mp hu;exact h i hi) (by simpa using hl) hk).1
def Bn{i:Int}(h:sm i):Bz 40 0 (ofI (.int i)):=by
 have hs:i.natAbs<=1000000000:=by unfold sm at h;omega
 have:=Fi hs;have l2:Nat.log2 1000000000=29:=by decide +kernel
 refine FV (by omega) (by omega)
def ER{x:Str}(h:x="late"∨x="tardy"∨x="miss"∨x="ends"∨x="steps"):Bz 40 0 (ofI (.str x)):=by
 rcases h with rfl|rfl|rfl|rfl|rfl<;>exact Dc (by decide +kernel) (by decide +kernel)
def M5{c:Cost}(h:c.ok):Bz 820 3 (ofI (BW c)):=by
 cases c with
 |late d=>
  refine(E9 (w:=40) (dp:=0) (k:=2) (is:=[.str "late",.int d]) (λi hi=>?_) (by simp) (by decide)).mono (by decide) (by decide);simp only[mem_cons,not_mem_nil,or_false]at hi;rcases hi with rfl|rfl
  .exact ER (by simp)
  .exact Bn ⟨by have:=h.1;omega,by have:=h.2;omega⟩
 |tardy d w=>
  obtain⟨⟨h1,h2⟩,h3,h4⟩:=h;refine(E9 (w:=40) (dp:=0) (k:=3) (is:=[.str "tardy",.int d,.int w]) (λi hi=>?_) (by simp) (by decide)).mono (by decide) (by decide);simp only[mem_cons,not_mem_nil,or_false]at hi;rcases hi with rfl|rfl|rfl
  .exact ER (by simp)
  .exact Bn ⟨by omega,by omega⟩
  .exact Bn ⟨by omega,by omega⟩
 |miss d w=>
  obtain⟨⟨h1,h2⟩,h3,h4⟩:=h;refine(E9 (w:=40) (dp:=0) (k:=3) (is:=[.str "miss",.int d,.int w]) (λi hi=>?_) (by simp) (by decide)).mono (by decide) (by decide);simp only[mem_cons,not_mem_nil,or_false]at hi;rcases hi with rfl|rfl|rfl
  .exact ER (by simp)
  .exact Bn ⟨by omega,by omega⟩
  .exact Bn ⟨by omega,by omega⟩
 |ends w=>
  obtain⟨h3,h4⟩:=h;refine(E9 (w:=40) (dp:=0) (k:=2) (is:=[.str "ends",.int w]) (λi hi=>?_) (by simp) (by decide)).mono (by decide) (by decide);simp only[mem_cons,not_mem_nil,or_false]at hi;rcases hi with rfl|rfl
  .exact ER (by simp)
  .exact Bn ⟨by omega,by omega⟩
 |steps rows=>
  obtain⟨h1,h2,lo,h3,h4,h5⟩:=h;have hr:=Io h5 h2 h3 (by omega) (by omega) (by omega);refine(E9 (w:=406) (dp:=2) (k:=2) (is:=[.str "steps",.tup (rows.map C9)]) (λi hi=>?_) (by simp) (by decide)).mono (by decide) (by decide);simp only[mem_cons,not_mem_nil,or_false]at hi;rcases hi with rfl|rfl
  .exact(ER (by simp)).mono (by decide) (by decide)
  .refine E9 (w:=81) (dp:=1) (k:=5) (λi hi=>?_) (by simpa using h2) (by decide);obtain⟨r,hr1,rfl⟩:=mem_map.mp hi;refine E9 (w:=40) (dp:=0) (k:=2) (is:=[.int r.1,.int r.2]) (λj hj=>?_) (by simp) (by decide);simp only[mem_cons,not_mem_nil,or_false]at hj;rcases hj with rfl|rfl
   .exact Bn (hr r hr1).1
   .exact Bn (hr r hr1).2
def JA{w:Wk}(h:w.ok):Bz 2461 4 (ofI (Al w)):=by
 have h1:=h.l1;have h2:=h.l2;have h3:=h.c1;have h4:=h.c2;refine E9 (w:=820) (dp:=3) (k:=3) (is:=[.int w.len,.int w.com,BW w.cost]) (λi hi=>?_) (by simp) (by decide);simp only[mem_cons,not_mem_nil,or_false]at hi;rcases hi with rfl|rfl|rfl
 .exact(Bn ⟨by omega,by omega⟩).mono (by decide) (by decide)
 .exact(Bn ⟨by omega,by omega⟩).mono (by decide) (by decide)
 .exact M5 h.co
def Hh{ws:List Wk}(hl:ws.length<=8)(ok:∀w∈ws,w.ok):Bz 19689 5 (ofI (AW ws)):=by
 refine E9 (w:=2461) (dp:=4) (k:=8) (λi hi=>?_) (by simpa using hl) (by decide);obtain⟨w,hw,rfl⟩:=mem_map.mp hi;exact JA (ok w hw)
def Hq{t:Tv}(h:Bo (10^60+9) 90000 25 1000 t):Th t:=by
 refine⟨(h.gd.ok (by decide)).mono h.wt (by have:=h.dp;omega),by have:=h.dp;omega,h.tl,λts e u hu=>?_⟩;subst e;exact Cq.mem ⟨h.gd,h.dp⟩ hu
def Xa{a:Int}{r:List Int}(h:up (a::r)=true):up r=true:=by
 cases r with
 |nil=>rfl
 |cons b r=>rw[up,Bool.and_eq_true]at h;exact h.2
def YC{a:Int}{r:List Int}(h:le (a::r)=true):le r=true:=by
 cases r with
 |nil=>rfl
 |cons b r=>rw[le,Bool.and_eq_true]at h;exact h.2
def Lc:∀{rows:List (Int×Int)} {lo bot:Int},RowsOk lo bot rows->0<=bot->up (lo::rows.map (·.1))=true/\le (bot::rows.map (·.2))=true/\∀p∈rows,0<=p.2
 |[],_,_,_,_=>⟨rfl,rfl,by simp⟩
 |(b,a)::rows,lo,bot,⟨h1,h2,h3,h4,h5⟩,h0=>by
   obtain⟨p,q,r⟩:=Lc h5 (by omega);refine⟨?_,?_,λx hx=>?_⟩
   .rw[map_cons,up,p,Bool.and_true];exact decide_eq_true h1
   .rw[map_cons,le,q,Bool.and_true];exact decide_eq_true h3
   .rcases mem_cons.mp hx with rfl|hx
    .show 0<=a;omega
    .exact r x hx
def UB{c:Cost}(h:c.ok):Ai (ofI (BW c))=true:=by
 cases c with
 |late d=>rw[BW,ofI,Ao,Ao,Ao,ofI,ofI,Ai,if_pos rfl];rfl
 |tardy d w=>
  obtain⟨_,h3,_⟩:=h;rw[BW,ofI,Ao,Ao,Ao,Ao,ofI,ofI,ofI,Ai,if_neg (by decide +kernel),if_pos (.inl rfl),E2,BJ];simp[Aw,BQ,h3]
 |miss d w=>
  obtain⟨_,h3,_⟩:=h;rw[BW,ofI,Ao,Ao,Ao,Ao,ofI,ofI,ofI,Ai,if_neg (by decide +kernel),if_pos (.inr rfl),E2,BJ];simp[Aw,BQ,h3]
 |ends w=>
  rw[BW,ofI,Ao,Ao,Ao,ofI,ofI,Ai,if_neg (by decide +kernel),if_neg (by decide +kernel),if_pos rfl,Ca,BJ];simp[Aw,BQ,h.1]
 |steps rows=>
  obtain⟨h1,h2,lo,h3,h4,h5⟩:=h;rw[BW,ofI,Ao,Ao,Ao,ofI,ofI,Ai,if_neg (by decide +kernel),if_neg (by decide +kernel),if_neg (by decide +kernel),if_pos rfl,Ca];have e:Ao (rows.map C9)=rows.map F6:=by rw[Be,map_map];rfl
  obtain⟨p,q,r⟩:=Lc h5 (by omega);rw[e,Bt,IB rows r,Xa p,YC q];cases rows with
  |nil=>exact absurd rfl h1
  |cons _ _=>rfl
def Re{w:Wk}(h:w.ok):BN (ofI (Al w))=true:=by
 have h1:=h.l1;have h3:=h.c1;rw[Al,ofI,Ao,Ao,Ao,Ao,BN,UB h.co];simp[ofI,BJ,Aw,BQ,h1,h3]
def Ot{ws:List Wk}(hl:1<=ws.length)(ok:∀w∈ws,w.ok):Co (ofI (AW ws))=true:=by
 rw[ofI,Be,Co,Bool.and_eq_true];refine⟨by cases ws<;>simp at hl ⊢,?_⟩;rw[all_eq_true];intro t ht;obtain⟨i,hi,rfl⟩:=mem_map.mp ht;obtain⟨w,hw,rfl⟩:=mem_map.mp hi;exact Re (ok w hw)
section
variable{ls:Ls}{hd:Hd}{QE:D->Hd->Prop}{i j k:Nat}{d:D}{ds:List D}
def Qj(h1:ls[i]?=some (some d))(hv:AR d=some ds)(h2:ls[j]?=some (some (.im (.int (k:Int)))))(hk:k<ds.length)(q:QE (AK (ds.take k)) hd):WE (CT (A4 i) AT (Aa (A4 j))) ls hd QE:=
 KA (A5 h1 (D7 (Bc (A5 h2 ⟨_,rfl,ds,hv,by rw[De];omega,by rw[FR];exact q⟩))))
def Ni(h1:ls[i]?=some (some d))(hv:AR d=some ds)(h2:ls[j]?=some (some (.im (.int (k:Int)))))(hk:k<ds.length)(q:QE (AK (ds.drop (k+1))) hd):WE (CT (A4 i) (Aa (mOp AQ (A4 j) (mC (.int 1)))) AT) ls hd QE:=
 KA (A5 h1 (Bc (AA (A5 h2 (A8 (DN ⟨_,rfl,D7 ⟨ds,hv,by rw[show((k:Int)+1)=((k+1:Nat):Int) by omega,De];omega,by rw[show((k:Int)+1)=((k+1:Nat):Int) by omega,GT];exact q⟩⟩))))))
end
def Xd{ws:List Wk}{j:Nat}(hj:j<ws.length)(w:Wk):AK ((wkD ws).take j++[.im (Al w)]++(wkD ws).drop (j+1))=.im (AW (ws.set j w)):=by
 have:(wkD ws).take j++[D.im (Al w)]++(wkD ws).drop (j+1)=wkD (ws.set j w):=by
  rw[wkD,wkD,<- map_take,<- map_drop,List.set_eq_take_append_cons_drop,if_pos hj];simp
 rw[this,<- GL,CF]
def Gv{ws:List Wk}{j:Nat}(hj:j<ws.length)(h8:ws.length<=8)(w:Wk):WF D6 [.im (AW ws),.im (.int (j:Int)),.im (Al w)] [] λd x=>d=.im (AW (ws.set j w)):=by
 unfold D6;refine BH rfl ?_;have hl:(wkD ws).length=ws.length:=by simp[wkD]
 have t1:((wkD ws).take j).length<=8:=by rw[length_take];omega
 have t2:((wkD ws).drop (j+1)).length<=8:=by rw[length_drop];omega
 refine AF (AA (AA (Qj (j:=1) rfl (BK ws) rfl (by omega) (AN (A1 (A5 rfl (A7 ⟨BG,DJ (AD _) (AD _) (by simp only[length_singleton];omega) (Ni (j:=1) rfl (BK ws) rfl (by omega) (CO (AD _) (AD _) (by simp) (by simp only[length_append,length_singleton];omega) (Xd hj w)))⟩)))))))
def Gb{ws:List Wk}{j:Nat}(hj:j<ws.length):(wkD ws)[j]?=some (.im (Al ws[j])):=by simp[wkD,hj]
def Je{ws:List Wk}{j:Nat}(hj:j<ws.length)(h8:ws.length<=8)(n:Int):WF DD [.im (AW ws),.im (.int (j:Int)),.im (.int n)] [] λd x=>d=.im (AW (ws.set j ⟨n,ws[j].com,ws[j].cost⟩)):=by
 unfold DD;refine BH rfl ?_;refine AF (C5 (A1 (A5 rfl (A1 (A5 rfl (A1 (AN (A1 (A5 rfl (A1 (AA (AA (A5 rfl (A5 rfl (Ab (Ap (BK ws)) (Aj rfl (Gb hj)) (A8 (Ab rfl (Aj (k:=1) rfl rfl) ?_)))))))))))))))));refine A1 (AA (AA (A5 rfl (A5 rfl (Ab (Ap (BK ws)) (Aj rfl (Gb hj)) (A8 (Ab rfl (Aj (k:=2) rfl rfl) (A7 ⟨Ay,A7 ⟨by simp,(Gv hj h8 ⟨n,ws[j].com,ws[j].cost⟩).mono ?_⟩⟩))))))));rintro d x rfl;exact⟨_,rfl,rfl⟩
def Jf{ws:List Wk}{j:Nat}(hj:j<ws.length)(h8:ws.length<=8)(n:Int):WF DE [.im (AW ws),.im (.int (j:Int)),.im (.int n)] [] λd x=>d=.im (AW (ws.set j ⟨ws[j].len,n,ws[j].cost⟩)):=by
 unfold DE;refine BH rfl ?_;refine AF (C5 (A1 (A5 rfl (A1 (A5 rfl (A1 (AN (A1 (AA (AA (A5 rfl (A5 rfl (Ab (Ap (BK ws)) (Aj rfl (Gb hj)) (A8 (Ab rfl (Aj (k:=0) rfl rfl) (A1 (A5 rfl ?_)))))))))))))))));refine A1 (AA (AA (A5 rfl (A5 rfl (Ab (Ap (BK ws)) (Aj rfl (Gb hj)) (A8 (Ab rfl (Aj (k:=2) rfl rfl) (A7 ⟨Ay,A7 ⟨by simp,(Gv hj h8 ⟨ws[j].len,n,ws[j].cost⟩).mono ?_⟩⟩))))))));rintro d x rfl;exact⟨_,rfl,rfl⟩
abbrev wl(w:Wk):List D:=[.im (.int w.len),.im (.int w.com),.im (BW w.cost)]
def chW(k:Nat)(n:Int)(w:Wk):Wk:=if k=0 then⟨n,w.com,w.cost⟩else⟨w.len,n,w.cost⟩
def YN{k:Nat}(hk:k=0∨k=1)(n:Int)(w:Wk):(wl w).set k (.im (.int n))=wl (chW k n w):=by
 rcases hk with rfl|rfl<;>rfl
def Hm{i:I}{hd:Hd}{QE:D->Hd->Prop}(h:∃is,i=.tup is)(ok:Ee i.py)(q:QE (.im (.str i.py.shown)) hd):WP (Av [.im i] hd) QE:=by
 obtain⟨is,rfl⟩:=h;exact HD (DQ 30 _) ok q
def N0{ws:List Wk}(h8:ws.length<=8)(ok:∀w∈ws,w.ok):Ee (AW ws).py:=(OkV.of (Q6 ok (by omega))).repr (by rw[I.py];rfl) (by omega) (by omega)
def JV{ws:List Wk}{j k:Nat}{n:Int}(hj:j<ws.length)(h8:ws.length<=8)(ok:∀w∈ws,w.ok)(hk:k=0∨k=1)(h0:k=0->1<=n/\n<=20)(h1:k=1->0<=n/\n<=60):WF BS [.im (AW ws),.im (.int (j:Int)),.im (.int n),.im (.int (k:Int))] [] λd x=>d=.im (.bl true):=by
 have okj:=ok _ (List.getElem_mem hj);have okc:(chW k n ws[j]).ok:=by
  rcases hk with rfl|rfl
  .exact⟨(h0 rfl).1,(h0 rfl).2,okj.c1,okj.c2,okj.co⟩
  .exact⟨okj.l1,okj.l2,(h1 rfl).1,(h1 rfl).2,okj.co⟩
 generalize eS:ws.set j (chW k n ws[j])=ws';have ok':∀w∈ws',w.ok:=λw hw=>by
  rw[<- eS]at hw;rcases List.mem_or_eq_of_mem_set hw with hw|rfl
  .exact ok w hw
  .exact okc
 have l':ws'.length=ws.length:=by rw[<- eS];simp
 unfold BS;refine BH rfl ?_;refine AB (Ac (Ah (BY (E1 (A5 rfl ⟨_,BK ws,AM (by dsimp only;simp;omega),?_⟩)))));refine Qf (λr es ls hd=>∃dn rest z,ws=dn++rest/\r=wkD rest/\es=(List.range dn.length).map D.mu/\hd=dn.map (λw=>MO.lst (wl w))/\ls=[z]) ⟨[],ws,none,rfl,rfl,rfl,rfl,rfl⟩ ?_ ?_
 .rintro d r es ls hd ⟨dn,rest,z,e0,er,rfl,rfl,rfl⟩;cases rest with
  |nil=>cases er
  |cons w rest=>
   obtain⟨rfl,rfl⟩:=List.cons.inj er;refine⟨[some (.im (Al w))],rfl,CY ?_⟩;rw[if_pos rfl];refine Ah (Gc (A5 rfl ⟨wl w,rfl,B8 _,dn++[w],rest,_,by rw[e0];simp,rfl,?_,by simp,rfl⟩));rw[length_append,length_singleton,List.range_succ,List.map_append];simp
 .rintro es ls hd ⟨dn,rest,z,e0,er,rfl,rfl,rfl⟩;cases rest with
  |cons w rest=>cases er
  |nil=>
   rw[append_nil]at e0;subst e0;have f5:Bh ws.length:=AM (by omega);refine A9 ?_;rw[show(ws.map λw=>MO.lst (wl w)).length=ws.length by simp];change WS _ [some (.im (AW ws)),some (.im (.int (j:Int))),some (.im (.int n)),some (.im (.int (k:Int))),some (.mu ws.length),none,none] _ _;have at5:∀L:List Wk,L.length=ws.length->(L.map (λw=>MO.lst (wl w))++[MO.lst ((List.range ws.length).map D.mu)])[ws.length]?=some (.lst ((List.range ws.length).map D.mu)):=λL hL=>by
    rw[List.getElem?_append_right (by simp[hL])];simp[hL]
   have atj:∀L:List Wk,∀i (hi:i<L.length),(L.map (λw=>MO.lst (wl w))++[MO.lst ((List.range ws.length).map D.mu)])[i]?=some (.lst (wl L[i])):=λL i hi=>by
    rw[List.getElem?_append_left (by simpa using hi)];simp[hi]
   refine AB (RZ (A5 rfl (AA (A5 rfl (A5 rfl (Ab (ds:=(List.range ws.length).map D.mu) (by rw[Md,NB,at5 ws rfl]) (Aj (k:=j) rfl (by simp[hj])) (A5 rfl ⟨j,(k:Int),k,wl ws[j],rfl,rfl,atj ws j hj,?_,A9 ?_⟩)))))))
   .unfold ixN;rcases hk with rfl|rfl<;>rfl
   rw[YN hk];have eh:(ws.map (λw=>MO.lst (wl w))++[MO.lst ((List.range ws.length).map D.mu)]).set j (.lst (wl (chW k n ws[j])))=ws'.map (λw=>MO.lst (wl w))++[MO.lst ((List.range ws.length).map D.mu)]:=by
    rw[List.set_append_left _ _ (by simpa using hj),<- eS,List.map_set]
   rw[eh];have G:GOk (ws'.map (λw=>MO.lst (wl w))++[MO.lst ((List.range ws.length).map D.mu)]) [(ws.length,(List.range ws.length).map D.mu)]:=λp hp=>by
    rw[mem_singleton]at hp;subst hp;exact at5 ws' l'
   refine AB (Ac (Cs (BY (K9 (A5 rfl ⟨ws.length,_,rfl,at5 ws' l',AM (by simp;omega),?_⟩)))));have ez:(List.range ws.length).map D.mu=ws'.zipIdx.map λp:Wk×Nat=>D.mu p.2:=by
    rw[show(λp:Wk×Nat=>D.mu p.2)=D.mu ∘ Prod.snd from rfl,<- map_map,List.zipIdx_map_snd,l',List.range_eq_range']
   dsimp only;generalize eR:(List.range ws.length).map D.mu=R at *;rw[ez];refine Ct (λp:Wk×Nat=>D.mu p.2) (λp:Wk×Nat=>some (.im (Al p.1))) (λ_ ls=>∃x,ls=[some x]) _ (by rw[<- ez];exact G) ?_ ?_
   .rintro⟨w,i⟩ hp ls hls;have hp:=List.mem_zipIdx_iff_getElem?.mp hp;obtain⟨hi,ew⟩:=List.getElem?_eq_some_iff.mp hp;refine⟨[some (.mu i)],by rcases hls with rfl|⟨_,x,rfl⟩<;>rfl,⟨_,rfl⟩,CY ⟨rfl,?_⟩⟩;rw[if_pos rfl];refine⟨_,rfl,Az (A1 (A5 rfl (A7 (CC (ds:=wl w) (by rw[if_pos rfl,Md,NB,<- ez,atj ws' i hi];simp only at ew;rw[ew]) rfl ⟨rfl,rfl⟩))))⟩
   rw[List.filterMap_eq_map',show(ws'.zipIdx.map λp:Wk×Nat=>D.im (Al p.1))=wkD ws' by
    rw[show(λp:Wk×Nat=>D.im (Al p.1))=(λw=>D.im (Al w)) ∘ Prod.fst from rfl,<- map_map,List.zipIdx_map_fst]]
   refine⟨.im (AW ws'),by show some (AK _)=_;rw[<- GL,CF],A9 ?_⟩;change WS _ [some (.im (AW ws)),some (.im (.int (j:Int))),some (.im (.int n)),some (.im (.int (k:Int))),some (.mu ws.length),some (.im (AW ws')),none] _ _;generalize ws'.map (λw=>MO.lst (wl w))++[MO.lst (ws'.zipIdx.map λp:Wk×Nat=>D.mu p.2)]=X;have fin:WS (AO (B1 (mOp gEq (mCB Av (A0 (A4 6) A6)) (mCB Av (A0 (A4 5) A6))) (B1 (HZ false true (AJ C4 (A0 (A4 6) A6))) (AE 0 Bq (A0 (A4 6) A6))))) [some (.im (AW ws)),some (.im (.int (j:Int))),some (.im (.int n)),some (.im (.int (k:Int))),some (.mu ws.length),some (.im (AW ws')),some (.im (AW ws'))] X λf x=>∃d',f=.rt d'/\d'=.im (.bl true):=by
    have rr:=N0 (ws:=ws') (by omega) ok';refine AF (B5 (AG (AA (Az (A1 (A5 rfl (A7 (Hm ⟨_,rfl⟩ rr (Az (A1 (A5 rfl (A7 (Hm ⟨_,rfl⟩ rr (G7 ⟨_,rfl,?_⟩))))))))))))));rw[if_pos (by simp)];have th:Th (ofI (AW ws')):=Hq (Bo.mono (Hh (by omega) ok') (by decide) (by decide) (by decide) (by decide));refine B5 (AG (UR (AX (A1 (A5 rfl (A7 ((JQ (le_refl _) (AV (AW ws')) th).mono ?_)))))));rintro d x ⟨rfl,g,rfl⟩;rw[Ot (by omega) ok'];refine⟨_,rfl,_,rfl,?_⟩;rw[if_pos (by simp)];refine C5 (A1 (A5 rfl (A7 ⟨by simp,(Nf (by omega) (by omega) ok').mono ?_⟩)));rintro d x rfl;exact⟨_,rfl,_,rfl,rfl⟩
   refine AB (Ac (MK (AG (AA (A5 rfl (A8 (FE ⟨_,rfl,?_⟩)))))));rcases hk with rfl|rfl
   .rw[if_pos (by simp)];refine C5 (A1 (A5 rfl (A1 (A5 rfl (A1 (A5 rfl (A7 ⟨by simp,(Je hj h8 n).mono ?_⟩)))))));rintro d x rfl;refine⟨_,rfl,A9 ?_⟩;rw[show ws.set j ⟨n,ws[j].com,ws[j].cost⟩=ws' from eS];exact WP.mono fin (by rintro f x ⟨d',rfl,h⟩;exact h)
   .rw[if_neg (by simp)];refine C5 (A1 (A5 rfl (A1 (A5 rfl (A1 (A5 rfl (A7 ⟨by simp,(Jf hj h8 n).mono ?_⟩)))))));rintro d x rfl;refine⟨_,rfl,A9 ?_⟩;rw[show ws.set j ⟨ws[j].len,n,ws[j].cost⟩=ws' from eS];exact WP.mono fin (by rintro f x ⟨d',rfl,h⟩;exact h)
def RV{m w dp l:Nat}{ts:List Tv}(h:Bo m w dp l (.tup ts)):Bo m w dp l (.lst ts):=by
 obtain⟨h1,h2,h3,h4,h5⟩:=h.tup;exact Ia h1 h2 h3 h4 h5
def UE{m w dp l:Nat}{ts:List Tv}(h:Bo m w dp l (.tup ts))(n:Nat):Bo m w dp l (.tup (ts.take n)):=by
 obtain⟨h1,h2,h3,h4,h5⟩:=h.tup;have s:=CW ts n;have hl:(ts.take n).length<=ts.length:=by rw[length_take];omega
 have hd:B0 (ts.take n)<=B0 ts:=EQ λu hu=>Dl (mem_of_mem_take hu);exact Dz (λt ht=>h1 t (mem_of_mem_take ht)) (by omega) (by omega) (by omega) (by omega)
def OE(n:Nat)(is:List I):Ao (is.take n)=(Ao is).take n:=by rw[Be,Be,map_take]
def Od:Bz 820 3 (ofI (.int (10^60))):=FV (by decide +kernel) (by decide +kernel)
def Qa{is:List I}(h:∀i∈is,Bz 820 3 (ofI i))(hl:is.length<=4):Bz 3281 4 (ofI (.tup is)):=E9 h hl (by decide)
def Lw{N:Nat}{X:Hd}{f:D->D}{F:Tv->Tv}(hf:∀t d,Is N X t d->Is N X (F t) (f d)):∀{ts:List Tv} {ds:List D},Iss N X ts ds->Iss N X (ts.map F) (ds.map f)
 |[],ds,h=>by simp only[Iss]at h;subst h;exact .nil
 |t::ts,ds,h=>by
  simp only[Iss]at h;obtain⟨d,r,rfl,h1,h2⟩:=h;exact .cons (hf t d h1) (Lw hf h2)
def Z2{x y:I}(hx:Bz 820 3 (ofI x))(hy:Bz 820 3 (ofI y)):Bz 3281 4 (ofI (.tup [x,y])):=Qa (λi hi=>by
 simp only[mem_cons,not_mem_nil,or_false]at hi;rcases hi with rfl|rfl<;>assumption) (by simp)
def EA{x y z:I}(hx:Bz 820 3 (ofI x))(hy:Bz 820 3 (ofI y))(hz:Bz 820 3 (ofI z)):Bz 3281 4 (ofI (.tup [x,y,z])):=Qa (λi hi=>by
 simp only[mem_cons,not_mem_nil,or_false]at hi;rcases hi with rfl|rfl|rfl<;>assumption) (by simp)
def Z1{x y z w:I}(hx:Bz 820 3 (ofI x))(hy:Bz 820 3 (ofI y))(hz:Bz 820 3 (ofI z))(hw:Bz 820 3 (ofI w)):Bz 3281 4 (ofI (.tup [x,y,z,w])):=Qa (λi hi=>by
 simp only[mem_cons,not_mem_nil,or_false]at hi;rcases hi with rfl|rfl|rfl|rfl<;>assumption) (by simp)
def NQ{i:Int}(h:sm i):Bz 820 3 (ofI (.int i)):=(Bn h).mono (by decide) (by decide)
def XR{b:Bool}:Bz 820 3 (ofI (.bl b)):=NR (by decide)
def bz_n:Bz 820 3 (ofI .non):=Of (by decide)
def YZ{n:MG}{ta:MT}{ma:ME}{g:Gd}{QA:List D->Hd->Prop}(f:D->Option D)(L:D->Ls->Prop)(l0:Ls){ds:List D}{hd:Hd}(hg:GOk hd g)
 (k:∀x∈ds,∀ls,ls=l0∨(∃d,L d ls)->∃ls1,n x ls hd=some ls1/\L x ls1/\WT ta ls1 hd λc y=>y=hd/\if c=true then ∃z,f x=some z/\WE ma ls1 hd λe y=>y=hd/\e=z else f x=none)
 (q:QA (ds.filterMap f) hd):WP (B6 n ta ma g ds l0 hd) QA:=by
 have:=Ct (n:=n) (ta:=ta) (ma:=ma) (λd:D=>d) f L l0 (xs:=ds) hg k q
 rwa [List.map_id']at this
def QU(c:Cost):∃cs,BW c=.tup cs:=by cases c<;>exact⟨_,rfl⟩
def PN(g:Hd)(d:D)(x:Hd):Prop:=∃p a b g' ts ds,d=.mu p/\2<=p/\x=a::b::(g++g')/\T 0 a b/\x[p]?=some (.lst ds)/\Iss x.length x ts ds/\ts.length<=60/\∀t∈ts,Bo (10^60) 40000 7 30 t
abbrev a0(l c:Int)(k:I):List I:=[.tup [.int 0,.int c,k],.tup [.int (0-l),.int c,k],.tup [.bl true,.int c,k],.tup [.int l,.int (-1),k],k,.non]
abbrev a1(l c:Int)(k:I):List I:=[.tup [.int l,.bl false,k],.tup [.int l,.non,k],.tup [.str (Str.ofString (toString l)),.int c,k]]
abbrev a3(l c:Int)(cs:List I):List I:=[.tup [.int l,.int c,.tup (cs.take 1)],.tup [.int l,.int c,.tup [.str "tardy",.int 3,.int (-1)]],.tup [.int (10^60),.int (10^60),.tup cs],.tup [.int l,.int c,.tup []]]
set_option maxHeartbeats 4000000 in
def Wi{ws:List Wk}(h1:1<=ws.length)(h8:ws.length<=8)(ok:∀w∈ws,w.ok){a b:MO}{g:Hd}(hT:T 0 a b):WF GZ [.mu 1,.im (AW ws)] (a::b::g) (PN g):=by
 unfold GZ;refine BH rfl ?_;have hv:=BK ws;have hlw:(wkD ws).length=ws.length:=by simp[wkD]
 refine AB (Ac (C3 (A1 (A5 rfl (A1 (Az (A1 (A5 rfl (A7 (CC (ds:=wkD ws) (by rw[if_pos rfl];exact Ap hv) rfl (A7 ⟨a,b,g,((wkD ws).length:Int),rfl,rfl,hT,by omega,by omega,λr2 a b hT p2 q2=>A9 ?_⟩)))))))))));obtain⟨j,rfl⟩:∃j:Nat,r2=(j:Int):=⟨r2.toNat,by omega⟩
 have hj:j<ws.length:=by omega
 have hjD:j<(wkD ws).length:=by omega
 have okj:=ok _ (List.getElem_mem hj);refine AB (NX (AA (A5 rfl (A5 rfl (Ab (Ap hv) (Aj rfl (Gb hj)) ⟨_,rfl,A9 ?_⟩)))));obtain⟨cs,hcs⟩:=QU ws[j].cost;have bc:=M5 okj.co;rw[hcs];rw[hcs]at bc;have l1:=okj.l1;have l2:=okj.l2;have c1:=okj.c1;have c2:=okj.c2;generalize ws[j].len=l at *;generalize ws[j].com=c at *;clear hcs okj;have bc':Bo (10^60) 820 3 30 (.tup (Ao cs)):=by have:=bc;rw[ofI]at this;exact this
 generalize eH:a::b::g=h;have h2:2<=h.length:=by rw[<- eH];simp
 refine AB (Ac (Ah (B9 (A1 (AN (A1 (A8 (A1 (A5 rfl (A1 (A5 rfl (A7 ⟨Ay,?_⟩))))))))))));refine A1 (AN (A1 (AA (A8 (A5 rfl (Hk (A1 (A5 rfl (A1 (A5 rfl (A7 ⟨Ay,?_⟩)))))))))));refine A1 (AN (A1 (A8 (A1 (A5 rfl (A1 (A5 rfl (A7 ⟨Ay,?_⟩))))))));refine A1 (AN (A1 (A5 rfl (A1 (Cr (A8 ⟨_,rfl,A1 (A5 rfl (A7 ⟨Ay,?_⟩))⟩))))));refine A1 (A5 rfl (A1 (A8 (A7 ⟨AM (by simp),A9 ?_⟩))));change WS _ [some (.mu 1),some (.im (AW ws)),some (.im (.int (j:Int))),some (.im (.int l)),some (.im (.int c)),some (.im (.tup cs)),some (.mu h.length),none] (h++[.lst ((a0 l c (.tup cs)).map D.im)]) _;have lg:l.natAbs.log2<1920:=KH (by omega);refine AB (Ac (Ah (Cu (A5 rfl (Ah (B9 (A1 (AN (A1 (A5 rfl (A1 (A8 (A1 (A5 rfl (A7 ⟨Ay,?_⟩)))))))))))))));refine A1 (AN (A1 (A5 rfl (A1 (A8 (A1 (A5 rfl (A7 ⟨Ay,?_⟩))))))));refine A1 (AN (A1 (Az (A1 (A5 rfl (A7 (LV lg (A1 (A5 rfl (A1 (A5 rfl (A7 ⟨Ay,A7 ⟨AM (by simp),?_⟩⟩))))))))))));refine⟨h.length,h.length+1,(a0 l c (.tup cs)).map D.im,(a1 l c (.tup cs)).map D.im,rfl,by simp,by simp,by simp,AM (by simp),A9 ?_⟩;generalize eH1:h++[MO.lst ((a0 l c (.tup cs)).map D.im)]++[MO.lst _]=H;have eg:∃g1,H=a::b::(g++g1):=⟨_,by rw[<- eH1,<- eH,append_assoc];rfl⟩
 have hH:2<=H.length:=by rw[<- eH1];simp
 clear eH1 eH h2;generalize eA:(a0 l c (.tup cs)).map D.im++(a1 l c (.tup cs)).map D.im=A;change WS _ [some (.mu 1),some (.im (AW ws)),some (.im (.int (j:Int))),some (.im (.int l)),some (.im (.int c)),some (.im (.tup cs)),some (.mu H.length),none] _ _;refine AB (Ic (MJ (A5 rfl ⟨⟨A,by simp[B7]⟩,A1 (AN (A1 (A5 rfl (A1 (A5 rfl (A1 (Ah (Gc (A5 rfl ⟨cs.map D.im,rfl,A7 ⟨Ay,A7 (K7 (ds:=A) (by simp) (Ej (by rw[<- eA];simp)) (A9 ?_))⟩⟩)))))))))⟩)));rw[show(H++[MO.lst A]).length=H.length+1 by simp];generalize eM:AK [D.im (.int l),D.im (.int c),D.mu (H.length+1)]=M1;rw[show(H++[MO.lst A]++[MO.lst (cs.map D.im)]).set H.length (.lst (A++[M1]))=H++[.lst (A++[M1]),.lst (cs.map D.im)] by simp];refine AB (Ac (Ah (Cu (A5 rfl (Ah (B9 (A1 (AN (A1 (A5 rfl (A1 (A5 rfl (A7 ⟨Cz,?_⟩)))))))))))));refine A1 (AN (A1 (A5 rfl (A1 (A5 rfl (A1 (A5 rfl (A1 (A8 (A7 ⟨X0,?_⟩))))))))));refine A1 (Ah (B9 (A1 (A5 rfl (A1 (A5 rfl (A1 (A5 rfl (A7 ⟨Ay,?_⟩)))))))));refine A1 (AN (A1 (A5 rfl (A1 (A5 rfl (A1 (A5 rfl (A7 ⟨Ay,A7 ⟨AM (by simp),?_⟩⟩))))))));rw[show(H++[MO.lst (A++[M1]),MO.lst (cs.map D.im)]).length=H.length+2 by simp];generalize eB:[AK [D.im (.int l),D.im (.int c)],_,D.mu (H.length+2),_]=B2;rw[show H++[MO.lst (A++[M1]),MO.lst (cs.map D.im)]++[MO.lst [D.im (.int l),D.im (.int c),D.im (.tup cs)]]++[MO.lst B2]=H++[.lst (A++[M1]),.lst (cs.map D.im),.lst [D.im (.int l),D.im (.int c),D.im (.tup cs)],.lst B2] by simp];refine⟨H.length,H.length+3,A++[M1],B2,rfl,by simp,by simp,by simp,AM (by rw[<- eA,<- eB];simp),A9 ?_⟩;have bl:=(Bn (i:=l) ⟨by omega,by omega⟩).mono (show 40<=820 by decide) (show 0<=3 by decide);have bcm:=(Bn (i:=c) ⟨by omega,by omega⟩).mono (show 40<=820 by decide) (show 0<=3 by decide);have tsH:∃ts,(∀X N,(∃r,X=H++[.lst (A++[M1]),.lst (cs.map D.im),.lst [D.im (.int l),D.im (.int c),D.im (.tup cs)],.lst B2]++r)->N=H.length+4->Iss N X ts ((A++[M1])++B2))/\ts.length=14/\∀t∈ts,Bz 3281 4 t:=by
  refine⟨((a0 l c (.tup cs)).map ofI++(a1 l c (.tup cs)).map ofI)++[.tup [.int l,.int c,.lst (Ao cs)]]++[ofI (.tup [.int l,.int c]),ofI (.tup [.int l,.int c,.tup cs,.int 0]),.lst [.int l,.int c,ofI (.tup cs)],ofI (.tup [.int c,.int l,.tup cs])],?_,rfl,?_⟩
  .rintro X N ⟨r,rfl⟩ rfl;subst eA;subst eM;subst eB;refine Iss.app (Iss.app ?_ ?_) ?_
   .rw[<- List.map_append,<- List.map_append,<- Be];exact Ei _
   .refine .one (Iss.tup (.cons (AV (.int l)) (.cons (AV (.int c)) (.one ?_))));simp only[Is];exact⟨H.length+1,_,rfl,by omega,by omega,by simp,Ei cs⟩
   .refine .cons (AV (.tup [.int l,.int c])) (.cons (AV (.tup [.int l,.int c,.tup cs,.int 0])) (.cons ?_ (.one (AV (.tup [.int c,.int l,.tup cs])))));simp only[Is];exact⟨H.length+2,_,rfl,by omega,by omega,by simp,.cons (AV (.int l)) (.cons (AV (.int c)) (.one (AV (.tup cs))))⟩
  .have bs:Bz 820 3 (ofI (.str (Str.ofString (toString l)))):=by
    refine Dc (MB _) ?_;have:=Lr (i:=l) (by omega);omega
   have bk:Bz 820 3 (.lst (Ao cs)):=RV bc';intro t ht;simp only[mem_append,map_cons,map_nil,mem_cons,not_mem_nil,or_false]at ht;rcases ht with(((rfl|rfl|rfl|rfl|rfl|rfl)|(rfl|rfl|rfl))|rfl)|(rfl|rfl|rfl|rfl)
   .exact EA (NQ ⟨by omega,by omega⟩) bcm bc
   .exact EA (NQ ⟨by omega,by omega⟩) bcm bc
   .exact EA XR bcm bc
   .exact EA bl (NQ ⟨by omega,by omega⟩) bc
   .exact bc.mono (by decide) (by decide)
   .exact bz_n.mono (by decide) (by decide)
   .exact EA bl XR bc
   .exact EA bl bz_n bc
   .exact EA bs bcm bc
   .refine(IX (w:=820) (dp:=3) (k:=4) (λu hu=>?_) (by simp) (by decide)).1;simp only[mem_cons,not_mem_nil,or_false]at hu;rcases hu with rfl|rfl|rfl
    .exact bl
    .exact bcm
    .exact bk
   .exact Z2 bl bcm
   .exact Z1 bl bcm bc (NQ ⟨by omega,by omega⟩)
   .refine(IX (w:=820) (dp:=3) (k:=4) (λu hu=>?_) (by simp) (by decide)).2;simp only[mem_cons,not_mem_nil,or_false]at hu;rcases hu with rfl|rfl|rfl
    .exact bl
    .exact bcm
    .exact bc
   .exact EA bcm bl bc
 obtain⟨ts,hts,lts,bts⟩:=tsH;have lA2:((A++[M1])++B2).length=14:=by rw[<- eA,<- eB];rfl
 generalize (A++[M1])++B2=A2 at hts lA2;generalize eK:H++[MO.lst (A++[M1]),.lst (cs.map D.im),.lst [D.im (.int l),D.im (.int c),D.im (.tup cs)],.lst B2]=K at hts;have hK:K.length=H.length+4:=by rw[<- eK];simp
 have iK:∀r,Iss K.length (K++r) ts A2:=λr=>hts _ _ ⟨r,rfl⟩ hK;have eg:∃g1,K=a::b::(g++g1):=by
  obtain⟨g1,e⟩:=eg;exact⟨_,by rw[<- eK,e,cons_append,cons_append,append_assoc]⟩
 have hK2:2<=K.length:=by omega
 clear hts hK eK eB eM eA hH;change WS _ [some (.mu 1),some (.im (AW ws)),some (.im (.int (j:Int))),some (.im (.int l)),some (.im (.int c)),some (.im (.tup cs)),some (.mu K.length),none] _ _;refine AB (Ac (Ah (Cu (A5 rfl (Ah (B9 (A1 (AN (A1 (A5 rfl (A1 (A5 rfl (A1 (ET (A5 rfl (D7 (Bc (A8 ⟨_,rfl,cs.map D.im,rfl,A7 ⟨Ay,?_⟩⟩))))))))))))))))));rw[show((1:Int))=((1:Nat):Int)from rfl,FR,<- map_take,CF];refine A1 (AN (A1 (A5 rfl (A1 (A5 rfl (A1 (AN (A1 (A8 (A1 (A8 (A1 (Cr (A8 ⟨_,rfl,A7 ⟨Ay,A7 ⟨Ay,?_⟩⟩⟩))))))))))))));refine A1 (AN (A1 (AA (A8 (A8 (Ie (k:=60) (by decide) (A1 (AA (A8 (A8 (Ie (k:=60) (by decide) (A1 (A5 rfl (A7 ⟨Ay,A7 ⟨AM (by simp),?_⟩⟩))))))))))))));generalize eB:[AK [D.im (.int l),D.im (.int c),D.im (.tup (cs.take 1))],_,_]=B3;refine⟨K.length,K.length+1,A2,B3,rfl,by simp,by simp,by simp,AM (by rw[lA2,<- eB];simp),A9 ?_⟩;rw[show(K++[MO.lst A2]++[MO.lst B3]).length=K.length+2 by simp];change WS _ [some (.mu 1),some (.im (AW ws)),some (.im (.int (j:Int))),some (.im (.int l)),some (.im (.int c)),some (.im (.tup cs)),some (.mu (K.length+2)),none] _ _;refine AB (Ic (MJ (A5 rfl ⟨⟨A2++B3,by simp[B7]⟩,A1 (AN (A1 (A5 rfl (A1 (A5 rfl (A1 (AN (A7 ⟨D0,A7 ⟨Ay,A7 (K7 (ds:=A2++B3) (by simp) (Ej (by rw[length_append,lA2,<- eB];simp)) (A9 ?_))⟩⟩))))))))⟩)));rw[show(K++[MO.lst A2]++[MO.lst B3]++[MO.lst (A2++B3)]).set (K.length+2) (.lst (A2++B3++[AK [D.im (.int l),D.im (.int c),AK []]]))=(K++[MO.lst A2]++[MO.lst B3])++[.lst (A2++B3++[AK [D.im (.int l),D.im (.int c),AK []]])] by simp];have e4:B3++[AK [D.im (.int l),D.im (.int c),AK []]]=(a3 l c cs).map D.im:=by rw[<- eB];rfl
 rw[append_assoc A2,e4];have l3:(A2++(a3 l c cs).map D.im).length=18:=by rw[length_append,lA2];rfl
 have bA:∀t∈ts++(a3 l c cs).map ofI,Bz 3281 4 t:=λt ht=>by
  rcases mem_append.mp ht with ht|ht
  .exact bts t ht
  .simp only[map_cons,map_nil,mem_cons,not_mem_nil,or_false]at ht;rcases ht with rfl|rfl|rfl|rfl
   .refine EA bl bcm ?_;rw[ofI,OE];exact UE bc' 1
   .refine EA bl bcm ((E9 (w:=40) (dp:=0) (k:=3) (λi hi=>?_) (by simp) (by decide)).mono (by decide) (by decide));simp only[mem_cons,not_mem_nil,or_false]at hi;rcases hi with rfl|rfl|rfl
    .exact ER (by simp)
    .exact Bn ⟨by omega,by omega⟩
    .exact Bn ⟨by omega,by omega⟩
   .exact EA Od Od bc
   .exact EA bl bcm ((E9 (w:=0) (dp:=0) (k:=0) (λi hi=>by simp at hi) (by simp) (by decide)).mono (by decide) (by decide))
 have iA:∀r,Iss K.length (K++r) (ts++(a3 l c cs).map ofI) (A2++(a3 l c cs).map D.im):=λr=>(iK r).app (by rw[<- Be];exact Ei _);have lT:(ts++(a3 l c cs).map ofI).length=18:=by rw[length_append,lts];rfl
 generalize A2++(a3 l c cs).map D.im=A3 at iA l3;generalize ts++(a3 l c cs).map ofI=T3 at iA bA lT;clear eB e4 bts iK lts lA2;rw[show K++[MO.lst A2]++[MO.lst B3]++[MO.lst A3]=K++[.lst A2,.lst B3,.lst A3] by simp];have G:GOk (K++[.lst A2,.lst B3,.lst A3]) [(K.length+2,A3)]:=λp hp=>by
  rw[mem_singleton]at hp;subst hp;simp
 have t1:((wkD ws).take j).length<=8:=by rw[length_take];omega
 have t2:((wkD ws).drop (j+1)).length<=8:=by rw[length_drop];omega
 refine AB (Ac (Ah (Cu (Ah (BY (K9 (A5 rfl ⟨K.length+2,A3,rfl,by simp,AM (by dsimp only;omega),?_⟩)))))));refine YZ (λd=>some (AK ((wkD ws).take j++[d]++(wkD ws).drop (j+1)))) (λ_ ls=>∃x,ls=[some x,some (.im (AW ws)),some (.im (.int (j:Int)))]) _ G ?_ ?_
 .rintro d hd ls hls;refine⟨[some d,some (.im (AW ws)),some (.im (.int (j:Int)))],by rcases hls with rfl|⟨_,x,rfl⟩<;>rfl,⟨_,rfl⟩,CY ⟨rfl,?_⟩⟩;rw[if_pos rfl];exact⟨_,rfl,AA (AA (Qj (j:=2) rfl hv rfl hjD (AN (A1 (A5 rfl (A7 ⟨BG,DJ (AD _) (AD _) (by simp only[length_singleton];omega) (Ni (j:=2) rfl hv rfl hjD (CO (AD _) (AD _) (by simp) (by simp only[length_append,length_singleton];omega) ⟨rfl,rfl⟩))⟩))))))⟩
 rw[List.filterMap_eq_map'];generalize eF:A3.map ((λd=>AK ((wkD ws).take j++[d]++(wkD ws).drop (j+1))))=F0;have lF:F0.length=18:=by rw[<- eF];simpa using l3
 rw[show(K++[MO.lst A2,MO.lst B3,MO.lst A3]).length=K.length+3 by simp,show K++[MO.lst A2,MO.lst B3,MO.lst A3]++[MO.lst F0]=K++[.lst A2,.lst B3,.lst A3,.lst F0] by simp];have hne:wkD ws≠[]:=by intro q;have:=congrArg List.length q;rw[length_nil]at this;omega
 refine Ah (B9 (A1 (Ah (Gc (A5 rfl ⟨wkD ws,Ap hv,?_⟩)))));refine A1 (AA (A5 rfl (AN (A1 (AN (A7 ⟨D0,A7 ⟨BG,CO hv (AD _) hne (by simp only[length_singleton];omega) ?_⟩⟩))))));refine A1 (AA (A5 rfl (AN (A1 (A5 rfl (A7 ⟨BG,CO hv (AD _) hne (by simp only[length_singleton];omega) (A7 ⟨AM (by simp),?_⟩)⟩))))));rw[show(K++[MO.lst A2,MO.lst B3,MO.lst A3,MO.lst F0]).length=K.length+4 by simp];generalize eB:[D.mu (K.length+4),_,_]=B4;have lB:B4.length=3:=by rw[<- eB];rfl
 rw[show K++[MO.lst A2,MO.lst B3,MO.lst A3,MO.lst F0]++[MO.lst (wkD ws)]++[MO.lst B4]=K++[.lst A2,.lst B3,.lst A3,.lst F0,.lst (wkD ws),.lst B4] by simp];refine⟨K.length+3,K.length+5,F0,B4,rfl,by simp,by simp,by simp,AM (by omega),A9 ?_⟩;rw[show(K++[MO.lst A2,MO.lst B3,MO.lst A3,MO.lst F0,MO.lst (wkD ws),MO.lst B4]).length=K.length+6 by simp];rw[show K++[MO.lst A2,MO.lst B3,MO.lst A3,MO.lst F0,MO.lst (wkD ws),MO.lst B4]++[MO.lst (F0++B4)]=K++[.lst A2,.lst B3,.lst A3,.lst F0,.lst (wkD ws),.lst B4,.lst (F0++B4)] by simp];refine AF (Ah (Cu (A5 rfl (A5 rfl ⟨K.length+6,K.length+2,F0++B4,A3,rfl,rfl,by simp,by simp,AM (by rw[length_append];omega),?_⟩))));obtain⟨g1,eK⟩:=eg;have iw:∀N X,Iss N X (Ao (ws.map Al)) (wkD ws):=λN X=>by rw[<- GL];exact Ei _
 have bw:Bo (10^60) 19689 5 30 (.tup (Ao (ws.map Al))):=by have:=Hh h8 ok;rw[ofI]at this;exact this
 have bwe:∀t∈Ao (ws.map Al),Bz 3281 4 t:=λt ht=>by
  rw[Be]at ht;obtain⟨i,hi,rfl⟩:=mem_map.mp ht;obtain⟨w,hw,rfl⟩:=mem_map.mp hi;exact(JA (ok w hw)).mono (by decide) (by decide)
 have lw:(Ao (ws.map Al)).length=ws.length:=by rw[Be];simp
 generalize Ao (ws.map Al)=W at iw bw bwe lw;refine⟨_,a,b,g1++[.lst A2,.lst B3,.lst A3,.lst F0,.lst (wkD ws),.lst B4,.lst (F0++B4),.lst (F0++B4++A3)],((T3.map λt=>.tup (W.take j++[t]++W.drop (j+1)))++[.lst W,.tup (W++[.tup []]),.tup (W++[.tup W])])++T3,F0++B4++A3,rfl,by rw[length_append];omega,by rw[eK];simp,hT,by simp,?_,by simp[lT],λt ht=>?_⟩
 .rw[append_assoc K];generalize eX:[MO.lst A2,.lst B3,.lst A3,.lst F0,.lst (wkD ws),.lst B4,.lst (F0++B4)]++[MO.lst (F0++B4++A3)]=r;have kl:K.length<=(K++r).length:=by simp
  refine Iss.app (Iss.app ?_ ?_) (EW kl (iA r))
  .rw[<- eF];exact Lw (λt d hi=>(((iw _ _).take j).app (.one hi) |>.app ((iw _ _).drop (j+1))).tup) (EW kl (iA r))
  .rw[<- eB];refine .cons ?_ (.cons ((iw _ _).app (.one (Iss.nil.tup))).tup (.one ((iw _ _).app (.one ?_)).tup))
   .simp only[Is];exact⟨K.length+4,wkD ws,rfl,by omega,by rw[<- eX];simp,by rw[<- eX];simp,iw _ _⟩
   .have:=(iw (K++r).length (K++r)).tup;rw[show AK (wkD ws)=.im (AW ws) by rw[<- GL,CF]]at this;exact this
 .rcases mem_append.mp ht with ht|ht
  .rcases mem_append.mp ht with ht|ht
   .obtain⟨u,hu,rfl⟩:=mem_map.mp ht;have w1:(W.take j).length<=j:=by rw[length_take];omega
    have w2:(W.drop (j+1)).length=ws.length-(j+1):=by rw[length_drop,lw]
    refine Bo.mono (IX (w:=3281) (dp:=4) (k:=8) (λv hv=>?_) (by rw[length_append,length_append,length_singleton];omega) (by decide)).1 (by decide) (by decide) (by decide) (by decide);rcases mem_append.mp hv with hv|hv
    .rcases mem_append.mp hv with hv|hv
     .exact bwe v (mem_of_mem_take hv)
     .rw[mem_singleton]at hv;subst hv;exact bA _ hu
    .exact bwe v (List.mem_of_mem_drop hv)
   .obtain⟨b1,b2,b3,b4,b5⟩:=bw.tup;simp only[mem_cons,not_mem_nil,or_false]at ht;rcases ht with rfl|rfl|rfl
    .exact Bo.mono (RV bw) (by decide) (by decide) (by decide) (by decide)
    .refine Dz (λt ht=>?_) ?_ ?_ (by rw[length_append,length_singleton];omega) (by rw[length_append,length_singleton];omega)
     .rcases mem_append.mp ht with ht|ht
      .exact b1 t ht
      .rw[mem_singleton]at ht;subst ht;simp only[Gq,Gqs];decide
     .rw[Bw];simp only[wts,An.wt];omega
     .rw[Ep];simp only[B0,dep];omega
    .refine Dz (λt ht=>?_) ?_ ?_ (by rw[length_append,length_singleton];omega) (by rw[length_append,length_singleton];omega)
     .rcases mem_append.mp ht with ht|ht
      .exact b1 t ht
      .rw[mem_singleton]at ht;subst ht;exact bw.gd
     .rw[Bw];simp only[wts,An.wt];omega
     .rw[Ep];simp only[B0,dep];omega
  .exact Bo.mono (bA t ht) (by decide) (by decide) (by decide) (by decide)
def Lk{d:D}{hd:Hd}(h:∀i,d=.im i->∃is,i=.tup is):Av [d] hd=Em [d] hd:=by
 cases d with
 |im i=>obtain⟨is,rfl⟩:=h i rfl;rfl
 |_=>rfl
def rT:Tv->Str
 |.non=>"None"
 |.bl b=>if b then "True" else "False"
 |.int i=>toString i
 |.str x=>reprText x
 |t=>(pyT t).shown
def Qe{N:Nat}{hd:Hd}{t:Tv}{d:D}{QE:D->Hd->Prop}(hi:Is N hd t d)(h:Th t)(q:QE (.im (.str (rT t))) hd):WP (Av [d] hd) QE:=by
 cases t with
 |non=>simp only[Is]at hi;subst hi;exact K4 q
 |bl b=>simp only[Is]at hi;subst hi;exact⟨_,_,rfl,q⟩
 |int i=>
  simp only[Is]at hi;subst hi;refine G6 ?_ q;have:=h.ok.sh;simp only[pyT,PyData.showable]at this;exact of_decide_eq_true this
 |str x=>
  simp only[Is]at hi;subst hi;have hs:(reprText x).length<=sizeLine:=by
   have:=PyData.shown_le 90 (by decide) (pyT (.str x)) (PyData.leavesShort_of_canLay0 90 _ h.ok.lay h.ok.it);have hw:=h.ok.wt;rw[sizeLine_eq];simp only[pyT,PyData.shown]at this hw;omega
  exact⟨_,_,if_pos hs,q⟩
 |tup ts=>
  have e:Av [d] hd=Em [d] hd:=Lk λi ei=>by
   subst ei;simp only[Is]at hi;obtain⟨ds,e,_⟩:=hi;unfold AK at e;cases z:BP ds with
   |none=>rw[z]at e;cases e
   |some is=>rw[z]at e;cases e;exact⟨_,rfl⟩
  rw[e];exact HD (hi.pyN (by have:=h.dp;omega)) (h.ok.repr rfl (by omega) (by omega)) q
 |lst ts=>
  have e:Av [d] hd=Em [d] hd:=Lk λi ei=>by
   subst ei;simp only[Is]at hi;obtain⟨k,ds,e,_⟩:=hi;cases e
  rw[e];exact HD (hi.pyN (by have:=h.dp;omega)) (h.ok.repr rfl (by omega) (by omega)) q
def rb(a b:Bool):Ee (.list (I.pys [.bl a,.bl b])):=by
 have:=(show Gq (10^60) (.lst [.bl a,.bl b]) by simp only[Gq,Gqs,length_cons,length_nil];exact⟨by omega,trivial,trivial,trivial⟩).ok (by decide);exact this.repr rfl (by simp only[dep,B0];decide) (by simp only[An.wt,wts];decide)
def Wu(a b:Bool):DX [.im (.bl a),.im (.bl b)]=some (.im (.str (PyData.list (I.pys [.bl a,.bl b])).shown)):=by
 unfold DX;exact if_pos (rb a b)
def Rn{t:Tv}{d:D}{h:Hd}{q0 q1 q2 q3 q4 q5 q6 q7 q8 q9 q10 q12:Option D}(hi:Is h.length h t d)(th:Th t):
 WS (AC (AS 5 (mCB Av (A0 (A4 11) A6)))
 (AC (AS 12 (Bg DX (Aq (A0 (AJ CL (A0 (A4 11) A6)) (A0 (AJ CQ (A0 (A4 11) A6)) A6)))))
 (Ar (mOr (AI (mOp gNe (Bg DX (Aq (A0 (AJ Cg (A0 (A4 11) A6)) (A0 (AJ C4 (A0 (A4 11) A6)) A6)))) (A4 12))) (AI (mOp gNe (mCB Av (A0 (A4 11) A6)) (A4 5))))
  (AO (mC (.bl false)))
  Ae))) [q0,q1,q2,q3,q4,q5,q6,q7,q8,q9,q10,some d,q12] h λf x=>∃z5 z12 g,f=.nx [q0,q1,q2,q3,q4,z5,q6,q7,q8,q9,q10,some d,z12]/\x=h++g:=by
 refine AB (Ac (Az (A1 (A5 rfl (A7 (Qe hi th (A9 ?_)))))));refine AB (Ac (Cs (B9 (A1 (AX (A1 (A5 rfl (A7 ((JO (le_refl _) hi th.inn).mono ?_)))))))));rintro d' x ⟨rfl,g1,rfl⟩;have hi:Is (h++g1).length (h++g1) t d:=Ci (by simp) (Di (le_refl _) hi);refine A1 (AX (A1 (A5 rfl (A7 ((NS (le_refl _) hi th).mono ?_)))));rintro d' x ⟨rfl,g2,rfl⟩;have hi:Is (h++g1++g2).length (h++g1++g2) t d:=Ci (by simp) (Di (le_refl _) hi);refine A7 ⟨Cz,_,Wu _ _,A9 ?_⟩;refine AY (Bs (AG (AA (Cs (B9 (A1 (AX (A1 (A5 rfl (A7 ((Kq (le_refl _) hi th.inn).mono ?_)))))))))));rintro d' x ⟨rfl,g3,rfl⟩;have hi:Is (h++g1++g2++g3).length (h++g1++g2++g3) t d:=Ci (by simp) (Di (le_refl _) hi);refine A1 (AX (A1 (A5 rfl (A7 ((JQ (le_refl _) hi th).mono ?_)))));rintro d' x ⟨rfl,g4,rfl⟩;have hi:Is (h++g1++g2++g3++g4).length (h++g1++g2++g3++g4) t d:=Ci (by simp) (Di (le_refl _) hi);refine A7 ⟨Cz,_,Wu _ _,A5 rfl (Hn ⟨_,rfl,?_⟩)⟩;rw[if_neg (by simp)];refine AG (AA (Az (A1 (A5 rfl (A7 (Qe hi th (A5 rfl (Hn ⟨_,rfl,(λh=>by simp at h),λ_=>AU ?_⟩))))))));exact⟨_,_,g1++g2++g3++g4,rfl,by simp⟩
def Ih{ts:List Tv}(h:∀u∈ts,Bz 100 3 u)(hl:ts.length<=400):Th (.tup ts):=by
 have h1:=K3 (w:=100) λu hu=>(h u hu).wt;have h2:ts.length*100<=400*100:=Nat.mul_le_mul_right _ hl;have h3:=EQ (k:=3) λu hu=>(h u hu).dp;refine⟨?_,by simp only[dep];omega,by simp only[An.tl];omega,λus e u hu=>?_⟩
 .rw[pyT];exact(OkV.tup (Gqs.ok (m:=10^60) (by decide) (gds_iff.mpr λu hu=>(h u hu).gd))).mono (by omega) (by omega)
 .cases e;exact⟨(h u hu).gd.mono (by decide),by have:=(h u hu).dp;omega⟩
structure Kp(p n:Nat)(a b:MO)(g:Hd)(ts:List Tv)(ds:List D):Prop where
 p2:2<=p
 at':(a::b::g)[p]?=some (.lst ds)
 is:Iss (a::b::g).length (a::b::g) ts ds
 ln:ts.length<=n
 th:∀t∈ts,Th t
def Kp.keep{p n:Nat}{a b a' b':MO}{g g':Hd}{ts:List Tv}{ds:List D}(h:Kp p n a b g ts ds):Kp p n a' b' (g++g') ts ds:=by
 refine⟨h.p2,?_,EW (by simp) (keeps (le_refl _) h.is),h.ln,h.th⟩;have e:=h.at';have p2:=h.p2;obtain⟨q,rfl⟩:∃q,p=q+2:=⟨p-2,by omega⟩
 simp only[List.getElem?_cons_succ]at e ⊢;rw[List.getElem?_append_left (List.getElem?_eq_some_iff.mp e).1,e]
def Kp.lt{p n:Nat}{a b:MO}{g:Hd}{ts:List Tv}{ds:List D}(h:Kp p n a b g ts ds):ds.length<=n:=by rw[h.is.len];exact h.ln
def Mn{n j:Nat}{d:D}{r:List D}(h:d::r=BC (j:Int) (n-j)):j<n/\d=.im (.int (j:Int))/\r=BC ((j+1:Nat):Int) (n-(j+1)):=by
 cases q:n-j with
 |zero=>rw[q]at h;cases h
 |succ m=>
  rw[q,BC]at h;obtain⟨h1,h2⟩:=List.cons.inj h;have em:m=n-(j+1):=by omega
  exact⟨by omega,h1,by rw[h2,em];rfl⟩
inductive I_law(ns:List Int)(r:List D)(ls:Ls)(hd:Hd):Prop
 |mk (j p:Nat) (a b:MO) (g:Hd) (ts:List Tv) (ds:List D) (z3 z4 z5 z6 z7 z8 z9 z10 z11 z12:Option D) (h0:r=BC (j:Int) (3-j)) (hj:j<=3) (h1:ls=[some (.ro ns),some (.mu 1),some (.mu p),z3,z4,z5,z6,z7,z8,z9,z10,z11,z12]) (h2:hd=a::b::g) (h3:T 0 a b) (h4:Kp p (10+70*j) a b g ts ds):I_law ns r ls hd
def Xb{ws:List Wk}(h1:1<=ws.length)(h8:ws.length<=8)(ok:∀w∈ws,w.ok){a b:MO}{g:Hd}(hT:T 0 a b){q0 q2 q3 q6 q7 q8 q9 q10 q11 q12:Option D}:
 WS (Dk (E4 (A0 (mC (.int 2)) A6)) (Am 6)
  (AC (Ar (Bf (BE (AE 0 Bq (A0 (A4 4) A6))))
  (AO (mC (.bl false)))
  Ae)
 (AC (Ar (Bf (BE (AE 0 BS (A0 (A4 4) (A0 (AE 2 F_pick (A0 (A4 1) (A0 (mCB (f1 true BA) (A0 (A4 4) A6)) A6))) (A0 (mOp AQ (mC (.int 1)) (AE 2 F_pick (A0 (A4 1) (A0 (mC (.int 20)) A6)))) (A0 (mC (.int 0)) A6)))))))
  (AO (mC (.bl false)))
  Ae)
 (AC (Ar (Bf (BE (AE 0 BS (A0 (A4 4) (A0 (AE 2 F_pick (A0 (A4 1) (A0 (mCB (f1 true BA) (A0 (A4 4) A6)) A6))) (A0 (AE 2 F_pick (A0 (A4 1) (A0 (mC (.int 61)) A6))) (A0 (mC (.int 1)) A6)))))))
  (AO (mC (.bl false)))
  Ae)
 (Ar (AI (mOp gNe (mCB Av (A0 (A4 4) A6)) (A4 5)))
  (AO (mC (.bl false)))
  Ae))))) [q0,some (.mu 1),q2,q3,some (.im (AW ws)),some (.im (.str (AW ws).py.shown)),q6,q7,q8,q9,q10,q11,q12] (a::b::g) λf x=>∃z6 a' b',f=.nx [q0,some (.mu 1),q2,q3,some (.im (AW ws)),some (.im (.str (AW ws).py.shown)),z6,q7,q8,q9,q10,q11,q12]/\x=a'::b'::g/\T 0 a' b':=by
 have hlw:(wkD ws).length=ws.length:=by simp[wkD]
 refine G0 (MH (A1 (A8 (A7 ⟨_,rfl,FF (by decide) (by decide),?_⟩))));refine ES (λl ls hd=>∃z6 a b,ls=[q0,some (.mu 1),q2,q3,some (.im (AW ws)),some (.im (.str (AW ws).py.shown)),z6,q7,q8,q9,q10,q11,q12]/\hd=a::b::g/\T 0 a b) ⟨_,a,b,rfl,rfl,hT⟩ ?_ ?_
 .rintro d r ls hd ⟨z6,a,b,rfl,rfl,hT⟩;refine⟨_,rfl,?_⟩;dsimp only[set_cons_zero,set_cons_succ];refine AB (AY (BX (Af (C5 (A1 (A5 rfl (A7 ⟨by simp,(Nf h1 h8 ok).mono ?_⟩)))))));rintro d x rfl;refine⟨_,rfl,_,rfl,(λh=>by cases h),λ_=>AU (A9 ?_)⟩;refine AB (AY (BX (Af (C5 (A1 (A5 rfl (A1 (C3 (A1 (A5 rfl (A1 (Az (A1 (A5 rfl (A7 (CC (ds:=wkD ws) (by rw[if_pos rfl];exact Ap (BK ws)) rfl (A7 ⟨a,b,g,((wkD ws).length:Int),rfl,rfl,hT,by omega,by omega,λr1 a b hT p1 q1=>?_⟩)))))))))))))))));obtain⟨j1,rfl⟩:∃j:Nat,r1=(j:Int):=⟨r1.toNat,by omega⟩
  refine A1 (AA (A8 (C3 (A1 (A5 rfl (A1 (A8 (A7 ⟨a,b,g,20,rfl,rfl,hT,by decide,by decide,λr2 a b hT p2 q2=>DN (A1 (A8 (A7 ⟨by simp,(JV (j:=j1) (k:=0) (n:=1+r2) (by omega) h8 ok (.inl rfl) (λ_=>by omega) (λh=>by cases h)).mono ?_⟩)))⟩))))))));rintro d x rfl;refine⟨_,rfl,_,rfl,(λh=>by cases h),λ_=>AU (A9 ?_)⟩;refine AB (AY (BX (Af (C5 (A1 (A5 rfl (A1 (C3 (A1 (A5 rfl (A1 (Az (A1 (A5 rfl (A7 (CC (ds:=wkD ws) (by rw[if_pos rfl];exact Ap (BK ws)) rfl (A7 ⟨a,b,g,((wkD ws).length:Int),rfl,rfl,hT,by omega,by omega,λr3 a b hT p3 q3=>?_⟩)))))))))))))))));obtain⟨j3,rfl⟩:∃j:Nat,r3=(j:Int):=⟨r3.toNat,by omega⟩
  refine A1 (C3 (A1 (A5 rfl (A1 (A8 (A7 ⟨a,b,g,61,rfl,rfl,hT,by decide,by decide,λr4 a b hT p4 q4=>A1 (A8 (A7 ⟨by simp,(JV (j:=j3) (k:=1) (n:=r4) (by omega) h8 ok (.inr rfl) (λh=>by cases h) (λ_=>by omega)).mono ?_⟩))⟩))))));rintro d x rfl;refine⟨_,rfl,_,rfl,(λh=>by cases h),λ_=>AU (A9 ?_)⟩;refine AY (AG (AA (Az (A1 (A5 rfl (A7 (Hm ⟨_,rfl⟩ (N0 h8 ok) (A5 rfl (Hn ⟨_,rfl,(λh=>by simp at h),λ_=>AU ?_⟩)))))))));exact⟨B8 _,_,a,b,rfl,rfl,hT⟩
 .rintro ls hd ⟨z6,a,b,rfl,rfl,hT⟩;exact⟨_,a,b,rfl,rfl,hT⟩
def Kp.new{m:Nat}{a b:MO}{g:Hd}{us:List Tv}{es:List D}(h:Iss (a::b::g).length (a::b::g) us es)(hm:us.length<=m)(ht:∀t∈us,Th t):Kp (g.length+2) m a b (g++[.lst es]) us es:=
 ⟨by omega,by simp,EW (by simp) (keeps (le_refl _) h),hm,ht⟩
def Kp.cat{p q n m:Nat}{a b:MO}{g:Hd}{ts us:List Tv}{ds es:List D}(h:Kp p n a b g ts ds)(k:Kp q m a b g us es):Kp (g.length+2) (n+m) a b (g++[.lst (ds++es)]) (ts++us) (ds++es):=by
 refine Kp.new (h.is.app k.is) (by rw[length_append];have:=h.ln;have:=k.ln;omega) λt ht=>?_;rcases mem_append.mp ht with ht|ht
 .exact h.th t ht
 .exact k.th t ht
def Kp.mono{p n m:Nat}{a b:MO}{g:Hd}{ts:List Tv}{ds:List D}(h:Kp p n a b g ts ds)(hm:n<=m):Kp p m a b g ts ds:=⟨h.p2,h.at',h.is,le_trans h.ln hm,h.th⟩
def Kp.same{p n:Nat}{a b a' b':MO}{g:Hd}{ts:List Tv}{ds:List D}(h:Kp p n a b g ts ds):Kp p n a' b' g ts ds:=by have:=h.keep (a':=a') (b':=b') (g':=[]);rwa [append_nil]at this
abbrev wL:I:=.tup [.int 1,.int 0,.tup [.str "late",.int 0]]
abbrev wE:I:=.tup [.int 1,.int 0,.tup [.str "ends",.int 1]]
abbrev ts0:List Tv:=[ofI (.tup []),ofI (.tup [.tup []]),ofI wL,ofI (.tup [.int 1,.int 0]),ofI (.tup [wL]),.lst [ofI wL],.non,.int 0,.str "",.bl true]
abbrev ds0:List D:=[.im (.tup []),.im (.tup [.tup []]),.im wL,.im (.tup [.int 1,.int 0]),.im (.tup [wL]),.mu 2,.im .non,.im (.int 0),.im (.str ""),.im (.bl true)]
def th0:∀t∈ts0,Th t:=by
 intro t ht;simp only[mem_cons,not_mem_nil,or_false]at ht;refine Hq ?_;rcases ht with rfl|rfl|rfl|rfl|rfl|rfl|rfl|rfl|rfl|rfl
 all_goals refine⟨?_,?_,?_,?_⟩
 all_goals (simp only[ofI,Ao,Gq,Gqs,An.wt,wts,dep,B0,An.tl]<;>decide +kernel)
def bzE:Bz 100 3 (ofI wE)/\Bz 100 3 (ofI (.tup [.int 1,.int (-1),.tup [.str "ends",.int 1]]))/\Bz 100 3 (ofI (.tup [.int 0,.int 0,.tup [.str "ends",.int 1]])):=by
 refine⟨⟨?_,?_,?_,?_⟩,⟨?_,?_,?_,?_⟩,⟨?_,?_,?_,?_⟩⟩
 all_goals (simp only[ofI,Ao,Gq,Gqs,An.wt,wts,dep,B0,An.tl]<;>decide +kernel)
set_option maxHeartbeats 4000000 in
def UW{ws:List Wk}(h1:1<=ws.length)(h8:ws.length<=8)(ok:∀w∈ws,w.ok){p n:Nat}{a b:MO}{g:Hd}{ts:List Tv}{ds:List D}(hT:T 0 a b)(K:Kp p n a b g ts ds)(hn:n<=1000){q0 q3 q5 q6 q7 q8 q9 q10 q11 q12:Option D}:
 WS (AC (AS 7 (AJ Ch (A0 (A4 1) (A0 (A4 4) (A0 (mC (.int 5)) A6)))))
 (AC (AS 8 (AJ Ch (A0 (A4 1) (A0 (mOp gIx (A4 4) (mC (.int 0))) (A0 (mC (.int 4)) A6)))))
 (AC (AS 2 (Ad (CA (A4 2) (Ad (Aq (A0 (A4 4) (A0 (A4 7) (A0 (AJ Ch (A0 (A4 1) (A0 (A4 7) (A0 (mC (.int 5)) A6)))) (A0 (AJ Ch (A0 (A4 1) (A0 (A4 4) (A0 (mC (.int 5)) A6)))) (A0 (mOp gIx (A4 4) (mC (.int 0))) (A0 (A4 8) (A0 (AL (A0 (A4 8) A6)) A6))))))))))))
 (AS 2 (Ad (CA (Ad (CA (A4 2) (AJ GZ (A0 (A4 1) (A0 (A4 4) A6))))) (Ad (Aq (A0 (AJ DM (A0 (A4 1) A6)) A6))))))))) [q0,some (.mu 1),some (.mu p),q3,some (.im (AW ws)),q5,q6,q7,q8,q9,q10,q11,q12] (a::b::g) λf x=>∃p' a' b' g' ts' ds' z7 z8,f=.nx [q0,some (.mu 1),some (.mu p'),q3,some (.im (AW ws)),q5,q6,z7,z8,q9,q10,q11,q12]/\x=a'::b'::g'/\T 0 a' b'/\Kp p' (n+70) a' b' g' ts' ds':=by
 have bw:=Hh h8 ok;have ok0:=ok _ (List.getElem_mem (show 0<ws.length by omega));have b0:=JA ok0;have at0:=Gb (ws:=ws) (j:=0) (by omega);refine AB (Ac (AX (A1 (A5 rfl (A1 (A5 rfl (A1 (A8 (A7 ((GX 6 5 (by decide) (by decide) (by decide) (by decide) (by decide) hT (AV (AW ws)) bw).mono ?_))))))))));rintro d1 x ⟨a,b,g1,t1,rfl,hT,i1,b1⟩;have K:=K.keep (a':=a) (b':=b) (g':=g1);refine A9 (AB (Ac (AX (A1 (A5 rfl (A1 (AA (A5 rfl (A8 (Ab (Ap (BK ws)) (Aj (k:=0) rfl at0) (A1 (A8 (A7 ((GX 6 4 (by decide) (by decide) (by decide) (by decide) (by decide) hT (AV (Al ws[0])) b0).mono ?_))))))))))))));rintro d2 x ⟨a,b,g2,t2,rfl,hT,i2,b2⟩;have K:=K.keep (a':=a) (b':=b) (g':=g2);have i1:Is (a::b::(g++g1++g2)).length (a::b::(g++g1++g2)) t1 d1:=Ci (by simp) (keep (le_refl _) i1);refine A9 (AB (Ac (Ah (Cu (A5 rfl (Ah (B9 (A1 (A5 rfl (A1 (A5 rfl ?_)))))))))));refine A1 (AX (A1 (A5 rfl (A1 (A5 rfl (A1 (A8 (A7 ((GX 6 5 (by decide) (by decide) (by decide) (by decide) (by decide) hT i1 b1).mono ?_)))))))));rintro d3 x ⟨a,b,g3,t3,rfl,hT,i3,b3⟩;have K:=K.keep (a':=a) (b':=b) (g':=g3);have i1:Is (a::b::(g++g1++g2++g3)).length (a::b::(g++g1++g2++g3)) t1 d1:=Ci (by simp) (keep (le_refl _) i1);have i2:Is (a::b::(g++g1++g2++g3)).length (a::b::(g++g1++g2++g3)) t2 d2:=Ci (by simp) (keep (le_refl _) i2);refine A1 (AX (A1 (A5 rfl (A1 (A5 rfl (A1 (A8 (A7 ((GX 6 5 (by decide) (by decide) (by decide) (by decide) (by decide) hT (AV (AW ws)) bw).mono ?_)))))))));rintro d4 x ⟨a,b,g4,t4,rfl,hT,i4,b4⟩;have K:=K.keep (a':=a) (b':=b) (g':=g4);have i1:Is (a::b::(g++g1++g2++g3++g4)).length (a::b::(g++g1++g2++g3++g4)) t1 d1:=Ci (by simp) (keep (le_refl _) i1);have i2:Is (a::b::(g++g1++g2++g3++g4)).length (a::b::(g++g1++g2++g3++g4)) t2 d2:=Ci (by simp) (keep (le_refl _) i2);have i3:Is (a::b::(g++g1++g2++g3++g4)).length (a::b::(g++g1++g2++g3++g4)) t3 d3:=Ci (by simp) (keep (le_refl _) i3);generalize g++g1++g2++g3++g4=G at *;refine A1 (AA (A5 rfl (A8 (Ab (Ap (BK ws)) (Aj (k:=0) rfl at0) (A1 (A5 rfl (A1 (AN (A1 (A5 rfl (A7 ⟨BG,A7 ⟨AM (by simp),?_⟩⟩)))))))))));have th7:∀t∈[ofI (AW ws),t1,t3,t4,ofI (Al ws[0]),t2,.tup [t2]],Th t:=λt ht=>by
  refine Hq ?_;simp only[mem_cons,not_mem_nil,or_false]at ht;rcases ht with rfl|rfl|rfl|rfl|rfl|rfl|rfl
  .exact Bo.mono bw (by decide) (by decide) (by decide) (by decide)
  .exact Bo.mono b1 (by decide) (by decide) (by decide) (by decide)
  .exact Bo.mono b3 (by decide) (by decide) (by decide) (by decide)
  .exact Bo.mono b4 (by decide) (by decide) (by decide) (by decide)
  .exact Bo.mono b0 (by decide) (by decide) (by decide) (by decide)
  .exact Bo.mono b2 (by decide) (by decide) (by decide) (by decide)
  .have w2:=b2.wt;have p2:=b2.dp;exact Dz (λu hu=>by rw[mem_singleton]at hu;subst hu;exact b2.gd.mono (by decide)) (by simp only[wts];omega) (by simp only[B0];omega) (by simp) (by simp)
 have N7:=Kp.new (m:=7) (.cons (AV (AW ws)) (.cons i1 (.cons i3 (.cons i4 (.cons (AV (Al ws[0])) (.cons i2 (.one (Iss.one i2).tup))))))) (by simp) th7;generalize [D.im (AW ws),d1,d3,d4,D.im (Al ws[0]),d2,AK [d2]]=B at N7;rw[show a::b::G++[MO.lst B]=a::b::(G++[MO.lst B])from rfl,show(a::b::G).length=G.length+2 by simp];have K:=K.keep (a':=a) (b':=b) (g':=[.lst B]);refine⟨p,G.length+2,ds,B,rfl,rfl,K.at',N7.at',AM (by have:=K.lt;have:=N7.lt;omega),A9 ?_⟩;have K:=K.cat N7;generalize ds++B=D1 at K;generalize ts++_=T1 at K;generalize G++[MO.lst B]=G1 at K;rw[show a::b::G1++[MO.lst D1]=a::b::(G1++[MO.lst D1])from rfl,show(a::b::G1).length=G1.length+2 by simp];generalize G1.length+2=p1 at K;generalize G1++[MO.lst D1]=G2 at K;refine Ac (Ah (Cu (Ah (Cu (A5 rfl (AX (A1 (A5 rfl (A1 (A5 rfl (A7 ((Wi h1 h8 ok hT).mono ?_))))))))))));rintro e x ⟨q1,a,b,g5,T5,D5,rfl,hq1,rfl,hT,e5,i5,l5,b5⟩;have K:=K.keep (a':=a) (b':=b) (g':=g5);have N5:Kp q1 60 a b (G2++g5) T5 D5:=⟨hq1,e5,i5,l5,λt ht=>Hq (Bo.mono (b5 t ht) (by decide) (by decide) (by decide) (by decide))⟩
 refine⟨p1,q1,D1,D5,rfl,rfl,K.at',N5.at',AM (by have:=K.lt;have:=N5.lt;omega),?_⟩;have K:=K.cat N5;generalize D1++D5=D2 at K;generalize T1++T5=T2 at K;generalize G2++g5=G3 at K;rw[show a::b::G3++[MO.lst D2]=a::b::(G3++[MO.lst D2])from rfl,show(a::b::G3).length=G3.length+2 by simp];generalize G3.length+2=p2 at K;generalize G3++[MO.lst D2]=G4 at K;refine Ah (B9 (A1 (AX (A1 (A5 rfl (A7 ((JE hT).mono ?_)))))));rintro e x ⟨a,b,g6,t6,rfl,hT,i6,b6⟩;have K:=K.keep (a':=a) (b':=b) (g':=g6);generalize G4++g6=G5 at *;refine A7 ⟨BG,?_⟩;have N1:=Kp.new (m:=1) (.one i6) (by simp) (λt ht=>by rw[mem_singleton]at ht;subst ht;exact Hq (Bo.mono b6 (by decide) (by decide) (by decide) (by decide)));have K:=K.keep (a':=a) (b':=b) (g':=[.lst [e]]);rw[show a::b::G5++[MO.lst [e]]=a::b::(G5++[MO.lst [e]])from rfl,show(a::b::G5).length=G5.length+2 by simp];refine⟨p2,G5.length+2,D2,[e],rfl,rfl,K.at',N1.at',AM (by have:=K.lt;simp only[length_singleton];omega),?_⟩;have K:=K.cat N1;exact⟨_,a,b,_,_,_,_,_,rfl,rfl,hT,K.mono (by omega)⟩
def PP{ls:Ls}{hd:Hd}{QE:D->Hd->Prop}{i:Nat}{d:D}{ds:List D}{z:Int}(k:Nat)(hz:z=(k:Int))(h1:ls[i]?=some (some d))(hv:AR d=some ds)(hk:k<ds.length)(q:QE (AK (ds.take k)) hd):WE (CT (A4 i) AT (Aa (mC (.int z)))) ls hd QE:=by
 subst hz;exact KA (A5 h1 (D7 (Bc (A8 ⟨_,rfl,ds,hv,by rw[De];omega,by rw[FR];exact q⟩))))
set_option maxHeartbeats 4000000 in
def YL{p n:Nat}{a b:MO}{g:Hd}{ts:List Tv}{ds:List D}(K:Kp p n a b g ts ds)(hn:n<=1000){q0 q1 q3 q4 q5 q6 q7 q8 q9 q10 q11 q12:Option D}:
 WS (AC (AS 9 (AL (A0 (mC (.int 1)) (A0 (mC (.int 0)) (A0 (AL (A0 (mC (.str "ends")) (A0 (mC (.int 1)) A6))) A6)))))
 (AC (AS 10 (Fd (AL (A0 (A4 9) A6)) (mC (.int 300))))
 (AC (AS 2 (Ad (CA (A4 2) (Ad (Aq (A0 (A4 10) (A0 (mOp AQ (CT (A4 10) AT (Aa (mC (.int 299)))) (AL (A0 (AL (A0 (mC (.int 1)) (A0 (CU (mC (.int 1))) (A0 (mOp gIx (A4 9) (mC (.int 2))) A6)))) A6))) (A0 (mOp AQ (mOp AQ (CT (A4 10) AT (Aa (mC (.int 150)))) (AL (A0 (AL (A0 (mC (.int 0)) (A0 (mC (.int 0)) (A0 (mOp gIx (A4 9) (mC (.int 2))) A6)))) A6))) (CT (A4 10) AT (Aa (mC (.int 149))))) A6))))))))
 (AC (Dk (DV (A4 2)) (Am 11)
  (AC (AS 5 (mCB Av (A0 (A4 11) A6)))
 (AC (AS 12 (Bg DX (Aq (A0 (AJ CL (A0 (A4 11) A6)) (A0 (AJ CQ (A0 (A4 11) A6)) A6)))))
 (Ar (mOr (AI (mOp gNe (Bg DX (Aq (A0 (AJ Cg (A0 (A4 11) A6)) (A0 (AJ C4 (A0 (A4 11) A6)) A6)))) (A4 12))) (AI (mOp gNe (mCB Av (A0 (A4 11) A6)) (A4 5))))
  (AO (mC (.bl false)))
  Ae))))
 (AO (mC (.bl true))))))) [q0,q1,some (.mu p),q3,q4,q5,q6,q7,q8,q9,q10,q11,q12] (a::b::g) λf x=>∃d,f=.rt d/\d=.im (.bl true):=by
 refine AB (Ac (AN (A1 (A8 (A1 (A8 (A1 (AN (A1 (A8 (A1 (A8 (A7 ⟨Cz,A7 ⟨Ay,A9 ?_⟩⟩)))))))))))));refine AB (Ac (Ri (AN (A1 (A5 rfl (A7 ⟨BG,A8 ⟨[wE],300,rfl,rfl,by simp,by decide,by decide,A9 ?_⟩⟩))))));rw[show(List.replicate (Int.toNat 300) [wE]).flatten=List.replicate 300 wE from List.flatten_replicate_singleton];have lL:(List.replicate 300 wE).length=300:=List.length_replicate;have mL:∀i∈List.replicate 300 wE,i=wE:=λi hi=>(List.mem_replicate.mp hi).2;generalize List.replicate 300 wE=L at lL mL;change WS _ [q0,q1,some (.mu p),q3,q4,q5,q6,q7,q8,some (.im wE),some (.im (.tup L)),q11,q12] _ _;have hL:(L.map D.im).length=300:=by simpa using lL
 have t1:((L.map D.im).take 299).length=299:=by rw[length_take];omega
 have t2:((L.map D.im).take 150).length=150:=by rw[length_take];omega
 have t3:((L.map D.im).take 149).length=149:=by rw[length_take];omega
 refine AB (Ac (Ah (Cu (A5 rfl (Ah (B9 (A1 (A5 rfl ?_))))))));refine A1 (AA (PP 299 rfl rfl rfl (by omega) (AN (A1 (AN (A1 (A8 (A1 (Cr (A8 ⟨_,rfl,A1 (AA (A5 rfl (A8 (Ab rfl (Aj (k:=2) rfl rfl) (A7 ⟨Ay,A7 ⟨BG,CO (AD _) (AD _) (by intro q;rw[q]at t1;cases t1) (by simp only[length_singleton];omega) ?_⟩⟩)))))⟩))))))))));refine A1 (AA (AA (PP 150 rfl rfl rfl (by omega) (AN (A1 (AN (A1 (A8 (A1 (A8 (A1 (AA (A5 rfl (A8 (Ab rfl (Aj (k:=2) rfl rfl) (A7 ⟨Ay,A7 ⟨BG,CO (AD _) (AD _) (by intro q;rw[q]at t2;cases t2) (by simp only[length_singleton];omega) (PP 149 rfl rfl rfl (by omega) (CO (AD _) (AD _) (by simp) (by simp only[length_append,length_singleton];omega) (A7 ⟨AM (by simp),?_⟩)))⟩⟩))))))))))))))));rw[show AK [D.im (.int 1),D.im (.int (-1)),D.im (.tup [.str "ends",.int 1])]=D.im (.tup [.int 1,.int (-1),.tup [.str "ends",.int 1]])from rfl,show AK [D.im (.int 0),D.im (.int 0),D.im (.tup [.str "ends",.int 1])]=D.im (.tup [.int 0,.int 0,.tup [.str "ends",.int 1]])from rfl];obtain⟨z1,z2,z3⟩:=bzE;have iL:∀N X,Iss N X (Ao L) (L.map D.im):=λN X=>Ei L;have bL:∀u∈Ao L,Bz 100 3 u:=λu hu=>by
  rw[Be]at hu;obtain⟨i,hi,rfl⟩:=mem_map.mp hu;rw[mL i hi];exact z1
 have lT:(Ao L).length=300:=by rw[Be];simpa using lL
 have N3:=Kp.new (a:=a) (b:=b) (g:=g) (m:=3) (us:=[.tup (Ao L),.tup ((Ao L).take 299++[ofI (.tup [.int 1,.int (-1),.tup [.str "ends",.int 1]])]),.tup (((Ao L).take 150++[ofI (.tup [.int 0,.int 0,.tup [.str "ends",.int 1]])])++(Ao L).take 149)]) (.cons (iL _ _).tup (.cons (((iL _ _).take 299).app (.one (AV (.tup [.int 1,.int (-1),.tup [.str "ends",.int 1]])))).tup (.one ((((iL _ _).take 150).app (.one (AV (.tup [.int 0,.int 0,.tup [.str "ends",.int 1]])))).app ((iL _ _).take 149)).tup))) (by simp) (λt ht=>by
  simp only[mem_cons,not_mem_nil,or_false]at ht;rcases ht with rfl|rfl|rfl
  .exact Ih bL (by omega)
  .refine Ih (λu hu=>?_) (by rw[length_append,length_take,length_singleton];omega);rcases mem_append.mp hu with hu|hu
   .exact bL u (mem_of_mem_take hu)
   .rw[mem_singleton]at hu;subst hu;exact z2
  .refine Ih (λu hu=>?_) (by rw[length_append,length_append,length_take,length_take,length_singleton];omega);rcases mem_append.mp hu with hu|hu
   .rcases mem_append.mp hu with hu|hu
    .exact bL u (mem_of_mem_take hu)
    .rw[mem_singleton]at hu;subst hu;exact z3
   .exact bL u (mem_of_mem_take hu))
 rw[CF]at N3;have K:=K.keep (a':=a) (b':=b) (g':=[.lst [D.im (.tup L),AK ((L.map D.im).take 299++[.im (.tup [.int 1,.int (-1),.tup [.str "ends",.int 1]])]),AK (((L.map D.im).take 150++[.im (.tup [.int 0,.int 0,.tup [.str "ends",.int 1]])])++(L.map D.im).take 149)]]);refine⟨p,g.length+2,ds,_,rfl,by simp,K.at',N3.at',AM (by have:=K.lt;simp;omega),A9 ?_⟩;have K:=K.cat N3;generalize eB:[D.im (.tup L),AK _,AK _]=B at K;generalize ds++B=D1 at K;generalize ts++_=T1 at K;rw[show a::b::g++[MO.lst B]=a::b::(g++[MO.lst B])from rfl];generalize g++[MO.lst B]=G1 at K;rw[show a::b::G1++[MO.lst D1]=a::b::(G1++[MO.lst D1])from rfl,show(a::b::G1).length=G1.length+2 by simp];generalize G1.length+2=p1 at K;generalize G1++[MO.lst D1]=G2 at K;refine AB (G0 (K9 (A5 rfl ⟨p1,D1,rfl,K.at',?_⟩)));refine ES (λl ls hd=>∃tr gg z5 z11 z12,ls=[q0,q1,some (.mu p1),q3,q4,z5,q6,q7,q8,some (.im wE),some (.im (.tup L)),z11,z12]/\hd=a::b::G2++gg/\Iss hd.length hd tr l/\∀t∈tr,Th t) ⟨T1,[],_,_,_,rfl,by simp,K.is,K.th⟩ ?_ ?_
 .rintro d r ls hd ⟨tr,gg,z5,z11,z12,rfl,rfl,hs,hb⟩;cases tr with
  |nil=>simp only[Iss]at hs;cases hs
  |cons t tr=>
   simp only[Iss]at hs;obtain⟨d',r',e,hi,hs⟩:=hs;obtain⟨rfl,rfl⟩:=List.cons.inj e;refine⟨_,rfl,?_⟩;dsimp only[set_cons_zero,set_cons_succ];refine WP.mono (Rn hi (hb t (by simp))) ?_;rintro f x ⟨z5,z12,g6,rfl,rfl⟩;refine⟨λq hq=>?_,tr,gg++g6,_,_,_,rfl,by rw[append_assoc],EW (by simp) (HK (le_refl _) hs),λu hu=>hb u (by simp[hu])⟩;rw[mem_singleton]at hq;subst hq;have:=K.at';rw[append_assoc,List.getElem?_append_left (List.getElem?_eq_some_iff.mp this).1];exact this
 .rintro ls hd ⟨tr,gg,z5,z11,z12,rfl,rfl,hs,hb⟩;exact A9 (AF (A8 ⟨_,rfl,rfl⟩))
set_option maxHeartbeats 4000000 in
def YD(ns:List Int):WF Rw [.ro ns] [] λd x=>d=.im (.bl true):=by
 unfold Rw;refine BH rfl ?_;obtain⟨τ,et⟩:=Ro ns;obtain⟨a,b,eab⟩:∃a b,tp τ=[a,b]:=⟨_,_,rfl⟩
 rw[eab]at et;have hT:T 0 a b:=⟨τ,eab⟩
 refine AB (Ac (AX (A1 (A5 rfl (A7 (WP.eq (X1 ▸ et) (A9 ?_)))))));refine AB (Ac (Ah (B9 (A1 (AN (A7 ⟨D0,?_⟩))))));refine A1 (AN (A1 (AN (A7 ⟨D0,A7 ⟨BG,?_⟩⟩))));refine A1 (AN (A1 (A8 (A1 (A8 (A1 (AN (A1 (A8 (A1 (A8 (A7 ⟨Cz,A7 ⟨Ay,?_⟩⟩))))))))))));refine A1 (AN (A1 (A8 (A1 (A8 (A7 ⟨Cz,?_⟩))))));refine A1 (AN (A1 (AN (A1 (A8 (A1 (A8 (A1 (AN (A1 (A8 (A1 (A8 (A7 ⟨Cz,A7 ⟨Ay,A7 ⟨BG,?_⟩⟩⟩))))))))))))));refine A1 (Ah (B9 (A1 (AN (A1 (A8 (A1 (A8 (A1 (AN (A1 (A8 (A1 (A8 (A7 ⟨Cz,A7 ⟨Ay,A7 ⟨BG,?_⟩⟩⟩)))))))))))))));refine A1 (A8 (A1 (A8 (A1 (A8 (A1 (A8 (A7 ⟨AM (by simp),A9 ?_⟩))))))));have K0:Kp 3 10 a b [.lst [.im wL],.lst ds0] ts0 ds0:=by
  refine Kp.new (g:=[.lst [.im wL]]) (.cons (AV (.tup [])) (.cons (AV (.tup [.tup []])) (.cons (AV wL) (.cons (AV (.tup [.int 1,.int 0])) (.cons (AV (.tup [wL])) (.cons (t:=.lst [ofI wL]) ?_ (.cons (AV .non) (.cons (AV (.int 0)) (.cons (AV (.str "")) (.one (AV (.bl true)))))))))))) (by simp) th0;simp only[Is];exact⟨2,_,rfl,by omega,by simp,rfl,.one (AV wL)⟩
 refine AB (G0 (MH (A1 (A8 (A7 ⟨_,rfl,FF (by decide) (by decide),?_⟩)))));refine ES (I_law ns) ⟨0,3,a,b,_,_,_,none,none,none,none,none,none,none,none,none,none,rfl,by omega,rfl,rfl,hT,K0⟩ ?_ ?_
 .rintro t r ls hd ⟨j,p,a,b,g,ts,ds,z3,z4,z5,z6,z7,z8,z9,z10,z11,z12,er,hj,rfl,rfl,hT,K⟩;obtain⟨hj4,rfl,rfl⟩:=Mn er;refine⟨_,rfl,?_⟩;dsimp only[set_cons_zero,set_cons_succ];refine AB (Ac (RU (R:=λi=>∃ws,i=AW ws/\(1<=ws.length/\ws.length<=8)/\∀w∈ws,w.ok) (A1 (A5 rfl (A7 ⟨a,b,g,[],rfl,rfl,hT,rfl,Rc,?_⟩)))));rintro i a b hT ⟨ws,rfl,⟨h1,h8⟩,ok⟩;have K:=K.same (a':=a) (b':=b);refine A9 (AB (Ac (Az (A1 (A5 rfl (A7 (Hm ⟨_,rfl⟩ (N0 h8 ok) (A9 ?_))))))));dsimp only[set_cons_zero,set_cons_succ];refine AB (WP.mono (Xb h1 h8 ok hT) ?_);rintro f x ⟨z6,a,b,rfl,rfl,hT⟩;have K:=K.same (a':=a) (b':=b);refine A9 (WP.mono (UW h1 h8 ok hT K (by omega)) ?_);rintro f x ⟨p',a,b,g',ts',ds',z7,z8,rfl,rfl,hT,K⟩;exact⟨B8 _,.mk (j+1) p' a b g' ts' ds' _ _ _ _ _ _ _ _ _ _ rfl (by omega) rfl rfl hT (K.mono (by omega))⟩
 .rintro ls hd ⟨j,p,a,b,g,ts,ds,z3,z4,z5,z6,z7,z8,z9,z10,z11,z12,er,hj,rfl,rfl,hT,K⟩;refine A9 (WP.mono (YL K (by omega)) ?_);rintro f x ⟨d,rfl,h⟩;exact h
def law_eq(ns:List Int):∃hd,Rw [.ro ns] []=some (.im (.bl true),hd):=by
 obtain⟨d,x,e,rfl⟩:=YD ns;exact⟨x,e⟩
open PySem L2 PySem.W PyProof.Rows
abbrev xS:Xs:=[]
def all_mk{l:PySem.W.OpenLaw}{w:World}{K:PySem.W.Frag}{h:Heap}{mg:Str->Option Value}{fa:Addr}{c P:Str->Addr}(X:K.In h)(G:h.Ns mainGlobals mg)(hfa:mg "law"=some (.ref fa))(hx:HX xS mg h c P)(F:NW K):HG l w K xS mg c P fa NK:=by
 obtain⟨Z,h0,h1,h2,h3,h4,h5,h6,h7,h8,h9,h10,h11,h12,h13,h14,h15,h16,h17,h18,h19,h20,h21,h22,h23,h24,h25,h26,h27,h28⟩:=F;have B:=(zsE Z).blt X G;refine QK X G hfa hx (feE h0) bd1 rfl λbase hd bl=>?_;obtain⟨o_is_number,o_is_number_from,o_is_tuple_of,o_rises,o_is_row,o_is_rows,o_is_cost,o_is_work,o_is_works,o_all_length,o_same_coming,o_with_work,o_with_length,o_with_coming,o_tape,o_pick,o_strange,o_bent,o_lis_number,o_cost,o_are_rows,o_lis_cost,o_lis_work,o_are_works,o_works,o_near,o_told_right,o_changed_right,o_law⟩:=oks (E:=enM l w K xS P mg base) B;have g1:=o_is_number ((feE h1).dn X G hx bd1 l w base);have g2:=o_is_number_from ((feE h2).dn X G hx bd2 l w base) g1;have g3:=o_is_tuple_of ((feE h3).dn X G hx bd2 l w base);have g4:=o_rises ((feE h4).dn X G hx bd1 l w base);have g5:=o_is_row ((feE h5).dn X G hx bd1 l w base) g1 g2 g3;have g6:=o_is_rows ((feE h6).dn X G hx bd1 l w base) g4 g5;have g7:=o_is_cost ((feE h7).dn X G hx bd1 l w base) g1 g2 g6;have g8:=o_is_work ((feE h8).dn X G hx bd1 l w base) g2 g3 g7;have g9:=o_is_works ((feE h9).dn X G hx bd1 l w base) g8;have g10:=o_tape ((feE h10).dn X G hx bd1 l w base);have g11:=o_pick ((feE h11).dn X G hx bd2 l w base);have g12:=o_strange ((feE h12).dn X G hx bd1 l w base) g11;have g13:=o_bent ((feE h13).dn X G hx bd3 l w base) g11 g12;have g14:=o_lis_number ((feE h14).dn X G hx bd1 l w base);have g15:=o_are_rows ((feE h15).dn X G hx bd1 l w base) g14;have g16:=o_lis_cost ((feE h16).dn X G hx bd1 l w base) g14 g15;have g17:=o_lis_work ((feE h17).dn X G hx bd1 l w base) g14 g16;have g18:=o_are_works ((feE h18).dn X G hx bd1 l w base) g17;have g19:=o_cost ((feE h19).dn X G hx bd2 l w base) g11;have g20:=o_works ((feE h20).dn X G hx bd1 l w base) g11 g19;have g21:=o_near ((feE h21).dn X G hx bd2 l w base) g11;have g22:=o_all_length ((feE h22).dn X G hx bd1 l w base);have g23:=o_same_coming ((feE h23).dn X G hx bd1 l w base);have g24:=o_told_right ((feE h24).dn X G hx bd1 l w base) g22 g23;have g25:=o_with_work ((feE h25).dn X G hx bd3 l w base);have g26:=o_with_length ((feE h26).dn X G hx bd3 l w base) g25;have g27:=o_with_coming ((feE h27).dn X G hx bd3 l w base) g25;have g28:=o_changed_right ((feE h28).dn X G hx bd4 l w base) g9 g26 g27 g24;exact o_law ((feE h0).dn X G hx bd1 l w base) g8 g9 g10 g11 g12 g13 g17 g18 g20 g21 g24 g28
end T05
theorem PySem.Challenge.cw_benchdays_k05_works_by_kind_holds : PySem.Challenge.rw_benchdays_k05_works_by_kind.Holds := by
 refine T05.early λK F d hd hdf=>L2.walkL T05.xS (l:=PySem.Challenge.rw_benchdays_k05_works_by_kind) (n:=63) (k:=9) (F:=T05.Rw) rfl (by decide) hdf ⟨rfl,by decide,by decide,rfl⟩ (by intro x hx;cases hx) T05.law_eq (λw h Y=>Y) λw mg fa h c P X G hmg hx=>?_;rw[hd]at hmg;exact T05.all_mk X G hmg hx (F w)
