import PyProof.Rows.All
import Wide.All
import OpenK.AllK
import Wide.FinOn
import Lean
import PyProof.EqAt
import PyProof.EqKinds
import PyProof.TupleCall
import KE.KSortKey
import PyProof.ListMulRoad
import PyProof.Draws
import PyProof.EnumMake
import PyProof.ListNew
import KE.KRevIter
import KE.KMinKey
import PySem.Challenge.RW_benchdays_k01_fractions
set_option Elab.async false
set_option linter.all false
set_option maxRecDepth 100000
noncomputable section
set_option hygiene false in
local macro_rules | `(tactic| and_intros) => `(tactic| intro ρ σ H hd ls Q d hd' hR hL hm hQ)
open List(mem_cons filterMap_cons mem_cons_self mem_cons_of_mem mem_append mem_append_right size_toArray append_nil nodup_cons length_take mem_of_getElem? length_append length_map length_drop any_cons map_nil map_cons find?_cons lookup_cons append_assoc lookup_append mem_map all_eq_true cons_append mem_of_mem_take reverse_cons not_mem_nil mem_singleton)
open Option(bind_some isSome_iff_exists none_or map_some)
open Nat(lt_of_lt_of_le lt_irrefl ne_of_lt le_trans le_of_lt le_refl lt_of_le_of_lt lt_trans zero_le log2_lt gcd_comm)
open Int(mul_one natAbs_natCast mul_pos zero_sub)
def XG{α β:Type _}{o:Option α}{f:α->Option β}{b:β}(h:o.bind f=some b):∃a,o=some a/\f a=some b:=Option.bind_eq_some_iff.mp h
def XH{α β:Type _}{o:Option α}{f:α->β}{b:β}(h:o.map f=some b):∃a,o=some a/\f a=b:=Option.map_eq_some_iff.mp h
set_option compiler.extract_closed false
local macro_rules | `(tactic| omega) => `(tactic| first | lia | omega (config := {}))
namespace Ea
open PySem PySem.W
def dA(s:Stmt):Arguments:=match s with
 |.FunctionDef _ a _ _ _ _ _ _ _ _=>a
 |_=>{ posonlyargs:=[],args:=[],vararg:=none,kwonlyargs:=[],kw_defaults:=[],kwarg:=none,defaults:=[] }
def dB(s:Stmt):List Stmt:=match s with
 |.FunctionDef _ _ b _ _ _ _ _ _ _=>b
 |_=>[]
def dS(s:Stmt):Scope:=match s with
 |.FunctionDef _ _ _ _ _ _ sc _ _ _=>sc
 |_=>{ kind:=.function,names:=[],isGenerator:=false,isCoroutine:=false }
def tO(o:Obj):Option Addr:=match o.data with
 | .fields vs=>(match (vs[11]?:Option Value)with
  |some (Value.ref P)=>some P
  | _=>none)
 |_=>none
def At(K:Frag)(n:Str)(s:Stmt)(f:Addr)(cd:Value):Prop:=∃oc kV dc pm ct od an sl,nsIn K mainGlobals n=some (some (.ref f))/\K.lookup f=some ⟨oc,od,.func (fnOf n n (dA s) (dB s) (dS s) .none kV dc pm an cd ct),sl⟩/\codeIn K cd n=true/\keepIn K (.ref f)=true
def Fe(K:Frag)(n:Str)(s:Stmt):Prop:=∃f cd,At K n s f cd
def Fl(K:Frag)(n:Str)(s:Stmt)(p:Addr):Prop:=∃f ca ob,At K n s f (.ref ca)/\K.lookup ca=some ob/\tO ob=some p
section
variable{K:Frag}{n:Str}{s:Stmt}{f ca p:Addr}{oc kV dc pm cd ct:Value}{od an:Option Addr}{sl:Array (Option Value)}{ob:Obj}
def feI(a:nsIn K mainGlobals n=some (some (.ref f)))(l:K.lookup f=some ⟨oc,od,.func (fnOf n n (dA s) (dB s) (dS s) .none kV dc pm an cd ct),sl⟩)(c:codeIn K cd n=true)(k:keepIn K (.ref f)=true):Fe K n s:=⟨f,cd,_,_,_,_,_,_,_,_,a,l,c,k⟩
end
abbrev U8:List Str:=["list","tuple","len","range","repr","sum","min","max","abs","all","any","sorted","zip","isinstance","int","bool","str","set","enumerate","reversed","dict"]
def Zs(K:Frag):Prop:=∀n∈U8,nsIn K mainGlobals n=some none
def Zg(K:Frag)(l:List Str):Prop:=∀n∈l,nsIn K mainGlobals n=some none
def zs0{K:Frag}:Zg K []:=λ_ h=>nomatch h
def zs1{K:Frag}{n:Str}{l:List Str}(h:nsIn K mainGlobals n=some none)(r:Zg K l):Zg K (n::l):=λm hm=>by
 rcases mem_cons.mp hm with rfl|hm
 .exact h
 .exact r m hm
end Ea
namespace L2
open PySem
def Uy(nm:Str)(p:Addr×Obj):Bool:=match p.2.data with
 |.cls cd=>cd.name==nm
 |_=>false
def Uz(K:PySem.W.Frag)(nm:Str):Option Addr:=(K.find? (Uy nm)).map (·.1)
end L2
namespace Hl
open PySem PySem.W PyProof.Rows
def Ju(p:Program)(w:World)(m:Nat)(ann:Option Value):Nat->SharedT->Thread->Option SharedT
 |0,_,_=>none
 |n+1,s,t=>match through t with
  |true=>some s
  |false=>match stepOk m ann t with
   |false=>none
   |true=>match stepT (denote treeTable) p w s t with
    |some (s',t')=>Ju p w m ann n s' t'
    |none=>none
theorem JL{p:Program}{w:World}{m:Nat}{ann:Option Value}:∀{n:Nat} {s s':SharedT} {t:Thread},Ju p w m ann n s t=some s'->topRun treeTable p w m ann n s.abs t=some s'.abs
 |0,_,_,_,h=>by cases h
 |n+1,s,s',t,h=>by
  rw[Ju]at h;rw[topRun];cases h1:through t with
  |true=>rw[h1]at h;cases h;rfl
  |false=>
   rw[h1]at h;cases h2:stepOk m ann t with
   |false=>rw[h2]at h;cases h
   |true=>
    rw[h2]at h;cases h3:stepT (denote treeTable) p w s t with
    |none=>rw[h3]at h;cases h
    |some r=>obtain⟨s2,t2⟩:=r;rw[h3]at h;rw[stepT_spec h3];exact JL h
def NP:Nat->List Obj->BT->BT
 |_,[],t=>t
 |n,o::r,t=>NP (n+1) r (t.ins n o)
def bT(P:Params):BT:=NP 0 (boot_heap P).objs.toList .nil
def U7(P:Params):absHeap (bT P) 11 (boot_heap P).life=boot_heap P:=by kernel_rfl
def Vg(P:Params):((boot_heap P).isNs mainGlobals,(boot_heap P).nsMap mainGlobals "__annotations__")=(true,some (.ref 6)):=by kernel_rfl
variable{p q:Program}{loose:List Str}{Xt:Shared->Bool}{α:Type}{Yf:Shared->α}{Ya:World->α}{N M:Nat}
def TX(p q:Program)(loose:List Str)(Xt:Shared->Bool)(Yf:Shared->α)(M:Nat)(w:World)(os:OsState):=
 match Ju p w 11 (some (.ref 6)) M ⟨bT w.params,11,(boot_heap w.params).life,Array.mk [],boot_drawn,boot_toks,os⟩ (topStub p)with
 | some s=>(match staticsOk (importedModules p.main.body) (boot_heap w.params) s.abs.heap&&namesBound p s.abs.heap&&gensDone s.abs&&laidKept (boot_heap w.params) s.abs.heap with
  |true=>some (openSeen q loose (importedModules p.main.body) Xt true s.abs,Yf s.abs)
  | false=>none)
 |none=>none
def left(e:opening p=plainProg p.main.scope.names)(f:∀s,fenceModules? p s=some s)(hN:Nat.ble 600 N=true)(hM:Nat.ble M N=true)(h:∀w os,TX p q loose Xt Yf M w os=some (openGood q loose,Ya w)):LeftO p q loose Xt Yf Ya N:=λw=>by
 obtain⟨⟨hp,gs,d,k,os⟩,e1,e2⟩:=XH (boot_open e hN f w);simp only[Prod.mk.injEq]at e2;obtain⟨rfl,rfl,rfl,rfl⟩:=e2;have hl:=h w os;unfold TX at hl;split at hl
 .next s hs=>
  have r:=topRun_mono (N-M) _ _ _ _ (JL hs);rw[show M+(N-M)=N by have:=Nat.le_of_ble_eq_true hM;omega]at r;have ea:(SharedT.mk (bT w.params) 11 (boot_heap w.params).life (Array.mk []) boot_drawn boot_toks os).abs=⟨boot_heap w.params,Array.mk [],boot_drawn,boot_toks,os⟩:=by
   show Shared.mk (absHeap (bT w.params) 11 (boot_heap w.params).life) _ _ _ _=_;rw[U7]
  rw[ea]at r;obtain⟨z1,z2⟩:=Prod.mk.inj (Vg w.params);have z3:(boot_heap w.params).objs.size=11:=rfl;split at hl
  .next c=>
   show((fencedOpening treeTable p w N).bind (topFrom treeTable p w N)).map _=_;rw[e1,bind_some];have t:topFrom treeTable p w N ⟨boot_heap w.params,Array.mk [],boot_drawn,boot_toks,os⟩=some s.abs:=by
    unfold topFrom;dsimp only;rw[z1,z2,z3,r];show(match staticsOk (importedModules p.main.body) (boot_heap w.params) s.abs.heap&&namesBound p s.abs.heap&&gensDone s.abs&&laidKept (boot_heap w.params) s.abs.heap with|true=>some s.abs|false=>none)=_;rw[c]
   rw[t];exact hl
  .cases hl
 .cases hl
end Hl
namespace T01
open PySem PySem.W PyProof.Rows Ea
def top(i:Nat):Stmt:=PySem.Challenge.pw_benchdays_k01_fractions.main.body.getD i (.Pass ⟨0,0,0,0⟩)
def vw:PySem.Program:={ PySem.Challenge.pw_benchdays_k01_fractions with main:={ PySem.Challenge.pw_benchdays_k01_fractions.main with body:=[1,2,3,5,6,7,8,9,10,11,13,14,15,16,17,18,19,20,21,22,23,24,25,26,27,28,29,30].map top } }
def Kg(K:Frag):Prop:=Zs K/\Fe K "law" (top 30)/\Fe K "is_number" (top 1)/\Fe K "is_number_from" (top 2)/\Fe K "is_tuple_of" (top 3)/\Fe K "common_divisor" (top 5)/\Fe K "is_fraction" (top 6)/\Fe K "fraction" (top 7)/\Fe K "_law_tape" (top 13)/\Fe K "_law_pick" (top 14)/\Fe K "_law_is_number" (top 18)/\Fe K "_law_common" (top 19)/\Fe K "_law_is_fraction" (top 20)/\Fe K "_law_as_much" (top 21)/\Fe K "_law_strange" (top 15)/\Fe K "_law_bent" (top 16)/\Fe K "_law_wide" (top 17)/\Fe K "_law_size" (top 23)/\Fe K "_law_top" (top 24)/\Fe K "_law_low" (top 25)/\Fe K "_law_other" (top 26)/\Fe K "plus" (top 8)/\Fe K "minus" (top 9)/\Fe K "times" (top 10)/\Fe K "less" (top 11)/\Fe K "_law_side" (top 22)/\Fe K "_law_reckoned" (top 27)/\Fe K "_law_round" (top 28)/\Fe K "_law_long_right" (top 29)
def VX{K:Frag}(z:Zs K)(h0:Fe K "law" (top 30))(h1:Fe K "is_number" (top 1))(h2:Fe K "is_number_from" (top 2))(h3:Fe K "is_tuple_of" (top 3))(h4:Fe K "common_divisor" (top 5))(h5:Fe K "is_fraction" (top 6))(h6:Fe K "fraction" (top 7))(h7:Fe K "_law_tape" (top 13))(h8:Fe K "_law_pick" (top 14))(h9:Fe K "_law_is_number" (top 18))(h10:Fe K "_law_common" (top 19))(h11:Fe K "_law_is_fraction" (top 20))(h12:Fe K "_law_as_much" (top 21))(h13:Fe K "_law_strange" (top 15))(h14:Fe K "_law_bent" (top 16))(h15:Fe K "_law_wide" (top 17))(h16:Fe K "_law_size" (top 23))(h17:Fe K "_law_top" (top 24))(h18:Fe K "_law_low" (top 25))(h19:Fe K "_law_other" (top 26))(h20:Fe K "plus" (top 8))(h21:Fe K "minus" (top 9))(h22:Fe K "times" (top 10))(h23:Fe K "less" (top 11))(h24:Fe K "_law_side" (top 22))(h25:Fe K "_law_reckoned" (top 27))(h26:Fe K "_law_round" (top 28))(h27:Fe K "_law_long_right" (top 29)):Kg K:=⟨z,h0,h1,h2,h3,h4,h5,h6,h7,h8,h9,h10,h11,h12,h13,h14,h15,h16,h17,h18,h19,h20,h21,h22,h23,h24,h25,h26,h27⟩
local macro_rules | `(tactic| o_head $H) => `(tactic| (refine holds_open (r := PySem.Challenge.rw_benchdays_k01_fractions.row) (q := T01.vw) (loose := []) (Xt := λ s => xlAt T01.vw [] s && recOk (RowW.records (OpenRow.toRowW PySem.Challenge.rw_benchdays_k01_fractions.row)) s) (XP := XL T01.vw []) (Yf := Hook.obs $H) (Ya := Hook.val $H) (YP := Hook.says $H) (N := 100000) ?hl (Hook.of $H) (Hook.keeps $H) (λ s e => xl_of s (Bool.and_eq_true_iff.mp e).1) XL.keeps (by rfl) (by rfl) (by rfl) (λ s e => recFacts_of (Bool.and_eq_true_iff.mp e).2) (by rfl) (by first | assumption | decide +kernel) (by decide +kernel) ⟨rfl, rfl, rfl, rfl, rfl, by decide +kernel⟩ ?hw ?hc; (case hl => exact Hl.left (M := 10000) (by rfl) (λ s => by rfl) (by decide) (by decide) λ w os => by kernel_rfl)))
set_option maxRecDepth 100000 in
set_option maxHeartbeats 0 in
def early(hG:∀(K:Params->Frag),(∀w:World,Kg (K w.params))->∀d:DefRec,d.name="law"->d.params.defaults=[]->WalkO T01.vw [] (XL T01.vw []) (λw h=>(K w.params).In h) PySem.Challenge.rw_benchdays_k01_fractions.row.toRowW d [] (λf vs=>PySem.call f vs)):PySem.Challenge.rw_benchdays_k01_fractions.Holds:=by
 w_on;o_law;k_head;(case hw=>w_witness2)
 k_fill
 refine λw s₀ s₁ mg mb G Y=>hG _ ?F _ rfl rfl w s₀ s₁ mg mb G (kIn_of Y)
 case F=>
  intro w;refine' VX ?z ?h0 ?h1 ?h2 ?h3 ?h4 ?h5 ?h6 ?h7 ?h8 ?h9 ?h10 ?h11 ?h12 ?h13 ?h14 ?h15 ?h16 ?h17 ?h18 ?h19 ?h20 ?h21 ?h22 ?h23 ?h24 ?h25 ?h26 ?h27 
  case z=>(refine' zs1 _ (zs1 _ (zs1 _ (zs1 _ (zs1 _ (zs1 _ (zs1 _ (zs1 _ (zs1 _ (zs1 _ (zs1 _ (zs1 _ (zs1 _ (zs1 _ (zs1 _ (zs1 _ (zs1 _ (zs1 _ (zs1 _ (zs1 _ (zs1 _ (zs0)))))))))))))))))))))<;>k_is)
  case h0|h1|h2|h3|h4|h5|h6|h7|h8|h9|h10|h11|h12|h13|h14|h15|h16|h17|h18|h19|h20|h21|h22|h23|h24|h25|h26|h27=>(refine' feI ?a ?l ?c ?k;case a|l|c|k=>k_is)
end T01
namespace L2
open PySem PySem.Spec PyProof.Rows
abbrev Key:=Sum Int Str
def FE:Key->Value->Bool
 |.inl k,v=>Value.isInt k v
 |.inr x,v=>Value.isStrOf x v
def VU(w:World):Key->Int
 |.inl k=>hashInt k
 |.inr x=>hashStr w x
def BC:∀{k:Key} {v:Value},FE k v=true->(∃i t,k=Sum.inl i/\v=Value.int i t)∨(∃x t,k=Sum.inr x/\v=Value.str x t)
 |.inl i,v,h=>by
  obtain⟨t,e⟩:=Value.isInt_shape (k:=i) (v:=v) h;exact .inl ⟨i,t,rfl,e⟩
 |.inr x,v,h=>by
  obtain⟨t,e⟩:=Value.isStrOf_shape (x:=x) (v:=v) h;exact .inr ⟨x,t,rfl,e⟩
def LR(i:Int)(t:Tok):FE (.inl i) (.int i t)=true:=by simp[FE,Value.isInt]
def LQ(x:Str)(t:Tok):FE (.inr x) (.str x t)=true:=by simp[FE,Value.isStrOf]
def Te(a b:Int):decide ((Sum.inl a:Key)=Sum.inl b)=(a==b):=by
 by_cases e:a=b
 .subst e;simp
 .have h:¬ (Sum.inl a:Key)=Sum.inl b:=λq=>e (Sum.inl.inj q);rw[decide_eq_false h];exact(beq_eq_false_iff_ne.mpr e).symm
def Ta(a b:Str):decide ((Sum.inr a:Key)=Sum.inr b)=decide (a=b):=by
 by_cases e:a=b
 .subst e;simp
 .have h:¬ (Sum.inr a:Key)=Sum.inr b:=λq=>e (Sum.inr.inj q);rw[decide_eq_false h,decide_eq_false e]
def Td(a:Int)(b:Str):decide ((Sum.inl a:Key)=Sum.inr b)=false:=decide_eq_false (λq=>nomatch q)
def Tc(a:Str)(b:Int):decide ((Sum.inr a:Key)=Sum.inl b)=false:=decide_eq_false (λq=>nomatch q)
def B0(prog:Program)(w:World):PySem.KeyKind prog w Key where
 is:=FE
 hash:=VU w
 inj:=λv a b ha hb=>by
  rcases BC ha with⟨i,t,rfl,rfl⟩|⟨x,t,rfl,rfl⟩
  .rcases BC hb with⟨j,u,rfl,e⟩|⟨y,u,rfl,e⟩
   .injection e with e1 _;rw[e1]
   .exact nomatch e
  .rcases BC hb with⟨j,u,rfl,e⟩|⟨y,u,rfl,e⟩
   .exact nomatch e
   .injection e with e1 _;rw[e1]
 byValue:=λk v h=>by
  rcases BC h with⟨i,t,rfl,rfl⟩|⟨x,t,rfl,rfl⟩<;>rfl
 pyHash:=λhv h=>by
  rcases BC hv with⟨i,t,rfl,rfl⟩|⟨x,t,rfl,rfl⟩
  .exact wpAny_pyHash_int h
  .exact wpAny_pyHash_str h
 eqBool:=λhu hv h=>by
  rcases BC hu with⟨i,t,rfl,rfl⟩|⟨x,t,rfl,rfl⟩
  .rcases BC hv with⟨j,u,rfl,rfl⟩|⟨y,u,rfl,rfl⟩
   .rw[Te]at h;exact wpAny_eqBool_int h
   .rw[Td]at h;exact SeqAt.EqAt.int_str i t y u _ _ _ _ h
  .rcases BC hv with⟨j,u,rfl,rfl⟩|⟨y,u,rfl,rfl⟩
   .rw[Tc]at h;exact SeqAt.EqAt.str_int x t j u _ _ _ _ h
   .rw[Ta]at h;exact wpAny_eqBool_str h
 «strs»:=λk x t v h=>by
  rcases BC h with⟨i,u,rfl,e⟩|⟨y,u,rfl,e⟩
  .exact nomatch e
  .injection e with e1 _
   subst e1;cases v<;>rfl
def JD(prog:Program)(w:World)(i:Int)(t:Tok):(B0 prog w).is (.inl i) (.int i t)=true:=LR i t
def JC(prog:Program)(w:World)(x:Str)(t:Tok):(B0 prog w).is (.inr x) (.str x t)=true:=LQ x t
inductive V where
 |non|bl (b:Bool)|int (i:Int)|str (x:Str)|byt (b:Array UInt8)|flt (b:UInt64)|ref (a:Addr)|ty (n:String)
 deriving DecidableEq
def RelV:V->Value->Prop
 |.non,u=>u=Value.none
 |.bl b,u=>u=Value.bool b
 |.int i,u=>∃t,u=Value.int i t
 |.str x,u=>∃t,u=Value.str x t
 |.byt b,u=>∃t,u=Value.bytes b t
 |.flt b,u=>∃t,u=Value.float b t
 |.ref a,u=>u=Value.ref a
 |.ty n,u=>u=Value.type n
abbrev Vals:List V->List Value->Prop:=Paired RelV
theorem Vals.length{xs:List V}{us:List Value}(r:Vals xs us):xs.length=us.length:=Paired.length r
theorem Vals.get:∀{xs:List V} {us:List Value} {i:Nat} {x:V},Vals xs us->xs[i]?=some x->∃u,us[i]?=some u/\RelV x u
 |_,_,_,_,.nil,e=>by simp at e
 |_,_,0,_,.cons r _,e=>by simp at e;subst e;exact⟨_,rfl,r⟩
 |_,_,i+1,x,.cons _ t,e=>by
  obtain⟨u,h1,h2⟩:=Vals.get (i:=i) (x:=x) t (by simpa using e);exact⟨u,by simpa using h1,h2⟩
theorem Vals.append:∀{xs ys:List V} {us ws:List Value},Vals xs us->Vals ys ws->Vals (xs++ys) (us++ws)
 |_,_,_,_,.nil,s=>s
 |_,_,_,_,.cons r t,s=>.cons r (Vals.append t s)
theorem Vals.take:∀{xs:List V} {us:List Value} (n:Nat),Vals xs us->Vals (xs.take n) (us.take n)
 |_,_,0,_=>.nil
 |_,_,_+1,.nil=>.nil
 |_,_,n+1,.cons r t=>.cons r (Vals.take n t)
theorem Vals.drop:∀{xs:List V} {us:List Value} (n:Nat),Vals xs us->Vals (xs.drop n) (us.drop n)
 |_,_,0,r=>r
 |_,_,_+1,.nil=>.nil
 |_,_,n+1,.cons _ t=>Vals.drop n t
def RelO:Option V->Option Value->Prop
 |some v,some u=>RelV v u
 |none,none=>True
 |_,_=>False
def KV{κ:Type}:List (κ×V)->List (κ×Value)->Prop:=Paired λ(p:κ×V) (q:κ×Value)=>p.1=q.1/\RelV p.2 q.2
def kV:Key->V
 |.inl i=>.int i
 |.inr x=>.str x
inductive HO where
 /-- a list -/
 |lst (xs:List V)
 /-- a tuple (never changes) -/
 |tup (xs:List V)
 /-- a dict whose keys are ints and texts;one whose keys are tuples of ints and texts (the empty one is both) -/
 |dK (kvs:List (Key×V))|dT (kvs:List (List Key×V))
 /-- a set of ints: its members,its size -/
 |set (S:Int->Bool) (n:Nat)
 /-- an instance of the class at C,its dict at dx,its attributes -/
 |ins (C dx:Addr) (fs:List (Str×V))
 /-- the dict of the instance at x -/
 |own (x:Addr)
 /-- the dict of an exception -/
 |xd (fs:List (Str×V))
 /-- a bound method,f of x -/
 |met (f x:Addr)
 /-- a range object lo,lo+1,.. below hi -/
 |rng (lo hi:Int)
 /-- a thing that is known to the object (the script;a dict while a loop walks it): read,never written while it is so -/
 |frz (o:Obj) (u:HO)
 /-- a code object's table -/
 |tbl (ps:Array Value)
 /-- any other thing,by what is true of its one object (a def of one's own: SetO a S n:=HO.ext λh=>..) -/
 |ext (φ:Heap->Prop)
abbrev Hp:=Addr->Option HO
def upd(H:Hp)(a:Addr)(o:HO):Hp:=λb=>if b=a then some o else H b
def Ae{H:Hp}{a:Addr}{o:HO}:upd H a o a=some o:=by unfold upd;rw[if_pos rfl]
def AU{H:Hp}{a b:Addr}{o:HO}(h:b≠a):upd H a o b=H b:=by unfold upd;rw[if_neg h]
def Ug{H:Hp}{a b:Addr}{o u:HO}(h:H a=some o)(h':H b=some u)(d:o≠u):a≠b:=by
 intro e;subst e;rw[h]at h';exact d (Option.some.inj h')
def As{H:Hp}{a b:Addr}{o:HO}(h:H a=some o)(h':H b=none):a≠b:=by
 intro e;subst e;rw[h]at h';cases h'
def IsTupD(h:Heap)(a:Addr)(items:Array Value):Prop:=∃o,h.get? a=some o/\o.cls=.type "tuple"/\(∃n,o.data=.seq items n)/\o.dict=none
def IsTupD.t{h:Heap}{a:Addr}{items:Array Value}(x:IsTupD h a items):IsTup h a items:=let ⟨o,e,c,d,_⟩:=x;⟨o,e,c,d⟩
def IsTupD.new(h:Heap)(items:Array Value):IsTupD (h.push { cls:=.type "tuple",data:=.seq items }) h.objs.size items:=⟨_,Heap.get?_push_size _ rfl,rfl,⟨_,rfl⟩,rfl⟩
section
variable(P:Program)(w:World)
def ObjOk(H:Hp)(h:Heap)(a:Addr):HO->Prop
 |.lst xs=>xs.length<=sizeLine/\∃(its:List Value) (n:Nat),Vals xs its/\h.get? a=some { cls:=.type "list",data:=.seq its.toArray n }
 |.tup xs=>xs.length<=sizeLine/\∃its:List Value,Vals xs its/\IsTupD h a its.toArray
 |.dK kvs=>kvs.length<=sizeLine/\(a==sysModules)=false/\∃vs,KV kvs vs/\h.DictOf (B0 P w) a vs
 |.dT kvs=>kvs.length<=sizeLine/\(a==sysModules)=false/\∃xs:List (List Key×Addr×Value),
  Paired (λ(p:List Key×V) (q:List Key×Addr×Value)=>p.1=q.1/\H q.2.1=some (.tup (p.1.map kV))/\RelV p.2 q.2.2) kvs xs /\
  ∃o es ep,h.get? a=some o/\o.ExactDict/\o.data=.dict es ep/\es.toList=xs.map (entryOfKey (tupleKind (B0 P w)))/\(xs.map (·.1)).Nodup
 |.set S n=>h.SetOf (intKind P w) a S n
 |.ins C dx fs=>H dx=some (.own a)/\fs.length<=1000/\dx≠a/\h.get? a=some (PySem.W.instObj C dx)/\
  ∃mA,h.Ns1 dx mA/\(∀f,RelO (fs.lookup f) (mA f))/\PySem.Within mA (fs.map (·.1))
 |.own _=>∃o,h.get? a=some o
 |.xd fs=>∃mA,h.Ns1 a mA/\∀f,RelO (fs.lookup f) (mA f)
 |.rng lo hi=>∃t u v,h.get? a=some { cls:=.type "range",data:=.fields #[.int lo t,.int hi u,.int 1 v] }
 |.frz o u=>h.get? a=some o/\ObjOk H h a u
 |.tbl ps=>h.get? a=some { cls:=.none,data:=.fields ps }
 |.met f x=>h.get? a=some (PySem.W.methodObj (.ref f) (.ref x))
 |.ext φ=>φ h/\(∃o,h.get? a=some o)/\∀h1 h2:Heap,φ h1->(∀o,h1.get? a=some o->h2.get? a=some o)->φ h2
def HOk(H:Hp)(h:Heap):Prop:=∀a o,H a=some o->ObjOk P w H h a o
end
section
variable{P:Program}{w:World}{H H':Hp}{h h':Heap}{a:Addr}{o:HO}
def ObjOk.lt(x:ObjOk P w H h a o):a<h.objs.size:=by
 cases o with
 |lst xs=>obtain⟨_,_,_,_,e⟩:=x;exact Heap.lt_size e
 |tup xs=>obtain⟨_,_,_,o,e,_⟩:=x;exact Heap.lt_size e
 |dK kvs=>obtain⟨_,_,_,_,o,_,_,e,_⟩:=x;exact Heap.lt_size e
 |dT kvs=>obtain⟨_,_,_,_,o,_,_,e,_⟩:=x;exact Heap.lt_size e
 |set S n=>obtain⟨o,_,_,_,e,_⟩:=x;exact Heap.lt_size e
 |ins C dx fs=>obtain⟨_,_,_,e,_⟩:=x;exact Heap.lt_size e
 |own y=>obtain⟨_,e⟩:=x;exact Heap.lt_size e
 |xd fs=>obtain⟨_,⟨_,_,_,e,_⟩,_⟩:=x;exact Heap.lt_size e
 |rng lo hi=>obtain⟨_,_,_,e⟩:=x;exact Heap.lt_size e
 |frz ob u=>obtain⟨e,_⟩:=x;exact Heap.lt_size e
 |tbl ps=>exact Heap.lt_size (show h.get? a=some _ from x)
 |met f y=>exact Heap.lt_size (show h.get? a=some _ from x)
 |ext φ=>obtain⟨_,⟨_,e⟩,_⟩:=x;exact Heap.lt_size e
theorem Paired.mapP{α β:Type}{F G:α->β->Prop}:∀{l₁:List α} {l₂:List β},Paired F l₁ l₂->(∀a b,F a b->G a b)->Paired G l₁ l₂
 |_,_,.nil,_=>.nil
 |_,_,.cons r t,f=>.cons (f _ _ r) (Paired.mapP t f)
def ObjOk.stay(x:ObjOk P w H h a o)(k:∀b u,(b=a∨H b=some (.own a))->h.get? b=some u->h'.get? b=some u)
 (ho:∀b,H b=some (.own a)->H' b=some (.own a)) (ht:∀b xs,H b=some (.tup xs)->H' b=some (.tup xs)):ObjOk P w H' h' a o:=by
 induction o with
 |lst xs=>obtain⟨z,its,n,r,e⟩:=x;exact⟨z,its,n,r,k _ _ (.inl rfl) e⟩
 |tup xs=>obtain⟨z,its,r,ob,e,c⟩:=x;exact⟨z,its,r,ob,k _ _ (.inl rfl) e,c⟩
 |dK kvs=>obtain⟨z,y,vs,r,ob,es,ep,e,c⟩:=x;exact⟨z,y,vs,r,ob,es,ep,k _ _ (.inl rfl) e,c⟩
 |dT kvs=>
  obtain⟨z,y,xs,r,ob,es,ep,e,c⟩:=x;exact⟨z,y,xs,Paired.mapP r λp q z=>⟨z.1,ht _ _ z.2.1,z.2.2⟩,ob,es,ep,k _ _ (.inl rfl) e,c⟩
 |set S n=>obtain⟨ob,es,ep,t,e,c⟩:=x;exact⟨ob,es,ep,t,k _ _ (.inl rfl) e,c⟩
 |ins C dx fs=>
  obtain⟨d,z,ne,e,mA,⟨od,es,ep,e2,c⟩,r⟩:=x;exact⟨ho _ d,z,ne,k _ _ (.inl rfl) e,mA,⟨od,es,ep,k _ _ (.inr d) e2,c⟩,r⟩
 |own y=>obtain⟨ob,e⟩:=x;exact⟨ob,k _ _ (.inl rfl) e⟩
 |xd fs=>obtain⟨mA,⟨od,es,ep,e,c⟩,r⟩:=x;exact⟨mA,⟨od,es,ep,k _ _ (.inl rfl) e,c⟩,r⟩
 |rng lo hi=>obtain⟨t,u,v,e⟩:=x;exact⟨t,u,v,k _ _ (.inl rfl) e⟩
 |frz ob u ih=>obtain⟨e,q⟩:=x;exact⟨k _ _ (.inl rfl) e,ih q⟩
 |tbl ps=>
  have e:h.get? a=some { cls:=.none,data:=.fields ps }:=x;show h'.get? a=some { cls:=.none,data:=.fields ps };exact k a _ (.inl rfl) e
 |met f y=>
  have e:h.get? a=some (PySem.W.methodObj (.ref f) (.ref y)):=x;show h'.get? a=some (PySem.W.methodObj (.ref f) (.ref y));exact k a _ (.inl rfl) e
 |ext φ=>obtain⟨p,⟨o,e⟩,st⟩:=x;exact⟨st _ _ p λo q=>k _ _ (.inl rfl) q,⟨o,k _ _ (.inl rfl) e⟩,st⟩
theorem HOk.lt(x:HOk P w H h)(e:H a=some o):a<h.objs.size:=(x a o e).lt
def HOk.fresh(x:HOk P w H h)(e:h.objs.size<=a):H a=none:=by
 cases q:H a with
 |none=>rfl
 |some u=>exact absurd (lt_of_lt_of_le (x.lt q) e) (lt_irrefl _)
def HOk.kept(x:HOk P w H h)(k:∀b u,h.get? b=some u->h'.get? b=some u):HOk P w H h':=λa o e=>
 (x a o e).stay (λb u _ q=>k b u q) (λ_ q=>q) λ_ _ q=>q
def HOk.laid(x:HOk P w H h)(k:∀b u,h.get? b=some u->h'.get? b=some u)(hp:h.objs.size<=a)(new:ObjOk P w (upd H a o) h' a o):HOk P w (upd H a o) h':=λb u e=>by
 have hn:=x.fresh hp;by_cases hb:b=a
 .subst hb;rw[Ae]at e;cases e;exact new
 .rw[AU hb]at e;exact(x b u e).stay (λc v _ q=>k c v q) (λc q=>by rw[AU (As q hn)];exact q) λc xs q=>by rw[AU (As q hn)];exact q
end
def Rd(H:Hp)(a:Addr)(u:HO):Prop:=H a=some u∨∃o,H a=some (.frz o u)
def Rd.ok{P:Program}{w:World}{H:Hp}{h:Heap}{a:Addr}{u:HO}(r:Rd H a u)(x:HOk P w H h):ObjOk P w H h a u:=by
 rcases r with r|⟨o,r⟩
 .exact x a u r
 .obtain⟨_,q⟩:=x a _ r;exact q
def Mut:Option HO->Prop
 |some (.lst _)=>True
 |some (.dK _)=>True
 |some (.dT _)=>True
 |some (.set _ _)=>True
 |some (.ins _ _ _)=>True
 |some (.ext _)=>True
 |_=>False
section
variable{P:Program}{w:World}{H:Hp}{h h':Heap}{x e:Addr}{o':HO}
def HOk.write(ok:HOk P w H h)(mu:Mut (H x))(he:e=x∨H e=some (.own x))(k:∀b u,b≠e->h.get? b=some u->h'.get? b=some u)(heo:∃u,h'.get? e=some u)
 (new:ObjOk P w (upd H x o') h' x o'):HOk P w (upd H x o') h':=λb u q=>by
 have nown:∀c y,H c=some (.own y)->c≠x:=λc y r z=>by subst z;rw[r]at mu;exact mu
 have ntup:∀c xs,H c=some (.tup xs)->c≠x:=λc xs r z=>by subst z;rw[r]at mu;exact mu
 by_cases hb:b=x
 .subst hb;rw[Ae]at q;cases q;exact new
 .rw[AU hb]at q;by_cases hbe:b=e
  .have q':H b=some (.own x):=by
    rcases he with z|z
    .exact absurd (hbe.trans z) hb
    .rw[hbe];exact z
   rw[q]at q';cases q';obtain⟨v,hv⟩:=heo;exact⟨v,by rw[hbe];exact hv⟩
  .refine(ok b u q).stay (λc v hc r=>k c v ?_ r) (λc r=>by rw[AU (nown c b r)];exact r) λc xs r=>by rw[AU (ntup c xs r)];exact r
   rcases hc with rfl|hc
   .exact hbe
   .rintro rfl;rcases he with z|z
    .exact nown c b hc z
    .rw[hc]at z;cases z;exact hb rfl
end
structure Un(fs ex:List Addr)(H H':Hp)(h h':Heap):Prop where
 keep:∀b o,h.get? b=some o->H b=none->b∉fs->b∉ex->h'.get? b=some o
 slot:∀b o,h.get? b=some o->H b=none->b∈fs->b∉ex->∃sl,h'.get? b=some { o with slots:=sl }
 free:∀b o,h.get? b=some o->H b=none->b∉ex->H' b=none
 there:∀b o,h.get? b=some o->b∉ex->∃o',h'.get? b=some o'
 tups:∀b xs,H b=some (.tup xs)->H' b=some (.tup xs)
 frzs:∀b o u,H b=some (.frz o u)->H' b=some (.frz o u)
 tbls:∀b ps,H b=some (.tbl ps)->∃more,H' b=some (.tbl (ps++more))
section
variable{fs fs' ex ex':List Addr}{H H1 H2:Hp}{h h1 h2 h':Heap}{a x e:Addr}{o:HO}
def Un.any(u:Un fs ex H H1 h h1){b:Addr}{ob:Obj}(q:h.get? b=some ob)(n:H b=none)(hx:b∉ex):∃sl,h1.get? b=some { ob with slots:=sl }:=by
 by_cases hb:b∈fs
 .exact u.slot b ob q n hb hx
 .exact⟨ob.slots,u.keep b ob q n hb hx⟩
def Un.kept(k:∀b u,h.get? b=some u->h'.get? b=some u):Un fs ex H H h h':=
 ⟨λb ob q _ _ _=>k b ob q,λb ob q _ _ _=>⟨ob.slots,k b ob q⟩,λ_ _ _ n _=>n,λb ob q _=>⟨ob,k b ob q⟩,λ_ _ q=>q,λ_ _ _ q=>q,λ_ ps q=>⟨#[],by rw[q];simp⟩⟩
def Un.refl:Un fs ex H H h h:=Un.kept λ_ _ q=>q
def Un.laid(k:∀b u,h.get? b=some u->h'.get? b=some u)(hp:h.objs.size<=a)(hn:H a=none):Un fs ex H (upd H a o) h h' where
 keep:=λb u q _ _ _=>k b u q
 slot:=λb u q _ _ _=>⟨u.slots,k b u q⟩
 free:=λb u q n _=>by rw[AU (ne_of_lt (lt_of_lt_of_le (Heap.lt_size q) hp))];exact n
 there:=λb u q _=>⟨u,k b u q⟩
 tups:=λb xs q=>by rw[AU (As q hn)];exact q
 frzs:=λb u xs q=>by rw[AU (As q hn)];exact q
 tbls:=λb ps q=>⟨#[],by rw[AU (As q hn),q];simp⟩
def Un.write(mu:Mut (H x))(he:e=x∨H e=some (.own x))(k:∀b u,b≠e->h.get? b=some u->h'.get? b=some u)(heo:∃u,h'.get? e=some u):Un fs ex H (upd H x o) h h':=by
 have hx:∀b,H b=none->b≠x:=λb n z=>by subst z;rw[n]at mu;exact mu
 have hb:∀b,H b=none->b≠e:=λb n z=>by
  subst z;rcases he with r|r
  .exact hx b n r
  .rw[n]at r;cases r
 have hm:∀b u,H b=some u->¬ Mut (some u)->b≠x:=λb u q nm z=>by subst z;rw[q]at mu;exact nm mu
 refine⟨λb u q n _ _=>k b u (hb b n) q,λb u q n _ _=>⟨u.slots,k b u (hb b n) q⟩,λb u q n _=>by rw[AU (hx b n)];exact n,λb u q _=>?_,
  λb xs q=>by rw[AU (hm b _ q λz=>z)];exact q,λb u xs q=>by rw[AU (hm b _ q λz=>z)];exact q,λb ps q=>⟨#[],by rw[AU (hm b _ q λz=>z),q];simp⟩⟩
 by_cases hbe:b=e
 .subst hbe;exact heo
 .exact⟨u,k b u hbe q⟩
end
def trk(h:Heap)(H:Hp):List Addr:=(List.range h.objs.size).filter λa=>(H a).isSome
def ES(h:Heap)(H:Hp):Heap:=PySem.W.hideAll h (trk h H)
def LU(h:Heap)(H:Hp):(ES h H).objs.size=h.objs.size:=PySem.W.hideAll_size _ _
def N7{h:Heap}{H:Hp}{b:Addr}{o:Obj}(e:h.get? b=some o)(n:H b=none):(ES h H).get? b=some o:=
 PySem.W.hideAll_get _ e λhm=>by
  have q:(H b).isSome=true:=(List.mem_filter.mp hm).2;rw[n]at q;simp at q
def Q2{h:Heap}{H:Hp}{b:Addr}{o:Obj}(e:(ES h H).get? b=some o):h.get? b=some o/\H b=none:=by
 have e':h.get? b=some o:=PySem.W.of_hideAll (trk h H) e;refine⟨e',?_⟩;cases q:H b with
 |none=>rfl
 |some x=>
  have hm:b∈trk h H:=List.mem_filter.mpr ⟨List.mem_range.mpr (Heap.lt_size e'),by simp[q]⟩;have z:(ES h H).get? b=none:=PySem.W.hideAll_none (trk h H) hm;rw[z]at e;cases e
def Qe(g h:Heap)(L:Addr):List (Addr×Obj):=(List.range h.objs.size).filterMap λa=>if a=L∨(g.get? a).isSome=true then none else(h.get? a).map λo=>(a,o)
def rest(g h:Heap)(L d:Addr):List (Addr×Obj):=(Qe g h L).filter λp=>decide (p.1≠d)
structure Mod(K:PySem.W.Frag)(mg:Str->Option Value)(base:Heap):Prop where
 kin:K.In base
 glob:base.Ns mainGlobals mg
 blt:∃mb,base.Ns builtinsNs mb/\∀x:Str,x≠"__name__"->mb x=bootBuiltins x
 nolimit:base.NoLimit
structure Cx where
 prog:Program
 w:World
 K:PySem.W.Frag
 mg:Str->Option Value
 base:Heap
 A:Around
 N:List Str
 s₀:Shared
 H₀:Hp
 env:Env
 outer:List Env
 stack:List Env
 ex:List Addr
 fn:Str->Bool
 calm:Bool
 pn:List (Addr×Obj)
 xe:Value->Shared->Prop
def frs(l:List Env):List Addr:=l.filterMap (·.frame)
abbrev Cx.fs(X:Cx):List Addr:=frs X.outer
def Vis(sc:Scope)(x:Str):Prop:=sc.names.lookup x=some .local∨sc.names.lookup x=some .cell∨sc.names.lookup x=some .free
def Loc(sc:Scope)(x:Str):Prop:=sc.names.lookup x=some .local∨sc.names.lookup x=some .cell
def Vk(env:Env)(h:Heap)(m:Str->Option Value)(x:Str)(u:Value):Prop:=
 (env.kindOf x=some .local/\m x=some u)∨((env.kindOf x=some .cell∨env.kindOf x=some .free)/\∃c,env.cells.lookup x=some c/\h.IsCell c (some u))
structure Cx.Ok(X:Cx):Prop where
 mod:Mod X.K X.mg X.base
 kind:X.env.scope.kind=.function
 glob:X.env.globals=mainGlobals
 blt:X.env.builtins=builtinsNs
 above:X.s₀.heap.objs.size<=X.env.locals
 inj:∀x y c,X.env.cells.lookup x=some c->X.env.cells.lookup y=some c->x=y
 has:∀x,(X.env.kindOf x=some .cell∨X.env.kindOf x=some .free)->∃c,X.env.cells.lookup x=some c
 cab:∀x c,X.fn x=true->X.env.cells.lookup x=some c->X.s₀.heap.objs.size<=c
 hd:X.calm=true->X.A.handled=none
 frames:X.A.frames=some X.stack
 stk:X.stack=X.outer∨(X.stack=X.env::X.outer/\X.env.frame=some X.env.locals)
 exf:∀b∈X.ex,b≠X.env.locals/\∀x c,X.env.cells.lookup x=some c->c≠b
 bs:∀b o,X.base.get? b=some o->X.s₀.heap.get? b=some o/\X.H₀ b=none
 bsz:X.base.objs.size<=X.s₀.heap.objs.size
 noex:∀b o,X.base.get? b=some o->b∉X.ex
 exfs:∀b∈X.ex,b∉X.fs
 funs:X.s₀.heap.FunFrames X.base X.outer
 frf:∀b∈X.fs,X.H₀ b=none
structure Inv(X:Cx)(pins:List (Addr×Obj))(σ:List (Option V))(H:Hp)(s:Shared):Prop where
 ok:X.Ok
 os:s.os=X.s₀.os
 bare:AllBare s.gens
 base:Un X.fs X.ex X.H₀ H X.s₀.heap s.heap
 loc:∃m,s.heap.Ns X.env.locals m/\∀(i:Nat) (x:Str) (v:V),X.N[i]?=some x->σ[i]?=some (some v)->Vis X.env.scope x->∃u,RelV v u/\Vk X.env s.heap m x u
 cell:∀x c,X.env.cells.lookup x=some c->∃v,s.heap.IsCell c v
 free:H X.env.locals=none
 freeC:∀x c,X.env.cells.lookup x=some c->H c=none
 pin:∀p∈X.pn++pins,s.heap.get? p.1=some p.2/\H p.1=none/\p.1≠X.env.locals/\p.1∉X.fs/\∀v,p.2.data≠.cell v
 hok:HOk X.prog X.w H s.heap
 len:σ.length=X.N.length
section
variable{X:Cx}{pins:List (Addr×Obj)}{σ:List (Option V)}{H H':Hp}{s:Shared}{h':Heap}
def Cx.Ok.nofr(ok:X.Ok){b:Addr}{o:Obj}(e:X.base.get? b=some o):b∉X.fs:=λhb=>by
 have:=(ok.funs.mem hb).1;rw[e]at this;cases this
theorem Inv.bs(I:Inv X pins σ H s):∀b o,X.base.get? b=some o->s.heap.get? b=some o/\H b=none:=λb o e=>
 ⟨I.base.keep b o (I.ok.bs b o e).1 (I.ok.bs b o e).2 (I.ok.nofr e) (I.ok.noex b o e),I.base.free b o (I.ok.bs b o e).1 (I.ok.bs b o e).2 (I.ok.noex b o e)⟩
def Inv.bk(I:Inv X pins σ H s):∀b o,X.base.get? b=some o->s.heap.get? b=some o:=λb o e=>(I.bs b o e).1
theorem Inv.mod(I:Inv X pins σ H s):Mod X.K X.mg X.base:=I.ok.mod
def Inv.kIn(I:Inv X pins σ H s):X.K.In s.heap:=I.ok.mod.kin.keeps I.bk
theorem Inv.lt(I:Inv X pins σ H s):X.env.locals<s.heap.objs.size:=let ⟨_,hn,_⟩:=I.loc;hn.lt
def Inv.sz(I:Inv X pins σ H s):X.s₀.heap.objs.size<=s.heap.objs.size:=le_trans I.ok.above (le_of_lt I.lt)
def Inv.nofs(I:Inv X pins σ H s){a:Addr}(h:s.heap.objs.size<=a):a∉X.fs:=λhb=>by
 obtain⟨_,o,ho,_⟩:=I.ok.funs.mem hb;exact absurd (lt_of_lt_of_le (Heap.lt_size ho) (le_trans I.sz h)) (lt_irrefl _)
def Inv.cne(I:Inv X pins σ H s):∀x c,X.env.cells.lookup x=some c->c≠X.env.locals:=λx c e z=>by
 obtain⟨v,o,ho,hd⟩:=I.cell x c e;obtain⟨m,⟨o',es,ep,ho',hd',_⟩,_⟩:=I.loc;rw[z,ho']at ho;cases ho;rw[hd']at hd;cases hd
theorem Inv.funs(I:Inv X pins σ H s):s.heap.FunFrames X.base X.outer:=by
 have all:∀(l:List Env),(∀b∈frs l,b∈X.fs)->X.s₀.heap.FunFrames X.base l->s.heap.FunFrames X.base l:=by
  intro l
  induction l with
  |nil=>intro _ _;trivial
  |cons env r ih=>
   intro hs hl;obtain⟨hk,⟨L,o,hf,hn,ho,hd⟩,hr⟩:=hl;have hL:L∈X.fs:=hs L (by unfold frs;rw[filterMap_cons,hf];exact mem_cons_self);obtain⟨sl,e⟩:=I.base.slot L o ho (I.ok.frf L hL) hL λz=>I.ok.exfs L z hL;exact⟨hk,⟨L,_,hf,hn,e,hd⟩,ih (λb hb=>hs b (by unfold frs;rw[filterMap_cons,hf];exact mem_cons_of_mem _ hb)) hr⟩
 exact all X.outer (λ_ hb=>hb) I.ok.funs
theorem Inv.stack(I:Inv X pins σ H s):s.heap.FunFrames X.base X.stack:=by
 rcases I.ok.stk with e|⟨e,hf⟩
 .rw[e];exact I.funs
 .rw[e];obtain⟨m,hn,_⟩:=I.loc;refine .cons (by rw[I.ok.kind];decide) hf hn ?_ I.funs;exact Heap.get?_none_of_le (le_trans I.ok.bsz I.ok.above)
def Inv.stkSub(I:Inv X pins σ H s):∀b∈frs X.stack,b∈X.env.locals::X.fs:=λb hb=>by
 rcases I.ok.stk with e|⟨e,hf⟩
 .rw[e]at hb;exact mem_cons_of_mem _ hb
 .rw[e]at hb;unfold frs at hb;rw[filterMap_cons,hf]at hb;exact hb
def Inv.stkFree(I:Inv X pins σ H s):∀b∈frs X.stack,H b=none:=λb hb=>by
 rcases mem_cons.mp (I.stkSub b hb)with e|hb
 .rw[e];exact I.free
 .obtain⟨_,o,ho,_⟩:=I.ok.funs.mem hb;exact I.base.free b o ho (I.ok.frf b hb) λz=>I.ok.exfs b z hb
def Inv.step{g':Array GenState}{t':Nat}{d':Drawn}{ch:List Addr}(I:Inv X pins σ H s)
 (hch:∀b∈ch,(b∈X.ex∨X.s₀.heap.objs.size<=b)/\b≠X.env.locals/\(∀x c,X.env.cells.lookup x=some c->c≠b)/\∀p∈X.pn++pins,p.1≠b)
 (keep:∀b o,b≠X.env.locals->b∉X.fs->b∉ch->s.heap.get? b=some o->H b=none->h'.get? b=some o)
 (slot:∀b o,b≠X.env.locals->b∈X.fs->b∉ch->s.heap.get? b=some o->H b=none->∃sl,h'.get? b=some { o with slots:=sl }) (free:∀b o,b∉ch->s.heap.get? b=some o->H b=none->H' b=none)
 (there:∀b o,b∉ch->s.heap.get? b=some o->∃o',h'.get? b=some o')
 (tups:∀b xs,H b=some (.tup xs)->H' b=some (.tup xs)) (frzs:∀b o u,H b=some (.frz o u)->H' b=some (.frz o u)) (tbls:∀b ps,H b=some (.tbl ps)->∃more,H' b=some (.tbl (ps++more)))
 (ns:∀m,s.heap.Ns X.env.locals m->h'.Ns X.env.locals m) (hok:HOk X.prog X.w H' h') (hg:AllBare g'):
 Inv X pins σ H' { s with heap:=h',gens:=g',drawn:=d',toks:=t' }:=by
 have neL:∀b o,X.s₀.heap.get? b=some o->b≠X.env.locals:=λb o e=>ne_of_lt (lt_of_lt_of_le (Heap.lt_size e) I.ok.above);have neC:∀b o,X.s₀.heap.get? b=some o->b∉X.ex->b∉ch:=λb o e hx hb=>by
  rcases(hch b hb).1 with z|z
  .exact hx z
  .exact absurd (lt_of_lt_of_le (Heap.lt_size e) z) (lt_irrefl _)
 have cellK:∀x c,X.env.cells.lookup x=some c->∀v,s.heap.IsCell c v->h'.IsCell c v:=λx c e v ⟨o,ho,hd⟩=>by
  have nch:c∉ch:=λz=>(hch c z).2.2.1 x c e rfl;by_cases hc:c∈X.fs
  .obtain⟨sl,q⟩:=slot c o (I.cne x c e) hc nch ho (I.freeC x c e);exact⟨_,q,hd⟩
  .exact⟨o,keep c o (I.cne x c e) hc nch ho (I.freeC x c e),hd⟩
 refine⟨I.ok,I.os,hg,⟨λb o e n hb hx=>?_,λb o e n hb hx=>?_,λb o e n hx=>?_,λb o e hx=>?_,λb xs e=>tups b xs (I.base.tups b xs e),λb o xs e=>frzs b o xs (I.base.frzs b o xs e),λb ps e=>?_⟩,?_,λx c e=>?_,?_,λx c e=>?_,λp hp=>?_,hok,I.len⟩
 .exact keep b o (neL b o e) hb (neC b o e hx) (I.base.keep b o e n hb hx) (I.base.free b o e n hx)
 .obtain⟨sl,e1⟩:=I.base.slot b o e n hb hx;obtain⟨sl',e2⟩:=slot b _ (neL b o e) hb (neC b o e hx) e1 (I.base.free b o e n hx);exact⟨sl',e2⟩
 .obtain⟨o',e1⟩:=I.base.there b o e hx;exact free b o' (neC b o e hx) e1 (I.base.free b o e n hx)
 .obtain⟨o',e1⟩:=I.base.there b o e hx;exact there b o' (neC b o e hx) e1
 .obtain⟨m1,e1⟩:=I.base.tbls b ps e;obtain⟨m2,e2⟩:=tbls b _ e1;exact⟨m1++m2,by rw[e2,Array.append_assoc]⟩
 .obtain⟨m,hn,hl⟩:=I.loc;refine⟨m,ns m hn,λi x v e1 e2 e3=>?_⟩;obtain⟨u,r,l⟩:=hl i x v e1 e2 e3;refine⟨u,r,?_⟩;rcases l with l|⟨k,c,e,z⟩
  .exact .inl l
  .exact .inr ⟨k,c,e,cellK x c e _ z⟩
 .obtain⟨v,z⟩:=I.cell x c e;exact⟨v,cellK x c e v z⟩
 .obtain⟨m,⟨o,_,_,ho,_⟩,_⟩:=I.loc;exact free _ o (λz=>(hch _ z).2.1 rfl) ho I.free
 .obtain⟨v,o,ho,hd⟩:=I.cell x c e;exact free c o (λz=>(hch c z).2.2.1 x c e rfl) ho (I.freeC x c e)
 .obtain⟨e,n,ne,nf,d⟩:=I.pin p hp;have nch:p.1∉ch:=λz=>(hch p.1 z).2.2.2 p hp rfl;exact⟨keep p.1 p.2 ne nf nch e n,free p.1 p.2 nch e n,ne,nf,d⟩
def Inv.un{t':Nat}(I:Inv X pins σ H s)(u:Un X.fs [] H H' s.heap h')(hok:HOk X.prog X.w H' h'):Inv X pins σ H' { s with heap:=h',toks:=t' }:=by
 obtain⟨m,⟨o,es,ep,ho,r⟩,_⟩:=id I.loc;obtain⟨sl,hL⟩:=u.any ho I.free (by simp);exact I.step (g':=s.gens) (d':=s.drawn) (ch:=[]) (λ_ z=>nomatch z) (λb o _ hb _ e n=>u.keep b o e n hb (by simp)) (λb o _ hb _ e n=>u.slot b o e n hb (by simp)) (λb o _ e n=>u.free b o e n (by simp)) (λb o _ e=>u.there b o e (by simp)) u.tups u.frzs u.tbls (λm' hm=>by
  obtain⟨o',es',ep',ho',r'⟩:=hm;rw[ho]at ho';cases ho';exact⟨_,es',ep',hL,r'⟩) hok I.bare
def Inv.call{g':Array GenState}{t':Nat}{d':Drawn}{ch:List Addr}(I:Inv X pins σ H s)(u:Un (frs X.stack) ch H H' s.heap h')(hok:HOk X.prog X.w H' h')(hg:AllBare g')
 (hch:∀b∈ch,(b∈X.ex∨X.s₀.heap.objs.size<=b)/\b≠X.env.locals/\(∀x c,X.env.cells.lookup x=some c->c≠b)/\∀p∈X.pn++pins,p.1≠b):
 Inv X pins σ H' { s with heap:=h',gens:=g',drawn:=d',toks:=t' }:=by
 obtain⟨m,⟨o,es,ep,ho,r⟩,_⟩:=id I.loc;obtain⟨sl,hL⟩:=u.any ho I.free λz=>(hch _ z).2.1 rfl;exact I.step (ch:=ch) hch (λb o hL hb hc e n=>u.keep b o e n (λz=>(mem_cons.mp (I.stkSub b z)).elim hL hb) hc) (λb o _ _ hc e n=>u.any e n hc) (λb o hc e n=>u.free b o e n hc) (λb o hc e=>u.there b o e hc) u.tups u.frzs u.tbls (λm' hm=>by
  obtain⟨o',es',ep',ho',r'⟩:=hm;rw[ho]at ho';cases ho';exact⟨_,es',ep',hL,r'⟩) hok hg
def Inv.turned{t':Nat}{it:Addr}(I:Inv X pins σ H s)(k:∀b o,b≠it->s.heap.get? b=some o->h'.get? b=some o)(hn:H it=none)(hL:it≠X.env.locals)
 (h1:it∈X.ex∨X.s₀.heap.objs.size<=it) (h2:∀x c,X.env.cells.lookup x=some c->c≠it) (h3:∀p∈X.pn++pins,p.1≠it):Inv X pins σ H { s with heap:=h',toks:=t' }:=by
 have nit:∀b u,H b=some u->b≠it:=λb u e z=>by rw[z,hn]at e;cases e
 refine I.step (g':=s.gens) (d':=s.drawn) (ch:=[it]) (λb hb=>?_) (λb o _ _ hc e _=>k b o (λz=>hc (by simp[z])) e) (λb o _ _ hc e _=>⟨o.slots,k b o (λz=>hc (by simp[z])) e⟩) (λ_ _ _ _ n=>n)
  (λb o hc e=>⟨o,k b o (λz=>hc (by simp[z])) e⟩) (λ_ _ e=>e) (λ_ _ _ e=>e) (λb ps e=>⟨#[],by rw[e];simp⟩) (λm hm=>?_) (λb u e=>?_) I.bare
 .have e:b=it:=by simpa using hb
  subst e;exact⟨h1,hL,h2,h3⟩
 .obtain⟨o,es,ep,ho,r⟩:=hm;exact⟨o,es,ep,k _ o (Ne.symm hL) ho,r⟩
 .refine(I.hok b u e).stay (λc v hc q=>k c v ?_ q) (λ_ q=>q) λ_ _ q=>q;rcases hc with z|z
  .rw[z];exact nit b u e
  .exact nit c _ z
def Inv.tok(I:Inv X pins σ H s)(t:Nat):Inv X pins σ H { s with toks:=t }:=I.un (h':=s.heap) (t':=t) Un.refl I.hok
theorem Inv.kept{t':Nat}(I:Inv X pins σ H s)(k:∀b u,s.heap.get? b=some u->h'.get? b=some u):Inv X pins σ H { s with heap:=h',toks:=t' }:=I.un (Un.kept k) (I.hok.kept k)
theorem Inv.laid{a:Addr}{o:HO}{t':Nat}(I:Inv X pins σ H s)(k:∀b u,s.heap.get? b=some u->h'.get? b=some u)(hp:s.heap.objs.size<=a)(new:ObjOk X.prog X.w (upd H a o) h' a o):
 Inv X pins σ (upd H a o) { s with heap:=h',toks:=t' }:=I.un (Un.laid k hp (I.hok.fresh hp)) (I.hok.laid k hp new)
theorem Inv.write{x e:Addr}{o:HO}{t':Nat}(I:Inv X pins σ H s)(mu:Mut (H x))(he:e=x∨H e=some (.own x))(k:∀b u,b≠e->s.heap.get? b=some u->h'.get? b=some u)(heo:∃u,h'.get? e=some u)
 (new:ObjOk X.prog X.w (upd H x o) h' x o):Inv X pins σ (upd H x o) { s with heap:=h',toks:=t' }:=I.un (Un.write mu he k heo) (I.hok.write mu he k heo new)
def Inv.pins_of{pins':List (Addr×Obj)}(I:Inv X pins σ H s)(h:∀p∈pins',s.heap.get? p.1=some p.2/\H p.1=none/\p.1≠X.env.locals/\p.1∉X.fs/\∀v,p.2.data≠.cell v):Inv X pins' σ H s:=
 ⟨I.ok,I.os,I.bare,I.base,I.loc,I.cell,I.free,I.freeC,λp hp=>(mem_append.mp hp).elim (λz=>I.pin p (List.mem_append_left _ z)) (h p),I.hok,I.len⟩
def IZ{N:List Str}(hN:N.Nodup){i j:Nat}{x:Str}(a:N[i]?=some x)(b:N[j]?=some x):i=j:=by
 obtain⟨h1,e1⟩:=List.getElem?_eq_some_iff.mp a;obtain⟨h2,e2⟩:=List.getElem?_eq_some_iff.mp b;exact(List.getElem_inj hN).mp (e1.trans e2.symm)
def HE{M:Model}{A:Around}{E:Value->Shared->Prop}{i:Nat}{x:Str}{v:V}{u:Value}{Q:Unit->Shared->Prop}(I:Inv X pins σ H s)(hN:X.N.Nodup)(hi:X.N[i]?=some x)(hx:Loc X.env.scope x)(r:RelV v u)
 (h:∀s',Inv X pins (σ.set i (some v)) H s'->(∃a,Heap.SameBut a s.heap s'.heap/\(a=X.env.locals∨X.env.cells.lookup x=some a))->Q () s') (hf:X.fn x=true∨X.env.scope.names.lookup x=some .local:=by first|exact .inl rfl|exact .inr rfl|assumption):wpAny M A (storeName X.env x u) Q E s:=by
 obtain⟨m,hn,hl⟩:=id I.loc;have hcls:(X.env.scope.kind==.class||(X.env.scope.kind==.module&&X.env.locals != X.env.globals))=false:=by rw[I.ok.kind];rfl
 have hiσ:i<σ.length:=by rw[I.len];exact(List.getElem?_eq_some_iff.mp hi).1
 have cne:=I.cne;have tracked:∀{a:Addr} {h':Heap},(∃o,s.heap.get? a=some o/\H a=none)->Heap.SameBut a s.heap h'->HOk X.prog X.w H h':=λ{a h'} ha hs b ob e=>by
  obtain⟨_,_,hfree⟩:=ha;refine(I.hok b ob e).stay (λc w' hc q=>(hs.2 c ?_).trans q) (λ_ q=>q) λ_ _ q=>q;rintro rfl;rcases hc with rfl|hc
  .rw[hfree]at e;cases e
  .rw[hfree]at hc;cases hc
 rcases hx with hk|hk
 .refine wpAny_storeName_local hk hn (λh' hn' hs=>?_) hcls;obtain⟨oL,_,_,hoL,_⟩:=id hn;refine h _ ⟨I.ok,I.os,I.bare,⟨λb o e n hb hx=>?_,λb o e n hb hx=>?_,I.base.free,λb o e hx=>?_,I.base.tups,I.base.frzs,I.base.tbls⟩,⟨_,hn',λj y v' e1 e2 e3=>?_⟩,λy c e=>?_,I.free,I.freeC,λp hp=>?_,tracked ⟨oL,hoL,I.free⟩ hs,by simpa using I.len⟩ ⟨_,hs,.inl rfl⟩
  .exact(hs.2 b (ne_of_lt (lt_of_lt_of_le (Heap.lt_size e) I.ok.above))).trans (I.base.keep b o e n hb hx)
  .obtain⟨sl,e1⟩:=I.base.slot b o e n hb hx;exact⟨sl,(hs.2 b (ne_of_lt (lt_of_lt_of_le (Heap.lt_size e) I.ok.above))).trans e1⟩
  .obtain⟨o',e1⟩:=I.base.there b o e hx;exact⟨o',(hs.2 b (ne_of_lt (lt_of_lt_of_le (Heap.lt_size e) I.ok.above))).trans e1⟩
  .by_cases hj:j=i
   .subst hj;rw[hi]at e1;cases e1;rw[List.getElem?_set_self hiσ]at e2;cases e2;exact⟨u,r,.inl ⟨hk,by simp⟩⟩
   .rw[List.getElem?_set_ne (Ne.symm hj)]at e2;obtain⟨u',r',q⟩:=hl j y v' e1 e2 e3;refine⟨u',r',?_⟩;rcases q with⟨k,e⟩|⟨k,c,e,z⟩
    .refine .inl ⟨k,?_⟩;have:y≠x:=λe=>hj (IZ hN e1 (e ▸ hi));simp[this,e]
    .exact .inr ⟨k,c,e,z.sameBut hs (cne y c e)⟩
  .obtain⟨w',z⟩:=I.cell y c e;exact⟨w',z.sameBut hs (cne y c e)⟩
  .obtain⟨e,n,ne,nf,d⟩:=I.pin p hp;exact⟨(hs.2 p.1 ne).trans e,n,ne,nf,d⟩
 .have hfn:X.fn x=true:=by
   rcases hf with z|z
   .exact z
   .rw[z]at hk;cases hk
  obtain⟨c,hc⟩:=I.ok.has x (.inl hk);obtain⟨w',z⟩:=I.cell x c hc;refine wpAny_storeName_cell I.ok.kind hk hc z (λh' hc' hs=>?_);obtain⟨oc,hoc,hocd⟩:=id z;refine h { s with heap:=h' } ⟨I.ok,I.os,I.bare,⟨λb o e n hb hx=>?_,λb o e n hb hx=>?_,I.base.free,λb o e hx=>?_,I.base.tups,I.base.frzs,I.base.tbls⟩,⟨m,hn.sameBut hs (Ne.symm (cne x c hc)),λj y v' e1 e2 e3=>?_⟩,λy c' e=>?_,I.free,I.freeC,λp hp=>?_,tracked ⟨oc,hoc,I.freeC x c hc⟩ hs,by simpa using I.len⟩ ⟨c,hs,.inr hc⟩
  .exact(hs.2 b (ne_of_lt (lt_of_lt_of_le (Heap.lt_size e) (I.ok.cab x c hfn hc)))).trans (I.base.keep b o e n hb hx)
  .obtain⟨sl,e1⟩:=I.base.slot b o e n hb hx;exact⟨sl,(hs.2 b (ne_of_lt (lt_of_lt_of_le (Heap.lt_size e) (I.ok.cab x c hfn hc)))).trans e1⟩
  .obtain⟨o',e1⟩:=I.base.there b o e hx;exact⟨o',(hs.2 b (ne_of_lt (lt_of_lt_of_le (Heap.lt_size e) (I.ok.cab x c hfn hc)))).trans e1⟩
  .by_cases hj:j=i
   .subst hj;rw[hi]at e1;cases e1;rw[List.getElem?_set_self hiσ]at e2;cases e2;exact⟨u,r,.inr ⟨.inl hk,c,hc,hc'⟩⟩
   .rw[List.getElem?_set_ne (Ne.symm hj)]at e2;obtain⟨u',r',q⟩:=hl j y v' e1 e2 e3;refine⟨u',r',?_⟩;rcases q with q|⟨k,c',e,z'⟩
    .exact .inl q
    .refine .inr ⟨k,c',e,z'.sameBut hs ?_⟩;rintro rfl;exact hj (IZ hN e1 (I.ok.inj _ _ _ e hc ▸ hi))
  .by_cases hcc:c'=c
   .subst hcc;exact⟨_,hc'⟩
   .obtain⟨w2,z2⟩:=I.cell y c' e;exact⟨w2,z2.sameBut hs hcc⟩
  .obtain⟨e,n,ne,nf,d⟩:=I.pin p hp;refine⟨(hs.2 p.1 ?_).trans e,n,ne,nf,d⟩;intro q;rw[q,hoc]at e;have q':oc=p.2:=Option.some.inj e;exact d w' (by rw[<- q'];exact hocd)
def CP{M:Model}{A:Around}{E:Value->Shared->Prop}{i:Nat}{x:Str}{v:V}{u:Value}{Q:Unit->Shared->Prop}(I:Inv X pins σ H s)(hN:X.N.Nodup)(hi:X.N[i]?=some x)(hx:Loc X.env.scope x)(r:RelV v u)
 (h:∀s',Inv X pins (σ.set i (some v)) H s'->Q () s') (hf:X.fn x=true∨X.env.scope.names.lookup x=some .local:=by first|exact .inl rfl|exact .inr rfl|assumption):wpAny M A (storeName X.env x u) Q E s:=
 HE I hN hi hx r (λs' I' _=>h s' I') hf
def Inv.call'{s':Shared}{ch:List Addr}(I:Inv X pins σ H s)(ho:s'.os=s.os)(u:Un (frs X.stack) ch H H' s.heap s'.heap)(hok:HOk X.prog X.w H' s'.heap)(hg:AllBare s'.gens)
 (hch:∀b∈ch,(b∈X.ex∨X.s₀.heap.objs.size<=b)/\b≠X.env.locals/\(∀x c,X.env.cells.lookup x=some c->c≠b)/\∀p∈X.pn++pins,p.1≠b):Inv X pins σ H' s':=by
 obtain⟨h',g',d',t',o'⟩:=s';have e:o'=s.os:=ho;subst e;exact I.call (g':=g') (t':=t') (d':=d') u hok hg hch
end
abbrev XK:=Value->Option Addr->Hp->Prop
abbrev St:=List (Option V)
abbrev VK:=V->Hp->Prop
abbrev TE:=St->Hp->VK->Prop
abbrev TT:=St->Hp->(Bool->Hp->Prop)->Prop
abbrev TA:=St->Hp->(List V->Hp->Prop)->Prop
structure Ends where
 nx:St->Hp->Prop
 rt:VK
 bk:St->Hp->Prop:=λ_ _=>False
 ct:St->Hp->Prop:=λ_ _=>False
abbrev TS:=Ends->St->Hp->Prop
def EP(X:Cx)(pins:List (Addr×Obj))(σ:St)(Q:VK)(u:Value)(s':Shared):Prop:=∃v H',Inv X pins σ H' s'/\RelV v u/\Q v H'
def TP(X:Cx)(pins:List (Addr×Obj))(σ:St)(Q:Bool->Hp->Prop)(b:Bool)(s':Shared):Prop:=∃H',Inv X pins σ H' s'/\Q b H'
def AP(X:Cx)(pins:List (Addr×Obj))(σ:St)(Q:List V->Hp->Prop)(us:List Value)(s':Shared):Prop:=∃vs H',Inv X pins σ H' s'/\Vals vs us/\Q vs H'
def SP(X:Cx)(pins:List (Addr×Obj))(D:Ends)(f:Flow)(s':Shared):Prop:=
 match f with
 |.next=>∃σ' H',Inv X pins σ' H' s'/\D.nx σ' H'
 |.brk=>∃σ' H',Inv X pins σ' H' s'/\D.bk σ' H'
 |.cont=>∃σ' H',Inv X pins σ' H' s'/\D.ct σ' H'
 |.ret u=>∃v σ' H',Inv X pins σ' H' s'/\RelV v u/\D.rt v H'
def PE(X:Cx)(e:Expr)(t:TE):Prop:=
 ∀(pins:List (Addr×Obj)) (s:Shared) (σ:St) (H:Hp) (Q:VK),Inv X pins σ H s->t σ H Q->wpAny (model X.prog X.w) X.A (eval e X.env) (EP X pins σ Q) X.xe s
def PT(X:Cx)(e:Expr)(t:TT):Prop:=
 ∀(pins:List (Addr×Obj)) (s:Shared) (σ:St) (H:Hp) (Q:Bool->Hp->Prop),Inv X pins σ H s->t σ H Q->wpAny (model X.prog X.w) X.A (isTrue e X.env (eval e X.env)) (TP X pins σ Q) X.xe s
def PW(X:Cx)(e:Expr)(t:TT):Prop:=
 ∀(whole:Sem Value) (pins:List (Addr×Obj)) (s:Shared) (σ:St) (H:Hp) (Q:Bool->Hp->Prop),Inv X pins σ H s->t σ H Q->wpAny (model X.prog X.w) X.A (isTrue e X.env whole) (TP X pins σ Q) X.xe s
def PW.pt{X:Cx}{e:Expr}{t:TT}(h:PW X e t):PT X e t:=h _
def PA(X:Cx)(es:List Expr)(t:TA):Prop:=
 ∀(pos:Pos) (pins:List (Addr×Obj)) (s:Shared) (σ:St) (H:Hp) (Q:List V->Hp->Prop),Inv X pins σ H s->t σ H Q->wpAny (model X.prog X.w) X.A (spliced (backTo pos (starEach es X.env))) (AP X pins σ Q) X.xe s
def PS(X:Cx)(st:Stmt)(t:TS):Prop:=
 ∀(pins:List (Addr×Obj)) (s:Shared) (σ:St) (H:Hp) (D:Ends),Inv X pins σ H s->t D σ H->wpAny (model X.prog X.w) X.A (exec st X.env) (SP X pins D) X.xe s
def PSs(X:Cx)(st:List Stmt)(t:TS):Prop:=
 ∀(pins:List (Addr×Obj)) (s:Shared) (σ:St) (H:Hp) (D:Ends),Inv X pins σ H s->t D σ H->wpAny (model X.prog X.w) X.A (execs st X.env) (SP X pins D) X.xe s
def thn{α:Type}{t:Sem α}{Q Q':α->Shared->Prop}{M:Model}{A:Around}{E:Value->Shared->Prop}{s:Shared}(h:wpAny M A t Q E s)(hQ:∀a s,Q a s->Q' a s):wpAny M A t Q' E s:=wpAny_mono h hQ λ_ _ x=>x
section
variable{X:Cx}
def bin{a b:Expr}{ta tb:TE}(ha:PE X a ta)(hb:PE X b tb){pins:List (Addr×Obj)}{s:Shared}{σ:St}{H:Hp}{R:V->V->Hp->Prop}(I:Inv X pins σ H s)(h:ta σ H λx H1=>tb σ H1 λy H2=>R x y H2)
 {α:Type} {Q:α->Shared->Prop} {f:Value->Value->Sem α}
 (hf:∀v u s2 x y H2,Inv X pins σ H2 s2->RelV x v->RelV y u->R x y H2->wpAny (model X.prog X.w) X.A (f v u) Q X.xe s2):
 wpAny (model X.prog X.w) X.A (eval a X.env) (λv s₁=>wpAny (model X.prog X.w) X.A (eval b X.env) (λu s₂=>wpAny (model X.prog X.w) X.A (f v u) Q X.xe s₂) X.xe s₁) X.xe s:=by
 refine thn (ha pins s σ H _ I h) λv s1 ⟨x,H1,I1,r1,q1⟩=>?_;refine thn (hb pins s1 σ H1 _ I1 q1) λu s2 ⟨y,H2,I2,r2,q2⟩=>?_;exact hf v u s2 x y H2 I2 r1 r2 q2
def Jv(i:Nat):TE:=λσ H Q=>∃v,σ[i]?=some (some v)/\Q v H
def tC(v:V):TE:=λ_ H Q=>Q v H
def LG{i:Nat}{x:Str}{pos:Pos}(hN:X.N[i]?=some x)(hv:Vis X.env.scope x)(hd:(x==("__debug__":Str))=false:=by decide)(hcd:(x==("__classdict__":Str))=false:=by decide):PE X (.Name x pos) (Jv i):=by
 intro pins s σ H Q I h;obtain⟨v,e,h⟩:=h;obtain⟨m,hn,hl⟩:=I.loc;obtain⟨u,r,l⟩:=hl i x v hN e hv;have fin:EP X pins σ Q u s:=⟨v,H,I,r,h⟩
 rcases l with⟨hk,hm⟩|⟨hk,c,hc,hcell⟩
 .exact wpAny_Name (wpAny_loadName_local I.ok.kind hk hn hm fin) hd
 .rcases hk with hk|hk
  .exact wpAny_Name (wpAny_loadName_cell I.ok.kind hk hc hcell fin) hd
  .exact wpAny_Name (wpAny_loadName_free I.ok.kind hk hc hcell fin hcd) hd
def Sy{i j pos}:PE X (.Constant (.int i) j pos) (tC (.int i)):=λ_ _ _ H _ I h=>wpAny_Constant_int ⟨.int i,H,I.tok _,⟨_,rfl⟩,h⟩
def Ud{b j pos}:PE X (.Constant (.bool b) j pos) (tC (.bl b)):=λ_ _ _ H _ I h=>Constant_bool ⟨.bl b,H,I,rfl,h⟩
def Sv{j pos}:PE X (.Constant .none j pos) (tC .non):=λ_ _ _ H _ I h=>Constant_none ⟨.non,H,I,rfl,h⟩
def Sr{x j pos}:PE X (.Constant (.str x) j pos) (tC (.str x)):=λ_ _ _ H _ I h=>Calls.Constant_str ⟨.str x,H,I.tok _,⟨_,rfl⟩,h⟩
def Gl(X:Cx)(x:Str):Prop:=X.env.kindOf x=some .globalImplicit
def Jc{E:Value->Shared->Prop}{pins:List (Addr×Obj)}{s:Shared}{σ:St}{H:Hp}{x:Str}{u:Value}{pos:Pos}{Q:Value->Shared->Prop}(I:Inv X pins σ H s)(hg:Gl X x)(hm:X.mg x=some u)(h:Q u s)
 (hd:(x==("__debug__":Str))=false:=by decide):wpAny (model X.prog X.w) X.A (eval (.Name x pos) X.env) Q E s:=
 Calls.Name_function_global I.ok.kind hg (Calls.loadGlobal_global (by rw[I.ok.glob];exact I.mod.glob.keeps I.bk) hm h) hd
def Eu{E:Value->Shared->Prop}{pins:List (Addr×Obj)}{s:Shared}{σ:St}{H:Hp}{x:Str}{u:Value}{pos:Pos}{Q:Value->Shared->Prop}(I:Inv X pins σ H s)(hg:Gl X x)(hm:X.mg x=none)(hv:bootBuiltins x=some u)(h:Q u s)
 (hn:x≠"__name__":=by decide) (hd:(x==("__debug__":Str))=false:=by decide):wpAny (model X.prog X.w) X.A (eval (.Name x pos) X.env) Q E s:=by
 obtain⟨mb,h1,h2⟩:=I.mod.blt;exact Calls.Name_function_global I.ok.kind hg (Calls.loadGlobal_builtin (by rw[I.ok.glob];exact I.mod.glob.keeps I.bk) hm (by rw[I.ok.blt];exact h1.keeps I.bk) ((h2 x hn).trans hv) h) hd
variable{a b:Expr}{ta tb:TE}{pos:Pos}
def PC(X:Cx)(op:CmpOp)(a b:Expr)(t:TE):Prop:=
 ∀(pins:List (Addr×Obj)) (s:Shared) (σ:St) (H:Hp) (Q:VK),Inv X pins σ H s->t σ H Q ->
   wpAny (model X.prog X.w) X.A (eval a X.env) (λv s₁=>wpAny (model X.prog X.w) X.A (eval b X.env) (λu s₂=>wpAny (model X.prog X.w) X.A (compareOp op v u) (EP X pins σ Q) X.xe s₂) X.xe s₁) X.xe s
def Mz(b:Expr){op:CmpOp}(h:op≠.In)(h2:op≠.NotIn):behindInMarks op b=false:=by
 have e1:(op==CmpOp.In)=false:=by cases op<;>first|rfl|exact absurd rfl h
 have e2:(op==CmpOp.NotIn)=false:=by cases op<;>first|rfl|exact absurd rfl h2
 cases b<;>simp[behindInMarks,e1,e2]
def M5(ta:TE):TE:=λσ H Q=>ta σ H λx H1=>Q (.bl (decide (x=.non))) H1
def RelV.none_iff{x:V}{v:Value}(r:RelV x v):(v==Value.none)=decide (x=.non):=by
 cases x with
 |non=>cases r;rfl
 |bl _=>cases r;rfl
 |int _=>obtain⟨t,rfl⟩:=r;rfl
 |str _=>obtain⟨t,rfl⟩:=r;rfl
 |byt _=>obtain⟨t,rfl⟩:=r;rfl
 |flt _=>obtain⟨t,rfl⟩:=r;rfl
 |ref _=>cases r;rfl
 |ty _=>cases r;rfl
def T3{j pos'}(ha:PE X a ta):PC X .Is a (.Constant .none j pos') (M5 ta):=by
 intro pins s σ H Q I h;refine thn (ha pins s σ H _ I h) λv s1 ⟨x,H1,I1,r1,q1⟩=>?_;exact Constant_none (is_none_gen ⟨.bl _,H1,I1,by rw[r1.none_iff];rfl,q1⟩)
def tB(t:TE):TT:=λσ H Q=>t σ H λx H1=>∃c,x=.bl c/\Q c H1
def Sd{op:CmpOp}{t:TE}(h:PC X op a b t)(h1:behindInMarks op b=false:=by first|exact Mz _ (by decide) (by decide)|rfl):PT X (.Compare a [op] [b] pos) (tB t):=by
 intro pins s σ H Q I hw;refine wpAny_isTrue_Compare1 (thn (h pins s σ H _ I hw) λv s1 h1=>thn h1 λu s2 h2=>thn h2 λc s3 ⟨x,H1,I1,r1,q1⟩=>?_) h1;obtain⟨d,rfl,q⟩:=q1;cases r1;exact wpAny_truthy_bool ⟨H1,I1,q⟩
variable{tA tB':TT}{rest:List Expr}
def M9(t u:TT):TT:=λσ H Q=>t σ H λc H1=>if c=true then u σ H1 Q else Q false H1
def tOr(t u:TT):TT:=λσ H Q=>t σ H λc H1=>if c=true then Q true H1 else u σ H1 Q
def M2(t:TT):TT:=λσ H Q=>t σ H λc H1=>Q (!c) H1
def PV(ha:PT X a tA):PW X (.BoolOp .And [a] pos) tA:=by
 intro wh pins s σ H Q I h;refine isTrue_and (thn (ha pins s σ H Q I h) λc s1 e=>?_);cases c with
 |true=>exact isTrue_and_nil e
 |false=>exact e
def Sa(ha:PT X a tA):PW X (.BoolOp .Or [a] pos) tA:=by
 intro wh pins s σ H Q I h;refine isTrue_or (thn (ha pins s σ H Q I h) λc s1 e=>?_);cases c with
 |false=>exact isTrue_or_nil e
 |true=>exact e
def Sb(ha:PT X a tA)(hb:PW X (.BoolOp .And (b::rest) pos) tB'):PW X (.BoolOp .And (a::b::rest) pos) (M9 tA tB'):=by
 intro wh pins s σ H Q I h;refine isTrue_and (thn (ha pins s σ H _ I h) λc s1 ⟨H1,I1,q1⟩=>?_);cases c with
 |true=>exact hb wh pins s1 σ H1 Q I1 q1
 |false=>exact⟨H1,I1,q1⟩
def UY(ha:PT X a tA)(hb:PW X (.BoolOp .Or (b::rest) pos) tB'):PW X (.BoolOp .Or (a::b::rest) pos) (tOr tA tB'):=by
 intro wh pins s σ H Q I h;refine isTrue_or (thn (ha pins s σ H _ I h) λc s1 ⟨H1,I1,q1⟩=>?_);cases c with
 |true=>exact⟨H1,I1,q1⟩
 |false=>exact hb wh pins s1 σ H1 Q I1 q1
def Sc(ha:PT X a tA):PT X (.UnaryOp .Not a pos) (M2 tA):=by
 intro pins s σ H Q I h;exact isTrue_not (ha pins s σ H (λc H1=>Q (!c) H1) I h)
def K4(ta tb:TE):TE:=λσ H Q=>ta σ H λx H1=>∃c,x=.bl c/\if c=true then tb σ H1 Q else Q (.bl false) H1
def K0(ta:TE):TE:=λσ H Q=>ta σ H λx H1=>∃c,x=.bl c/\Q (.bl (!c)) H1
def Ss{op}{t:TE}(h:PE X a t):PE X (.BoolOp op [a] pos) t:=λpins s σ H Q I hw=>BoolOp_one (h pins s σ H Q I hw)
def T1(ha:PE X a ta)(hb:PE X (.BoolOp .And (b::rest) pos) tb):PE X (.BoolOp .And (a::b::rest) pos) (K4 ta tb):=by
 intro pins s σ H Q I h;refine BoolOp_and (thn (ha pins s σ H _ I h) λv s1 ⟨x,H1,I1,r1,q1⟩=>?_);obtain⟨c,rfl,q1⟩:=q1;cases r1;refine wpAny_truthy_bool ?_;cases c with
 |true=>exact hb pins s1 σ H1 Q I1 q1
 |false=>exact⟨.bl false,H1,I1,rfl,q1⟩
def Su(ha:PE X a ta):PE X (.UnaryOp .Not a pos) (K0 ta):=by
 intro pins s σ H Q I h;refine UnaryOp_ (thn (ha pins s σ H _ I h) λv s1 ⟨x,H1,I1,r1,q1⟩=>?_);obtain⟨c,rfl,q1⟩:=q1;cases r1;exact not_of (wpAny_truthy_bool ⟨.bl (!c),H1,I1,rfl,q1⟩)
def tIf(t:TT)(ta tb:TE):TE:=λσ H Q=>t σ H λc H1=>if c=true then ta σ H1 Q else tb σ H1 Q
def Mt{c:Expr}(hc:PT X c tA)(ha:PE X a ta)(hb:PE X b tb):PE X (.IfExp c a b pos) (tIf tA ta tb):=by
 intro pins s σ H Q I h;refine wpAny_IfExp (thn (hc pins s σ H _ I h) λd s1 ⟨H1,I1,q1⟩=>?_);cases d with
 |true=>exact ha pins s1 σ H1 Q I1 q1
 |false=>exact hb pins s1 σ H1 Q I1 q1
end
def SqL(K:PySem.W.Frag)(H:Hp)(a:Addr)(xs:List V):Prop:=
 Rd H a (.lst xs) ∨
  ∃(o:Obj) (its:Array Value) (n:Nat),K.lookup a=some o/\o.cls=.type "list"/\o.dict=none/\o.data=.seq its n/\its.size<=sizeLine/\Vals xs its.toList
def SqT(K:PySem.W.Frag)(H:Hp)(a:Addr)(xs:List V):Prop:=
 Rd H a (.tup xs) ∨
  ∃(o:Obj) (its:Array Value) (n:Nat),K.lookup a=some o/\o.cls=.type "tuple"/\o.dict=none/\o.data=.seq its n/\its.size<=sizeLine/\Vals xs its.toList
def Vi:Value->Option V
 |.none=>some .non
 |.bool b=>some (.bl b)
 |.int i _=>some (.int i)
 |.str x _=>some (.str x)
 |.bytes b _=>some (.byt b)
 |.float b _=>some (.flt b)
 |.ref a=>some (.ref a)
 |.type n=>some (.ty n)
 |_=>none
def RelV.abs{x:V}{u:Value}(r:RelV x u):Vi u=some x:=by
 cases x with
 |non=>cases r;rfl
 |bl _=>cases r;rfl
 |int _=>obtain⟨t,rfl⟩:=r;rfl
 |str _=>obtain⟨t,rfl⟩:=r;rfl
 |byt _=>obtain⟨t,rfl⟩:=r;rfl
 |flt _=>obtain⟨t,rfl⟩:=r;rfl
 |ref _=>cases r;rfl
 |ty _=>cases r;rfl
theorem RelV.inj{x y:V}{u:Value}(r:RelV x u)(q:RelV y u):x=y:=Option.some.inj (r.abs.symm.trans q.abs)
theorem Vals.inj:∀{xs ys:List V} {us:List Value},Vals xs us->Vals ys us->xs=ys
 |_,_,_,.nil,.nil=>rfl
 |_,_,_,.cons r t,.cons r' t'=>by rw[r.inj r',Vals.inj t t']
section
variable{X:Cx}{pins:List (Addr×Obj)}{σ:St}{H:Hp}{s:Shared}{a:Addr}{xs ys:List V}
def SqL.of{K:PySem.W.Frag}(h:H a=some (.lst xs)):SqL K H a xs:=.inl (.inl h)
def SqT.of{K:PySem.W.Frag}(h:H a=some (.tup xs)):SqT K H a xs:=.inl (.inl h)
def Inv.list(I:Inv X pins σ H s)(h:SqL X.K H a xs):∃its:List Value,Vals xs its/\PlainL s.heap a its.toArray/\xs.length<=sizeLine:=by
 rcases h with h|⟨o,its,n,hk,hc,hd,hs,hz,r⟩
 .obtain⟨z,its,n,r,e⟩:=h.ok I.hok;exact⟨its,r,⟨_,n,e,rfl,rfl,rfl⟩,z⟩
 .refine⟨its.toList,r,⟨o,n,I.kIn a o hk,hc,hd,by simpa using hs⟩,?_⟩;have e:=r.length;simp only[Array.length_toList]at e;omega
def Inv.tuple(I:Inv X pins σ H s)(h:SqT X.K H a xs):∃its:List Value,Vals xs its/\IsTup s.heap a its.toArray/\xs.length<=sizeLine:=by
 rcases h with h|⟨o,its,n,hk,hc,_,hs,hz,r⟩
 .obtain⟨z,its,r,p⟩:=h.ok I.hok;exact⟨its,r,p.t,z⟩
 .refine⟨its.toList,r,⟨o,I.kIn a o hk,hc,n,by simpa using hs⟩,?_⟩;have e:=r.length;simp only[Array.length_toList]at e;omega
def Inv.list_inj(I:Inv X pins σ H s)(h:SqL X.K H a xs)(h':SqL X.K H a ys):xs=ys:=by
 obtain⟨its,r,⟨o,n,e,_,_,d⟩,_⟩:=I.list h;obtain⟨its',r',⟨o',n',e',_,_,d'⟩,_⟩:=I.list h';rw[e]at e';cases e';rw[d]at d'
 injection d' with d1 _
 have:its=its':=by simpa using congrArg Array.toList d1
 subst this;exact r.inj r'
def Inv.tuple_inj(I:Inv X pins σ H s)(h:SqT X.K H a xs)(h':SqT X.K H a ys):xs=ys:=by
 obtain⟨its,r,⟨o,e,_,n,d⟩,_⟩:=I.tuple h;obtain⟨its',r',⟨o',e',_,n',d'⟩,_⟩:=I.tuple h';rw[e]at e';cases e';rw[d]at d'
 injection d' with d1 _
 have:its=its':=by simpa using congrArg Array.toList d1
 subst this;exact r.inj r'
end
abbrev Cx.wish(X:Cx)(E:Value->Shared->Prop):Cx:={ X with xe:=E }
abbrev Cx.nox(X:Cx):Cx:=X.wish λ_ _=>False
theorem Cx.Ok.wish{X:Cx}(ok:X.Ok)(E:Value->Shared->Prop):(X.wish E).Ok:=
 ⟨ok.mod,ok.kind,ok.glob,ok.blt,ok.above,ok.inj,ok.has,ok.cab,ok.hd,ok.frames,ok.stk,ok.exf,ok.bs,ok.bsz,ok.noex,ok.exfs,ok.funs,ok.frf⟩
def Cx.Ok.unwish{X:Cx}{E:Value->Shared->Prop}(ok:(X.wish E).Ok):X.Ok:=
 ⟨ok.mod,ok.kind,ok.glob,ok.blt,ok.above,ok.inj,ok.has,ok.cab,ok.hd,ok.frames,ok.stk,ok.exf,ok.bs,ok.bsz,ok.noex,ok.exfs,ok.funs,ok.frf⟩
section
variable{X:Cx}{pins:List (Addr×Obj)}{σ:St}{H:Hp}{s:Shared}{E:Value->Shared->Prop}
theorem Inv.wish(I:Inv X pins σ H s)(E:Value->Shared->Prop):Inv (X.wish E) pins σ H s:=⟨I.ok.wish E,I.os,I.bare,I.base,I.loc,I.cell,I.free,I.freeC,I.pin,I.hok,I.len⟩
theorem Inv.unwish(I:Inv (X.wish E) pins σ H s):Inv X pins σ H s:=⟨I.ok.unwish,I.os,I.bare,I.base,I.loc,I.cell,I.free,I.freeC,I.pin,I.hok,I.len⟩
theorem SP.unwish{D:Ends}{f:Flow}{s':Shared}(h:SP (X.wish E) pins D f s'):SP X pins D f s':=by
 cases f with
 |next=>obtain⟨σ',H',I,q⟩:=h;exact⟨σ',H',I.unwish,q⟩
 |brk=>obtain⟨σ',H',I,q⟩:=h;exact⟨σ',H',I.unwish,q⟩
 |cont=>obtain⟨σ',H',I,q⟩:=h;exact⟨σ',H',I.unwish,q⟩
 |ret u=>obtain⟨v,σ',H',I,r,q⟩:=h;exact⟨v,σ',H',I.unwish,r,q⟩
theorem PSs.nox{st:List Stmt}{t:TS}(h:PSs X.nox st t):PSs X st t:=λpins s σ H D I hw=>
 wpAny_mono (h pins s σ H D (I.wish _) hw) (λ_ _ q=>q.unwish) λ_ _ z=>False.elim z
end
section
variable{X:Cx}{st:Stmt}{rest:List Stmt}{t u:TS}{e:Expr}{te:TE}{pos:Pos}
def Ft:TS:=λD σ H=>D.nx σ H
def Lz(t u:TS):TS:=λD σ H=>t { D with nx:=u D } σ H
def PY:PSs X [] Ft:=λ_ _ σ H _ I h=>wpAny_execs_nil ⟨σ,H,I,h⟩
def Mn(h1:PS X st t)(h2:PSs X rest u):PSs X (st::rest) (Lz t u):=by
 intro pins s σ H D I h;refine wpAny_execs_cons (thn (h1 pins s σ H { D with nx:=u D } I h) λf s1 q=>?_);cases f with
 |next=>
  obtain⟨σ',H',I',q⟩:=q;exact h2 pins s1 σ' H' D I' q
 |ret v=>exact q
 |brk=>exact q
 |cont=>exact q
def PX(h1:PS X st t):PSs X [st] t:=by
 intro pins s σ H D I h;refine wpAny_execs_cons (thn (h1 pins s σ H D I h) λf s1 q=>?_);cases f with
 |next=>exact wpAny_execs_nil q
 |ret v=>exact q
 |brk=>exact q
 |cont=>exact q
def Pa:PS X (.Pass pos) Ft:=λ_ _ σ H _ I h=>wpAny_Pass ⟨σ,H,I,h⟩
def Inv.quiet{pins:List (Addr×Obj)}{σ:St}{H:Hp}{s:Shared}(I:Inv X pins σ H s):interactive X.env=false:=by simp[interactive,I.ok.kind]
def K1(te:TE):TS:=λD σ H=>te σ H λ_ H1=>D.nx σ H1
def Pc(he:PE X e te)(hs:swapsWith e none pos.line X.env=pure false:=by rfl):PS X (.Expr e pos) (K1 te):=by
 intro pins s σ H D I h;exact wpAny_Expr_any (thn (he pins s σ H _ I h) λv s1 ⟨x,H1,I1,r1,q1⟩=>⟨σ,H1,I1,q1⟩) I.quiet hs
def M0(te:TE):TS:=λD σ H=>te σ H D.rt
def Sf(he:PE X e te):PS X (.Return (some e) pos) (M0 te):=by
 intro pins s σ H D I h;exact wpAny_Return_some (thn (he pins s σ H _ I h) λv s1 ⟨x,H1,I1,r1,q1⟩=>⟨x,σ,H1,I1,r1,q1⟩)
def M6(c:TT)(t u:TS):TS:=λD σ H=>c σ H λb H1=>if b=true then t D σ H1 else u D σ H1
def Ua{c:Expr}{a b:List Stmt}{tc:TT}(hc:PT X c tc)(ha:PSs X a t)(hb:PSs X b u):PS X (.If c a b pos) (M6 tc t u):=by
 intro pins s σ H D I h;refine wpAny_If (thn (hc pins s σ H _ I h) λd s1 ⟨H1,I1,q1⟩=>?_);cases d with
 |true=>exact ha pins s1 σ H1 D I1 q1
 |false=>exact hb pins s1 σ H1 D I1 q1
end
abbrev TG:=V->St->Hp->(St->Hp->Prop)->Prop
abbrev TGs:=List V->St->Hp->(St->Hp->Prop)->Prop
def PG(X:Cx)(target:Expr)(t:TG):Prop:=
 ∀(pins:List (Addr×Obj)) (s:Shared) (σ:St) (H:Hp) (v:V) (u:Value) (Q:St->Hp->Prop),Inv X pins σ H s->RelV v u->t v σ H Q ->
   wpAny (model X.prog X.w) X.A (assign target X.env u) (λ_ s'=>∃σ' H',Inv X pins σ' H' s'/\Q σ' H') X.xe s
def PGs(X:Cx)(ts:List Expr)(t:TGs):Prop:=
 ∀(pins:List (Addr×Obj)) (s:Shared) (σ:St) (H:Hp) (vs:List V) (us:List Value) (Q:St->Hp->Prop),Inv X pins σ H s->Vals vs us->t vs σ H Q ->
   wpAny (model X.prog X.w) X.A (assignInOrder ((assignEach ts X.env).map (·.2)) us) (λ_ s'=>∃σ' H',Inv X pins σ' H' s'/\Q σ' H') X.xe s
section
variable{X:Cx}{pos:Pos}
def Cs(i:Nat):TG:=λv σ H Q=>Q (σ.set i (some v)) H
def Pn{i:Nat}{x:Str}(hN:X.N.Nodup)(hi:X.N[i]?=some x)(hx:Loc X.env.scope x)(hf:X.fn x=true∨X.env.scope.names.lookup x=some .local:=by first|exact .inl rfl|exact .inr rfl|assumption):PG X (.Name x pos) (Cs i):=by
 intro pins s σ H v u Q I r h;exact wpAny_assign_Name (CP I hN hi hx r (λs' I'=>⟨_,H,I',h⟩) hf)
def NA:TGs:=λvs σ H Q=>vs=[]/\Q σ H
def KR(t:TG)(u:TGs):TGs:=λvs σ H Q=>∃v r,vs=v::r/\t v σ H λσ' H'=>u r σ' H' Q
def Pl:PGs X [] NA:=by
 intro pins s σ H vs us Q I r h;obtain⟨e,h⟩:=h;subst e;cases r;exact assignInOrder_nil ⟨σ,H,I,h⟩
def Ms{e:Expr}{es:List Expr}{t:TG}{u:TGs}(h1:PG X e t)(h2:PGs X es u)
 (hs:(assignEach (e::es) X.env).map (·.2)=assign e X.env::(assignEach es X.env).map (·.2):=by rfl):PGs X (e::es) (KR t u):=by
 intro pins s σ H vs us Q I r h;obtain⟨v,vr,e1,h⟩:=h;subst e1;cases r with
 |cons r rr=>
  rw[hs];refine assignInOrder_cons (thn (h1 pins s σ H _ _ _ I r h) λ_ s1 ⟨σ1,H1,I1,q1⟩=>?_);exact h2 pins s1 σ1 H1 _ _ Q I1 rr q1
def KQ(K:PySem.W.Frag)(n:Nat)(t:TGs):TG:=λv σ H Q=>∃a xs,v=.ref a/\SqT K H a xs/\xs.length=n/\t xs σ H Q
def Sm{es:List Expr}{k:Nat}{t:TGs}{n:Nat}(hc:X.calm=true)(h:PGs X es t)
 (hn:(assignEach es X.env).length=n:=by rfl) (hst:(assignEach es X.env).findIdx? (·.1)=none:=by rfl):PG X (.Tuple es k pos) (KQ X.K n t):=by
 intro pins s σ H v u Q I r hw;obtain⟨a,xs,e1,hq,hl,hw⟩:=hw;subst e1;cases r;obtain⟨its,rv,ht,hz⟩:=I.tuple hq;refine assign_Tuple_tuple (I.ok.hd hc) ht (by simp[hn,<- hl,rv.length]) hst λh' hx=>?_;have I1:Inv X pins σ H { s with heap:=h' }:=I.kept (t':=s.toks) λb o e=>hx b o (ne_of_lt (Heap.lt_size e)) e;exact h pins _ σ H xs _ Q I1 (by simpa using rv) hw
def EM(te:TE)(g:TG):TS:=λD σ H=>te σ H λx H1=>g x σ H1 D.nx
def Si{tg e:Expr}{te:TE}{g:TG}(he:PE X e te)(hg:PG X tg g)(hs:swapsWithSole [tg] e pos.line X.env=pure false:=by rfl)(hw:swappedStores [tg] e X.env=pure none:=by rfl)
 (h1:(assignEach [tg] X.env).map (·.2)=[assign tg X.env]:=by rfl):PS X (.Assign [tg] e pos) (EM te g):=by
 intro pins s σ H D I h;refine wpAny_Assign_stores (thn (he pins s σ H _ I h) λv s1 ⟨x,H1,I1,r1,q1⟩=>?_) hs hw;rw[h1];exact thn (hg pins s1 σ H1 x v _ I1 r1 q1) λ_ s2 q=>q
def Se{i:Nat}{x:Str}{e:Expr}{te:TE}{pos':Pos}(hN:X.N.Nodup)(hi:X.N[i]?=some x)(hx:Loc X.env.scope x)(he:PE X e te)(hs:swapsWith e (some (.Name x pos')) pos.line X.env=pure false:=by rfl)(hf:X.fn x=true∨X.env.scope.names.lookup x=some .local:=by first|exact .inl rfl|exact .inr rfl|assumption):
 PS X (.Assign [.Name x pos'] e pos) (EM te (Cs i)):=by
 intro pins s σ H D I h;refine wpAny_Assign_Name (thn (he pins s σ H _ I h) λv s1 ⟨y,H1,I1,r1,q1⟩=>?_) hs;exact CP I1 hN hi hx r1 (λs2 I2=>⟨_,H1,I2,q1⟩) hf
def M1(i j:Nat)(ta:TA):TS:=λD σ H=>ta σ H λvs H1=>∃v w,vs=[v,w]/\D.nx ((σ.set i (some v)).set j (some w)) H1
def Sg{i j:Nat}{x y:Str}{a b:Expr}{ta:TA}{px py pt:Pos}{kt k2 pt2}(hc:X.calm=true)(hN:X.N.Nodup)(hi:X.N[i]?=some x)(hj:X.N[j]?=some y)(hij:i≠j)
 (hx:X.env.scope.names.lookup x=some .local) (hy:X.env.scope.names.lookup y=some .local) (ha:PA X [a,b] ta)
 (hw:swappedStores [.Tuple [.Name x px,.Name y py] kt pt] (.Tuple [a,b] k2 pt2) X.env=pure (some [x,y]))
 (hs:swapsWithSole [.Tuple [.Name x px,.Name y py] kt pt] (.Tuple [a,b] k2 pt2) pos.line X.env=pure false:=by rfl):
 PS X (.Assign [.Tuple [.Name x px,.Name y py] kt pt] (.Tuple [a,b] k2 pt2) pos) (M1 i j ta):=by
 intro pins s σ H D I h;rw[exec_Assign_arm];refine wpAny_bind (wpAny_standAt ?_);rw[hs];refine wpAny_bind (wpAny_pure ?_);rw[if_neg (by decide)];refine wpAny_bind (Tuple_ (thn (ha _ pins s σ H _ I h) λus s1 ⟨vs,H1,I1,r1,q1⟩=>?_));obtain⟨v,w,e1,q1⟩:=q1;subst e1;obtain⟨u1,u2,rfl,rv,rw'⟩:∃u1 u2,us=[u1,u2]/\RelV v u1/\RelV w u2:=by
  cases r1 with
  |cons p q=>
   cases q with
   |cons p' q'=>
    cases q';exact⟨_,_,rfl,p,p'⟩
 refine wpAny_newObj_type ?_ (by show 2<=sizeLine;decide);have I2:Inv X pins σ H1 { s1 with heap:=s1.heap.push { cls:=.type "tuple",data:=.seq [u1,u2].toArray } }:=I1.kept (t':=s1.toks) λb o e=>Heap.get?_push_of_some _ e;rw[hw];refine wpAny_bind (wpAny_pure ?_);show wpAny (model X.prog X.w) X.A (do rule "assign.swapped-stores";let items <- unpackItems (.ref s1.heap.objs.size) 2 none;assignInOrder [λv=>bindName X.env y v,λv=>bindName X.env x v] items.reverse;pure Flow.next) _ _ _;refine wpAny_bind (wpAny_rule (wpAny_bind (unpackItems_tuple (items:=#[u1,u2]) (I.ok.hd hc) (IsTup.new s1.heap _) λh' hx'=>?_)));have I3:=I2.kept (h':=h') (t':=s1.toks) λb o e=>hx' b o (ne_of_lt (Heap.lt_size e)) e;show wpAny _ _ (assignInOrder [λv=>bindName X.env y v,λv=>bindName X.env x v] [u2,u1] >>= λ_=>pure Flow.next) _ _ _;refine wpAny_bind (assignInOrder_cons (wpAny_bindName (CP I3 hN hj (.inl hy) rw' (λs2 I4=>?_) (.inr hy))));refine assignInOrder_cons (wpAny_bindName (CP I4 hN hi (.inl hx) rv (λs3 I5=>assignInOrder_nil (wpAny_pure ?_)) (.inr hx)));rw[List.set_comm _ _ (Ne.symm hij)]at I5;exact⟨_,H1,I5,q1⟩
end
section
variable{X:Cx}{pos:Pos}
def IE(c:TT)(tb:TS):TS:=λD σ H=>∃W:Nat->St->Hp->Prop,(∃m,W m σ H)/\∀m σ H,W m σ H ->
 c σ H λb H1=>if b=true then ∃N:St->Hp->Prop,(∀σ' H',N σ' H'->∃m',m'<m/\W m' σ' H')/\tb { D with nx:=N,ct:=N,bk:=D.nx } σ H1 else D.nx σ H1
def Mo{c:Expr}{body:List Stmt}{tc:TT}{tb:TS}(hp:PassesOwn (model X.prog X.w) X.A X.env X.xe)(hc:PT X c tc)(hb:PSs X body tb):PS X (.While c body [] pos) (IE tc tb):=by
 intro pins s σ H D I h;obtain⟨W,⟨m0,w0⟩,turn⟩:=h;refine wpAny_While (codeAny_whileLoop (λn s'=>∃σ' H',Inv X pins σ' H' s'/\W n σ' H') ?_ m0 ⟨σ,H,I,w0⟩);rintro n s1 ⟨σ1,H1,I1,w1⟩;refine wpAny_passesOwn hp (thn (hc pins s1 σ1 H1 _ I1 (turn n σ1 H1 w1)) λb s2 ⟨H2,I2,q2⟩=>?_);cases b with
 |true=>
  obtain⟨N,hN,q2⟩:=q2;rw[if_pos rfl];refine wpAny_passesOwn hp (thn (hb pins s2 σ1 H2 _ I2 q2) λf s3 q3=>?_);cases f with
  |next=>
   obtain⟨σ3,H3,I3,n3⟩:=q3;obtain⟨m',hm,w3⟩:=hN σ3 H3 n3;exact⟨m',hm,σ3,H3,I3,w3⟩
  |cont=>
   obtain⟨σ3,H3,I3,n3⟩:=q3;obtain⟨m',hm,w3⟩:=hN σ3 H3 n3;exact⟨m',hm,σ3,H3,I3,w3⟩
  |brk=>exact q3
  |ret v=>exact q3
 |false=>
  rw[if_neg Bool.false_ne_true];exact wpAny_execs_nil ⟨σ1,H2,I2,q2⟩
end
structure It where
 go:Nat->Hp->Prop
 yld:Nat->Hp->V->Hp->Prop
 stop:Nat->Hp->Prop
def Cd(X:Cx)(pins:List (Addr×Obj))(H:Hp)(b:Addr):Prop:=
 H b=none/\b≠X.env.locals/\b∉X.fs/\(b∈X.ex∨X.s₀.heap.objs.size<=b)/\(∀x c,X.env.cells.lookup x=some c->c≠b)/\∀p∈X.pn++pins,p.1≠b
def Inv.fpOk{X:Cx}{pins:List (Addr×Obj)}{σ:St}{H H':Hp}{s:Shared}{b:Addr}(I:Inv X pins σ H s)(hb:s.heap.objs.size<=b)(hn:H' b=none):Cd X pins H' b:=by
 refine⟨hn,Nat.ne_of_gt (lt_of_lt_of_le I.lt hb),I.nofs hb,.inr (le_trans I.sz hb),λx c e z=>?_,λp hp z=>?_⟩
 .obtain⟨v,q⟩:=I.cell x c e;exact absurd (lt_of_lt_of_le q.lt (by rw[z];exact hb)) (lt_irrefl _)
 .exact absurd (lt_of_lt_of_le (Heap.lt_size (I.pin p hp).1) (by rw[z];exact hb)) (lt_irrefl _)
structure Turn(P:Program)(w:World)(K:PySem.W.Frag)(tg:Expr)(J:It)(fp:List Addr)(it:Addr)(tn:Nat->Heap->Prop):Prop where
 mem:it∈fp
 obj:∀i h,tn i h->∀b∈fp,∃o,h.get? b=some o/\∀v,o.data≠.cell v
 keep:∀i h h',tn i h->(∀b∈fp,∀o,h.get? b=some o->h'.get? b=some o)->tn i h'
 item:∀(X:Cx),X.prog=P->X.w=w->X.K=K->X.calm=true->∀(i:Nat) (pins:List (Addr×Obj)) (s:Shared) (σ:St) (H:Hp) (E:Value->Shared->Prop),Inv X pins σ H s->(∀b∈fp,Cd X pins H b)->tn i s.heap->J.go i H ->
  wpAny (model P w) X.A (pyNext (.ref it)) (λr s1=>∃u,r=some u /\
   wpAny (model P w) X.A (letOwnedTupleGo tg (.ref it) u) (λ_ s2=>∃x H',Inv X pins σ H' s2/\RelV x u/\J.yld i H x H'/\tn (i+1) s2.heap/\∀b∈fp,H' b=none) E s1) E s
 done:∀(X:Cx),X.prog=P->X.w=w->X.K=K->X.calm=true->∀(i:Nat) (pins:List (Addr×Obj)) (s:Shared) (σ:St) (H:Hp) (E:Value->Shared->Prop),Inv X pins σ H s->(∀b∈fp,Cd X pins H b)->tn i s.heap->J.stop i H ->
  wpAny (model P w) X.A (pyNext (.ref it)) (λr s1=>r=none/\Inv X pins σ H s1) E s
 self:∀(A:Around) (i:Nat) (s:Shared) (Q:Value->Shared->Prop) (E:Value->Shared->Prop),tn i s.heap->Q (.ref it) s->wpAny (model P w) A (pyIter (.ref it)) Q E s
abbrev TI:=St->Hp->(It->Hp->Prop)->Prop
def PIE(X:Cx)(pins:List (Addr×Obj))(σ:St)(tg:Expr)(R:It->Hp->Prop)(itv:Value)(s2:Shared):Prop:=
 ∃(it:Addr) (fp:List Addr) (tn:Nat->Heap->Prop) (J:It) (H':Hp),itv=.ref it/\Inv X pins σ H' s2/\Turn X.prog X.w X.K tg J fp it tn/\tn 0 s2.heap/\(∀b∈fp,Cd X pins H' b)/\R J H'
def PI(X:Cx)(tg iter:Expr)(wi:TI):Prop:=
 ∀(pins:List (Addr×Obj)) (s:Shared) (σ:St) (H:Hp) (R:It->Hp->Prop),Inv X pins σ H s->wi σ H R ->
   wpAny (model X.prog X.w) X.A (eval iter X.env) (λv s1=>wpAny (model X.prog X.w) X.A (pyIter v) (PIE X pins σ tg R) X.xe s1) X.xe s
def KP{M:Model}{A:Around}{E:Value->Shared->Prop}{s:Shared}{tg:Expr}{it:Addr}{u:Value}{o:Obj}{n:String}{vs:Array Value}{Q:Unit->Shared->Prop}(ho:s.heap.get? it=some o)(hc:o.cls=.type n)(hd:o.data=.fields vs)
 (hn:["enumerate","zip","dict_itemiterator","dict_reverseitemiterator","odict_iterator","itertools.zip_longest","itertools.pairwise"].contains n=false) (hQ:Q () s):wpAny M A (letOwnedTupleGo tg (.ref it) u) Q E s:=by
 unfold letOwnedTupleGo;cases tg<;>first
  |exact wpAny_pure hQ
  | (cases u<;>first
   |exact wpAny_pure hQ
   | (refine wpAny_bind (wpAny_load ho ?_)
      rw[hc,hd];show wpAny M A (if(["enumerate","zip","dict_itemiterator","dict_reverseitemiterator","odict_iterator","itertools.zip_longest","itertools.pairwise"].contains n&&vs[0]?==some (rawInt _))=true then _ else _) Q E s;rw[if_neg (by intro h;rw[hn,Bool.false_and]at h;cases h)];exact wpAny_pure hQ))
def Itl(K:PySem.W.Frag)(a:Addr):It:=
 ⟨λi H=>∃xs x,SqL K H a xs/\xs[i]?=some x,λi H x H'=>H'=H/\∀xs,SqL K H a xs->xs[i]?=some x,λi H=>∃xs,SqL K H a xs/\xs.length<=i⟩
def Itt(K:PySem.W.Frag)(a:Addr):It:=
 ⟨λi H=>∃xs x,SqT K H a xs/\xs[i]?=some x,λi H x H'=>H'=H/\∀xs,SqT K H a xs->xs[i]?=some x,λi H=>∃xs,SqT K H a xs/\xs.length<=i⟩
def Itr(lo:Int)(n:Nat):It:=⟨λi _=>i<n,λi H x H'=>H'=H/\x=.int (lo+i),λi _=>n<=i⟩
def Kk{P:Program}{w:World}{K:PySem.W.Frag}{tg:Expr}(a it:Addr):Turn P w K tg (Itl K a) [it] it (λi h=>h.IsListIter it a i) where
 mem:=by simp
 obj:=λi h st b hb=>by
  have e:b=it:=by simpa using hb
  subst e;obtain⟨o,e,c,d⟩:=st;exact⟨o,e,λv z=>by rw[d]at z;cases z⟩
 keep:=λi h h' st k=>st.at λo e=>k it (by simp) o e
 item:=by
  intro X hP hw hK hc i pins s σ H E I hf st hg;subst hP hw hK;obtain⟨xs,x,hq,hx⟩:=hg;obtain⟨its,rv,p,hz⟩:=I.list hq;obtain⟨u,hu,ru⟩:=rv.get hx;obtain⟨f0,f1,f2,f3,f4,f5⟩:=hf it (by simp);refine wpAny_pyNext_list_item st p.isList (x:=u) (by simpa using hu) λh' st' sb=>?_;have I1:Inv X pins σ H { s with heap:=h' }:=I.turned (t':=s.toks) (λb o hb e=>(sb.2 b hb).trans e) f0 f1 f3 f4 f5;obtain⟨o,e,c,d⟩:=id st';exact⟨u,rfl,KP (s:={ s with heap:=h' }) e c d (by decide) ⟨x,H,I1,ru,⟨rfl,λys hy=>by rw[I.list_inj hy hq];exact hx⟩,st',λb hb=>(hf b hb).1⟩⟩
 done:=by
  intro X hP hw hK hc i pins s σ H E I hf st hg;subst hP hw hK;obtain⟨xs,hq,hx⟩:=hg;obtain⟨its,rv,p,hz⟩:=I.list hq;obtain⟨f0,f1,f2,f3,f4,f5⟩:=hf it (by simp);have hl:=rv.length;exact wpAny_pyNext_list_end (I.ok.hd hc) st p.isList (by simp;omega) λh' eb=>⟨rfl,I.turned (t':=s.toks) (λb o hb e=>eb b o hb e) f0 f1 f3 f4 f5⟩
 self:=λ_ _ _ _ _ st h=>wpAny_pyIter_listiter st h
def Js{P:Program}{w:World}{K:PySem.W.Frag}{tg:Expr}(a it:Addr):Turn P w K tg (Itt K a) [it] it (λi h=>h.IsTupleIter it a i) where
 mem:=by simp
 obj:=λi h st b hb=>by
  have e:b=it:=by simpa using hb
  subst e;obtain⟨o,e,c,d⟩:=st;exact⟨o,e,λv z=>by rw[d]at z;cases z⟩
 keep:=λi h h' st k=>st.at λo e=>k it (by simp) o e
 item:=by
  intro X hP hw hK hc i pins s σ H E I hf st hg;subst hP hw hK;obtain⟨xs,x,hq,hx⟩:=hg;obtain⟨its,rv,p,hz⟩:=I.tuple hq;obtain⟨u,hu,ru⟩:=rv.get hx;obtain⟨f0,f1,f2,f3,f4,f5⟩:=hf it (by simp);refine wpAny_pyNext_tuple_item st (show s.heap.IsTuple a its.toArray from p) (x:=u) (by simpa using hu) λh' st' sb=>?_;have I1:Inv X pins σ H { s with heap:=h' }:=I.turned (t':=s.toks) (λb o hb e=>(sb.2 b hb).trans e) f0 f1 f3 f4 f5;obtain⟨o,e,c,d⟩:=id st';exact⟨u,rfl,KP (s:={ s with heap:=h' }) e c d (by decide) ⟨x,H,I1,ru,⟨rfl,λys hy=>by rw[I.tuple_inj hy hq];exact hx⟩,st',λb hb=>(hf b hb).1⟩⟩
 done:=by
  intro X hP hw hK hc i pins s σ H E I hf st hg;subst hP hw hK;obtain⟨xs,hq,hx⟩:=hg;obtain⟨its,rv,p,hz⟩:=I.tuple hq;obtain⟨f0,f1,f2,f3,f4,f5⟩:=hf it (by simp);have hl:=rv.length;exact wpAny_pyNext_tuple_end (I.ok.hd hc) st (show s.heap.IsTuple a its.toArray from p) (by simp;omega) λh' eb=>⟨rfl,I.turned (t':=s.toks) (λb o hb e=>eb b o hb e) f0 f1 f3 f4 f5⟩
 self:=λ_ _ _ _ _ st h=>wpAny_pyIter_tupleiter st h
def Jt{P:Program}{w:World}{K:PySem.W.Frag}{tg:Expr}(it:Addr)(lo:Int)(n:Nat):Turn P w K tg (Itr lo n) [it] it (λi h=>IsRangeIter h it (lo+(i:Nat)*1) ((n:Int)-(i:Nat)) 1) where
 mem:=by simp
 obj:=λi h st b hb=>by
  have e:b=it:=by simpa using hb
  subst e;exact⟨_,st,λv z=>by
   have z':Data.fields _=Data.cell v:=z;cases z'⟩
 keep:=λi h h' st k=>k it (by simp) _ st
 item:=by
  intro X hP hw hK hc i pins s σ H E I hf st hg;subst hP hw hK;obtain⟨f0,f1,f2,f3,f4,f5⟩:=hf it (by simp);have W:=Walks.range (prog:=X.prog) (w:=X.w) (I.ok.hd hc) it lo 1 n;refine W.item i s _ _ hg st λv h' tk hv st' kk=>?_;obtain⟨t,rfl⟩:=hv;have I1:Inv X pins σ H { s with heap:=h',toks:=tk }:=I.turned (λb o hb e=>kk b o (by simpa using hb) e) f0 f1 f3 f4 f5;refine⟨_,rfl,KP (s:={ s with heap:=h',toks:=tk }) (n:="range_iterator") st' rfl rfl (by decide) ⟨.int (lo+i),H,I1,⟨t,?_⟩,⟨rfl,rfl⟩,st',λb hb=>(hf b hb).1⟩⟩;rw[mul_one]
 done:=by
  intro X hP hw hK hc i pins s σ H E I hf st hg;subst hP hw hK;obtain⟨f0,f1,f2,f3,f4,f5⟩:=hf it (by simp);exact wpAny_pyNext_range_end (I.ok.hd hc) st (by have:n<=i:=hg;omega) λh' eb=>⟨rfl,I.turned (t':=s.toks) (λb o hb e=>eb b o hb e) f0 f1 f3 f4 f5⟩
 self:=λ_ _ _ _ _ st h=>wpAny_pyIter_rangeiter st h
section
variable{X:Cx}{tg:Expr}
def Hr(K:PySem.W.Frag)(tl:TE):TI:=λσ H R=>tl σ H λx H1=>∃a,x=.ref a/\(∃xs,SqL K H1 a xs)/\R (Itl K a) H1
def KN(K:PySem.W.Frag)(tl:TE):TI:=λσ H R=>tl σ H λx H1=>∃a,x=.ref a/\(∃xs,SqT K H1 a xs)/\R (Itt K a) H1
def Pk{l:Expr}{tl:TE}(hl:PE X l tl):PI X tg l (Hr X.K tl):=by
 intro pins s σ H R I h;refine thn (hl pins s σ H _ I h) λv s1 ⟨x,H1,I1,r1,q1⟩=>?_;obtain⟨a,e,⟨xs,hq⟩,q⟩:=q1;subst e;cases r1;obtain⟨its,rv,p,hz⟩:=I1.list hq;refine wpAny_pyIter_list p.isList ?_;refine⟨s1.heap.objs.size,[s1.heap.objs.size],_,_,H1,rfl,I1.kept (t':=s1.toks) λb o e=>Heap.get?_push_of_some _ e,Kk a _,⟨_,Heap.get?_push_size _ rfl,rfl,rfl⟩,λb hb=>?_,q⟩;have e:b=s1.heap.objs.size:=by simpa using hb
 subst e;exact I1.fpOk (le_refl _) (I1.hok.fresh (le_refl _))
def Sl{l:Expr}{tl:TE}(hl:PE X l tl):PI X tg l (KN X.K tl):=by
 intro pins s σ H R I h;refine thn (hl pins s σ H _ I h) λv s1 ⟨x,H1,I1,r1,q1⟩=>?_;obtain⟨a,e,⟨xs,hq⟩,q⟩:=q1;subst e;cases r1;obtain⟨its,rv,p,hz⟩:=I1.tuple hq;refine wpAny_pyIter_tuple (show s1.heap.IsTuple a its.toArray from p) ?_;refine⟨s1.heap.objs.size,[s1.heap.objs.size],_,_,H1,rfl,I1.kept (t':=s1.toks) λb o e=>Heap.get?_push_of_some _ e,Js a _,⟨_,Heap.get?_push_size _ rfl,rfl,rfl⟩,λb hb=>?_,q⟩;have e:b=s1.heap.objs.size:=by simpa using hb
 subst e;exact I1.fpOk (le_refl _) (I1.hok.fresh (le_refl _))
def MV{pins:List (Addr×Obj)}{σ:St}{H:Hp}{s:Shared}{R:It->Hp->Prop}{E:Value->Shared->Prop}{lo hi:Int}{t u v:Tok}{tk:Nat}(I:Inv X pins σ H s)(h1:-(2^62)<=lo)(h2:lo<2^62)(h3:-(2^62)<=hi)(h4:hi<2^62)
 (q:R (Itr lo (hi-lo).toNat) H):wpAny (model X.prog X.w) X.A (pyIter (.ref s.heap.objs.size)) (PIE X pins σ tg R) E { s with heap:=s.heap.push { cls:=.type "range",data:=.fields #[.int lo t,.int hi u,.int 1 v] },toks:=tk }:=by
 refine wpAny_pyIter_range (IsRange.new ..) (small_one h1 h2 h3 h4) ?_;have I1:Inv X pins σ H { s with heap:=s.heap.push { cls:=.type "range",data:=.fields #[.int lo t,.int hi u,.int 1 v] },toks:=tk }:=I.kept λb o e=>Heap.get?_push_of_some _ e;refine⟨(s.heap.push { cls:=.type "range",data:=.fields #[.int lo t,.int hi u,.int 1 v] }).objs.size,[(s.heap.push { cls:=.type "range",data:=.fields #[.int lo t,.int hi u,.int 1 v] }).objs.size],_,_,H,rfl,
  I1.kept (t':=tk) λb o e=>Heap.get?_push_of_some _ e,Jt _ lo (hi-lo).toNat,?_,λb hb=>?_,q⟩
 .have e1:lo+((0:Nat):Int)*1=lo:=by simp
  have e2:(((hi-lo).toNat:Nat):Int)-((0:Nat):Int)=Builtin.Range.rangeSize lo hi 1:=by rw[rangeSize_one];split<;>omega
  show IsRangeIter _ _ (lo+((0:Nat):Int)*1) ((((hi-lo).toNat:Nat):Int)-((0:Nat):Int)) 1;rw[e1,e2];exact Heap.get?_push_size _ rfl
 .have e:b=(s.heap.push { cls:=.type "range",data:=.fields #[.int lo t,.int hi u,.int 1 v] }).objs.size:=by simpa using hb
  subst e;exact I1.fpOk (le_refl _) (I1.hok.fresh (le_refl _))
def KO(ta:TA):TI:=λσ H R=>ta σ H λvs H1=>∃j:Int,vs=[.int j]/\-(2^62)<=j/\j<2^62/\R (Itr 0 j.toNat) H1
def LF{a:Expr}{ta:TA}{p pos:Pos}(hg:Gl X "range")(hm:X.mg "range"=none)(ha:PA X [a] ta)(hs:starEach [a] X.env=[(false,eval a X.env)]:=by rfl):PI X tg (.Call (.Name "range" p) [a] [] pos) (KO ta):=by
 intro pins s σ H R I h;refine Call_ (Eu I hg hm boot_range (PyProof.Rows.callWith_type1 (thn (ha pos pins s σ H _ I h) λus s1 ⟨vs,H1,I1,r1,q1⟩=>?_) hs rfl));obtain⟨j,e,q1,q2,q⟩:=q1;subst e;cases r1 with
 |cons r rr=>
  cases rr;obtain⟨t,rfl⟩:=r;exact call_range_1 (MV I1 (by omega) (by omega) q1 q2 (by simpa using q))
def M7(wi:TI)(g:TG)(tb:TS):TS:=λD σ H=>wi σ H λJ H1=>∃W:Nat->Nat->St->Hp->Prop,(∃m,W 0 m σ H1)/\∀i m σ H,W i m σ H ->
 (J.stop i H/\D.nx σ H)∨(J.go i H/\∃N:St->Hp->Prop,(∀σ' H',N σ' H'->∃m',m'<m/\W (i+1) m' σ' H')/\∀x H',J.yld i H x H'->g x σ H' λσ2 H2=>tb { D with nx:=N,ct:=N,bk:=D.nx } σ2 H2)
def E5(fp:List Addr)(h:Heap):List (Addr×Obj):=fp.filterMap λb=>(h.get? b).map λo=>(b,o)
def C3{fp:List Addr}{h:Heap}{b:Addr}{o:Obj}(hb:b∈fp)(e:h.get? b=some o):(b,o)∈E5 fp h:=List.mem_filterMap.mpr ⟨b,hb,by rw[e];rfl⟩
def LJ{fp:List Addr}{h:Heap}{p:Addr×Obj}(hp:p∈E5 fp h):p.1∈fp/\h.get? p.1=some p.2:=by
 obtain⟨b,hb,e⟩:=List.mem_filterMap.mp hp;cases q:h.get? b with
 |none=>rw[q]at e;cases e
 |some o=>
  rw[q]at e;have e':(b,o)=p:=Option.some.inj e;subst e';exact⟨hb,q⟩
def Inv.pinned{pins:List (Addr×Obj)}{σ:St}{H:Hp}{s:Shared}{fp:List Addr}(I:Inv X pins σ H s)(hf:∀b∈fp,Cd X pins H b)(ho:∀b∈fp,∃o,s.heap.get? b=some o/\∀v,o.data≠.cell v):Inv X (pins++E5 fp s.heap) σ H s:=
 I.pins_of λp hp=>(mem_append.mp hp).elim (λz=>I.pin p (mem_append_right _ z)) λz=>by
  obtain⟨hb,e⟩:=LJ z;obtain⟨f0,f1,f2,_⟩:=hf p.1 hb;obtain⟨o,e',d⟩:=ho p.1 hb;rw[e]at e';cases e';exact⟨e,f0,f1,f2,d⟩
def Inv.unpinned{pins pl:List (Addr×Obj)}{σ:St}{H:Hp}{s:Shared}(I:Inv X (pins++pl) σ H s):Inv X pins σ H s:=I.pins_of λp hp=>I.pin p (mem_append_right _ (List.mem_append_left _ hp))
def Sh{iter:Expr}{body:List Stmt}{wi:TI}{g:TG}{tb:TS}{pos:Pos}(hp:PassesOwn (model X.prog X.w) X.A X.env X.xe)(hc:X.calm=true)(hi:PI X tg iter wi)(hg:PG X tg g)(hb:PSs X body tb)
 (hs:∀x,foldedSetIterable iter X.env x=pure x:=by intro _;rfl):PS X (.For tg iter body [] pos) (M7 wi g tb):=by
 intro pins s σ H D I h;refine wpAny_For (thn (hi pins s σ H _ I h) λv s1 h1=>thn h1 λitv s2 h2=>?_) hs;obtain⟨it,fp,tn,J,H2,e,I2,T,st2,f2,W,⟨m0,w0⟩,turn⟩:=h2;subst e
 -- what stays true of the iterator's objects through the loop
 have stat:∀{H':Hp},(∀b∈fp,H' b=none)->∀b∈fp,Cd X pins H' b:=λhn b hb=>⟨hn b hb,(f2 b hb).2⟩
 refine codeAny_forLoop_any (λn s'=>∃i σ' H',Inv X pins σ' H' s'/\tn i s'.heap/\(∀b∈fp,H' b=none)/\W i n σ' H') ?_ m0 ⟨0,σ,H2,I2,st2,λb hb=>(f2 b hb).1,w0⟩;rintro n s3 ⟨i,σ3,H3,I3,st3,fr3,w3⟩;rcases turn i n σ3 H3 w3 with⟨stop,qn⟩|⟨go,N,hN,step⟩
 .refine wpAny_passesOwn hp (thn (T.done X rfl rfl rfl hc i pins s3 σ3 H3 X.xe I3 (stat fr3) st3 stop) λr s4 ⟨hr,I4⟩=>?_);subst hr;exact wpAny_execs_nil ⟨σ3,H3,I4,qn⟩
 .refine wpAny_passesOwn hp (thn (T.item X rfl rfl rfl hc i pins s3 σ3 H3 X.xe I3 (stat fr3) st3 go) λr s4 ⟨u,hr,h4⟩=>?_);subst hr;refine wpAny_passesOwn hp (thn h4 λ_ s5 ⟨x,H5,I5,r5,y5,st5,fr5⟩=>?_);have I5':=I5.pinned (stat fr5) (T.obj _ _ st5);refine wpAny_passesOwn hp (thn (hg _ s5 σ3 H5 x u _ I5' r5 (step x H5 y5)) λ_ s6 ⟨σ6,H6,I6,q6⟩=>?_);refine wpAny_passesOwn hp (thn (hb _ s6 σ6 H6 _ I6 q6) λf s7 q7=>?_);have again:∀{σ7:St} {H7:Hp},Inv X (pins++E5 fp s5.heap) σ7 H7 s7->N σ7 H7->∃m,m<n/\∃i σ' H',Inv X pins σ' H' s7/\tn i s7.heap/\(∀b∈fp,H' b=none)/\W i m σ' H':=λ{σ7 H7} I7 n7=>by
   obtain⟨m',hm,w7⟩:=hN σ7 H7 n7;refine⟨m',hm,i+1,σ7,H7,I7.unpinned,T.keep _ _ _ st5 λb hb o e=>(I7.pin (b,o) (mem_append_right _ (mem_append_right _ (C3 hb e)))).1,λb hb=>?_,w7⟩;obtain⟨o,e,d⟩:=T.obj _ _ st5 b hb;exact(I7.pin (b,o) (mem_append_right _ (mem_append_right _ (C3 hb e)))).2.1
  cases f with
  |next=>obtain⟨σ7,H7,I7,n7⟩:=q7;exact again I7 n7
  |cont=>obtain⟨σ7,H7,I7,n7⟩:=q7;exact again I7 n7
  |brk=>obtain⟨σ7,H7,I7,q7⟩:=q7;exact⟨σ7,H7,I7.unpinned,q7⟩
  |ret v=>obtain⟨x7,σ7,H7,I7,r7,q7⟩:=q7;exact⟨x7,σ7,H7,I7.unpinned,r7,q7⟩
end
abbrev R2:=V->V->Hp->VK->Prop
def OpR(X:Cx)(f:Value->Value->Sem Value)(r:R2):Prop:=
 ∀(pins:List (Addr×Obj)) (s:Shared) (σ:St) (H:Hp) (x y:V) (v u:Value) (Q:VK),Inv X pins σ H s->RelV x v->RelV y u->r x y H Q ->
   wpAny (model X.prog X.w) X.A (f v u) (EP X pins σ Q) X.xe s
def UnR(X:Cx)(f:Value->Sem Value)(r:V->Hp->VK->Prop):Prop:=
 ∀(pins:List (Addr×Obj)) (s:Shared) (σ:St) (H:Hp) (x:V) (v:Value) (Q:VK),Inv X pins σ H s->RelV x v->r x H Q ->
   wpAny (model X.prog X.w) X.A (f v) (EP X pins σ Q) X.xe s
def Ba(X:Cx)(f:Value)(r:List V->Hp->VK->Prop):Prop:=
 ∀(pins:List (Addr×Obj)) (s:Shared) (σ:St) (H:Hp) (xs:List V) (us:List Value) (Q:VK),Inv X pins σ H s->Vals xs us->r xs H Q ->
   wpAny (model X.prog X.w) X.A (call f us) (EP X pins σ Q) X.xe s
def Vj(X:Cx)(r:V->Hp->(Bool->Hp->Prop)->Prop):Prop:=
 ∀(pins:List (Addr×Obj)) (s:Shared) (σ:St) (H:Hp) (x:V) (v:Value) (Q:Bool->Hp->Prop),Inv X pins σ H s->RelV x v->r x H Q ->
   wpAny (model X.prog X.w) X.A (truthy v) (TP X pins σ Q) X.xe s
def tOp(r:R2)(ta tb:TE):TE:=λσ H Q=>ta σ H λx H1=>tb σ H1 λy H2=>r x y H2 Q
def tUn(r:V->Hp->VK->Prop)(ta:TE):TE:=λσ H Q=>ta σ H λx H1=>r x H1 Q
def rI(C:Int->Int->Prop)(g:Int->Int->V):R2:=λx y H Q=>∃i j,x=.int i/\y=.int j/\C i j/\Q (g i j) H
def rI0(g:Int->Int->V):R2:=λx y H Q=>∃i j,x=.int i/\y=.int j/\Q (g i j) H
def rU(g:Int->V):V->Hp->VK->Prop:=λx H Q=>∃i,x=.int i/\Q (g i) H
section
variable{X:Cx}{a b c:Expr}{ta tb tc:TE}{pos:Pos}
def NI(ha:PE X a ta)(hb:PE X b tb){pins:List (Addr×Obj)}{s:Shared}{σ:St}{H:Hp}{R:V->V->Hp->Prop}(I:Inv X pins σ H s)
 (h:ta σ H λx H1=>tb σ H1 λy H2=>R x y H2) {Q:Value->Shared->Prop} {f:Value->Value->Sem Value}
 (hf:∀v u s2 x y H2,Inv X pins σ H2 s2->RelV x v->RelV y u->R x y H2->wpAny (model X.prog X.w) X.A (f v u) Q X.xe s2):
 wpAny (model X.prog X.w) X.A (eval a X.env) (λv s₁=>wpAny (model X.prog X.w) X.A (eval b X.env) (λu s₂=>wpAny (model X.prog X.w) X.A (f v u) Q X.xe s₂) X.xe s₁) X.xe s:=by
 refine thn (ha pins s σ H _ I h) λv s1 ⟨x,H1,I1,r1,q1⟩=>?_;refine thn (hb pins s1 σ H1 _ I1 q1) λu s2 ⟨y,H2,I2,r2,q2⟩=>?_;exact hf v u s2 x y H2 I2 r1 r2 q2
def Nj{op:Operator}{r:R2}(ho:OpR X (binaryOp op) r)(ha:PE X a ta)(hb:PE X b tb):PE X (.BinOp a op b pos) (tOp r ta tb):=by
 intro pins s σ H Q I h;exact wpAny_BinOp (NI ha hb I h λv u s2 x y H2 I2 rx ry q=>ho pins s2 σ H2 x y v u Q I2 rx ry q)
def Ub{op:UnaryOp}{r:V->Hp->VK->Prop}(ho:UnR X (unaryOp op) r)(ha:PE X a ta):PE X (.UnaryOp op a pos) (tUn r ta):=by
 intro pins s σ H Q I h;exact UnaryOp_ (thn (ha pins s σ H _ I h) λv s1 ⟨x,H1,I1,r1,q1⟩=>ho pins s1 σ H1 x v Q I1 r1 q1)
def opI{f:Value->Value->Sem Value}{C:Int->Int->Prop}{g:Int->Int->Int}
 (rule:∀(i j:Int) (t u:Tok) (s:Shared) (Q:Value->Shared->Prop) (E:Value->Shared->Prop),C i j->Q (.int (g i j) s.toks) { s with toks:=s.toks+1 }->wpAny (model X.prog X.w) X.A (f (.int i t) (.int j u)) Q E s):
 OpR X f (rI C λi j=>.int (g i j)):=by
 intro pins s σ H x y v u Q I rx ry h;obtain⟨i,j,rfl,rfl,hc,q⟩:=h;obtain⟨t,rfl⟩:=rx;obtain⟨t',rfl⟩:=ry;exact rule i j t t' s _ _ hc ⟨.int (g i j),H,I.tok _,⟨_,rfl⟩,q⟩
def TH{f:Value->Value->Sem Value}{g:Int->Int->Int}
 (rule:∀(i j:Int) (t u:Tok) (s:Shared) (Q:Value->Shared->Prop) (E:Value->Shared->Prop),Q (.int (g i j) s.toks) { s with toks:=s.toks+1 }->wpAny (model X.prog X.w) X.A (f (.int i t) (.int j u)) Q E s):
 OpR X f (rI0 λi j=>.int (g i j)):=by
 intro pins s σ H x y v u Q I rx ry h;obtain⟨i,j,rfl,rfl,q⟩:=h;obtain⟨t,rfl⟩:=rx;obtain⟨t',rfl⟩:=ry;exact rule i j t t' s _ _ ⟨.int (g i j),H,I.tok _,⟨_,rfl⟩,q⟩
def Mx{f:Value->Value->Sem Value}{g:Int->Int->Bool}
 (rule:∀(i j:Int) (t u:Tok) (s:Shared) (Q:Value->Shared->Prop) (E:Value->Shared->Prop),Q (.bool (g i j)) s->wpAny (model X.prog X.w) X.A (f (.int i t) (.int j u)) Q E s):
 OpR X f (rI0 λi j=>.bl (g i j)):=by
 intro pins s σ H x y v u Q I rx ry h;obtain⟨i,j,rfl,rfl,q⟩:=h;obtain⟨t,rfl⟩:=rx;obtain⟨t',rfl⟩:=ry;exact rule i j t t' s _ _ ⟨.bl (g i j),H,I,rfl,q⟩
def UC(i j:Int):Prop:=0<j/\j<1073741824
def UB(i j:Int):Prop:=0<=j/\j<=1000000/\i.natAbs<2^64
def CMul(i j:Int):Prop:=(-(2^64)<i/\i<2^64)∨(-(2^64)<j/\j<2^64)
def CMul.ok{i j:Int}(h:CMul i j):IntMulOk i j:=by
 rcases h with⟨h1,h2⟩|⟨h1,h2⟩
 .exact .of_left (intBits_le_64 h1 h2)
 .exact .of_right (intBits_le_64 h1 h2)
def LI:OpR X (binaryOp .Add) (rI0 λi j=>.int (i+j)):=TH λ_ _ _ _ _ _ _ q=>add_int q
def T4:OpR X (binaryOp .Sub) (rI0 λi j=>.int (i-j)):=TH λ_ _ _ _ _ _ _ q=>sub_int q
def T8:OpR X (binaryOp .Mult) (rI CMul λi j=>.int (i*j)):=opI λ_ _ _ _ _ _ _ hc q=>mul_int q hc.ok
def Px:OpR X (binaryOp .FloorDiv) (rI UC λi j=>.int (i/j)):=opI λi j _ _ _ _ _ hc q=>by
 have h1:(0:Int)<j:=hc.1;have h2:j<1073741824:=hc.2;exact floordiv_int (by omega) (by rw[Int.fdiv_eq_ediv_of_nonneg i (by omega)];exact q) (.inl (PyProof.noPylong_small (by omega)))
def T9:OpR X (binaryOp .Mod) (rI (λ_ j=>0<j) λi j=>.int (i%j)):=opI λi j _ _ _ _ _ hc q=>by
 have h1:(0:Int)<j:=hc;exact mod_int' (by omega) (by rw[Int.fmod_eq_emod_of_nonneg i (by omega)];exact q)
def T5:OpR X (binaryOp .Pow) (rI UB λi j=>.int (i^j.toNat)):=opI λ_ _ _ _ _ _ _ hc q=>pow_int_small hc.1 hc.2.1 hc.2.2 q
def unI{f:Value->Sem Value}{g:Int->Int}
 (rule:∀(i:Int) (t:Tok) (s:Shared) (Q:Value->Shared->Prop) (E:Value->Shared->Prop),Q (.int (g i) s.toks) { s with toks:=s.toks+1 }->wpAny (model X.prog X.w) X.A (f (.int i t)) Q E s):
 UnR X f (rU λi=>.int (g i)):=by
 intro pins s σ H x v Q I rx h;obtain⟨i,rfl,q⟩:=h;obtain⟨t,rfl⟩:=rx;exact rule i t s _ _ ⟨.int (g i),H,I.tok _,⟨_,rfl⟩,q⟩
def Qn:UnR X (unaryOp .USub) (rU λi=>.int (-i)):=unI λ_ _ _ _ _ q=>neg_int q
end
def IJ:V->V->Bool
 |.non,.non=>true|.non,.int _=>true|.int _,.non=>true|.non,.bl _=>true|.bl _,.non=>true|.non,.str _=>true|.str _,.non=>true
 |.int _,.int _=>true|.bl _,.bl _=>true|.str _,.str _=>true|.byt _,.byt _=>true
 |.int _,.str _=>true|.str _,.int _=>true|.bl _,.str _=>true|.str _,.bl _=>true
 |_,_=>false
def rEq:R2:=λx y H Q=>IJ x y=true/\Q (.bl (decide (x=y))) H
def rNe:R2:=λx y H Q=>IJ x y=true/\Q (.bl (!decide (x=y))) H
def Jg{i j:Int}:decide (V.int i=V.int j)=(i==j):=by
 rw[Bool.eq_iff_iff];simp
def Lc{i j:Bool}:decide (V.bl i=V.bl j)=(i==j):=by
 rw[Bool.eq_iff_iff];simp
def Jf{i j:Str}:decide (V.str i=V.str j)=(i==j):=by
 rw[Bool.eq_iff_iff];simp
def Jh{i j:Array UInt8}:decide (V.byt i=V.byt j)=(i.toList==j.toList):=by
 rw[Bool.eq_iff_iff];cases i;cases j;simp
section
variable{X:Cx}{a b c:Expr}{ta tb tc:TE}{pos:Pos}
def AZ{pins:List (Addr×Obj)}{σ:St}{H:Hp}{s:Shared}{Q:VK}{k k':Bool}(I:Inv X pins σ H s)(q:Q (.bl k) H)(e:k=k'):EP X pins σ Q (.bool k') s:=by
 subst e;exact⟨.bl k,H,I,rfl,q⟩
def Nq:OpR X (compareOp .Eq) rEq:=by
 intro pins s σ H x y v u Q I rx ry h;obtain⟨hs,q⟩:=h;cases x with
 |non=>
  cases rx;cases y with
  |non=>cases ry;exact PySem.EqNone.eq_none_none (AZ I q (by simp))
  |bl j=>cases ry;exact PySem.EqNone.eq_none_bool (AZ I q (by simp))
  |int j=>obtain⟨t',rfl⟩:=ry;exact PySem.EqNone.eq_none_int (AZ I q (by simp))
  |str j=>obtain⟨t',rfl⟩:=ry;exact PySem.EqNone.eq_none_str (AZ I q (by simp))
  |_=>exact absurd (show false=true from hs) Bool.false_ne_true
 |bl i=>
  cases rx;cases y with
  |non=>cases ry;exact PySem.EqNone.eq_bool_none (AZ I q (by simp))
  |bl j=>cases ry;exact eq_bool (AZ I q Lc)
  |str j=>obtain⟨t',rfl⟩:=ry;exact PySem.EqMixed.eq_bool_str (AZ I q (by simp))
  |_=>exact absurd (show false=true from hs) Bool.false_ne_true
 |int i=>
  obtain⟨t,rfl⟩:=rx;cases y with
  |non=>cases ry;exact PySem.EqNone.eq_int_none (AZ I q (by simp))
  |int j=>obtain⟨t',rfl⟩:=ry;exact eq_int (AZ I q Jg)
  |str j=>obtain⟨t',rfl⟩:=ry;exact PySem.EqMixed.eq_int_str (AZ I q (by simp))
  |_=>exact absurd (show false=true from hs) Bool.false_ne_true
 |str i=>
  obtain⟨t,rfl⟩:=rx;cases y with
  |non=>cases ry;exact PySem.EqNone.eq_str_none (AZ I q (by simp))
  |bl j=>cases ry;exact PySem.EqMixed.eq_str_bool (AZ I q (by simp))
  |int j=>obtain⟨t',rfl⟩:=ry;exact PySem.EqMixed.eq_str_int (AZ I q (by simp))
  |str j=>obtain⟨t',rfl⟩:=ry;exact eq_str (AZ I q Jf)
  |_=>exact absurd (show false=true from hs) Bool.false_ne_true
 |byt i=>
  obtain⟨t,rfl⟩:=rx;cases y with
  |byt j=>obtain⟨t',rfl⟩:=ry;exact PySem.W.eq_bytes (AZ I q Jh)
  |_=>exact absurd (show false=true from hs) Bool.false_ne_true
 |_=>cases y<;>exact absurd (show false=true from hs) Bool.false_ne_true
def Ue:OpR X (compareOp .NotEq) rNe:=by
 intro pins s σ H x y v u Q I rx ry h;obtain⟨hs,q⟩:=h;cases x with
 |non=>
  cases rx;cases y with
  |non=>cases ry;exact PySem.EqNone.ne_none_none (AZ I q (by simp))
  |bl j=>cases ry;exact PySem.EqNone.ne_none_bool (AZ I q (by simp))
  |int j=>obtain⟨t',rfl⟩:=ry;exact PySem.EqNone.ne_none_int (AZ I q (by simp))
  |str j=>obtain⟨t',rfl⟩:=ry;exact PySem.EqNone.ne_none_str (AZ I q (by simp))
  |_=>exact absurd (show false=true from hs) Bool.false_ne_true
 |bl i=>
  cases rx;cases y with
  |non=>cases ry;exact PySem.EqNone.ne_bool_none (AZ I q (by simp))
  |bl j=>cases ry;exact ne_bool (AZ I q (congrArg not Lc))
  |str j=>obtain⟨t',rfl⟩:=ry;exact PySem.EqMixed.ne_bool_str (AZ I q (by simp))
  |_=>exact absurd (show false=true from hs) Bool.false_ne_true
 |int i=>
  obtain⟨t,rfl⟩:=rx;cases y with
  |non=>cases ry;exact PySem.EqNone.ne_int_none (AZ I q (by simp))
  |int j=>obtain⟨t',rfl⟩:=ry;exact ne_int (AZ I q (congrArg not Jg))
  |str j=>obtain⟨t',rfl⟩:=ry;exact PySem.EqMixed.ne_int_str (AZ I q (by simp))
  |_=>exact absurd (show false=true from hs) Bool.false_ne_true
 |str i=>
  obtain⟨t,rfl⟩:=rx;cases y with
  |non=>cases ry;exact PySem.EqNone.ne_str_none (AZ I q (by simp))
  |bl j=>cases ry;exact PySem.EqMixed.ne_str_bool (AZ I q (by simp))
  |int j=>obtain⟨t',rfl⟩:=ry;exact PySem.EqMixed.ne_str_int (AZ I q (by simp))
  |str j=>obtain⟨t',rfl⟩:=ry;exact ne_str (AZ I q (congrArg not Jf))
  |_=>exact absurd (show false=true from hs) Bool.false_ne_true
 |byt i=>
  obtain⟨t,rfl⟩:=rx;cases y with
  |byt j=>obtain⟨t',rfl⟩:=ry;exact PySem.W.ne_bytes (AZ I q (congrArg not Jh))
  |_=>exact absurd (show false=true from hs) Bool.false_ne_true
 |_=>cases y<;>exact absurd (show false=true from hs) Bool.false_ne_true
def No:OpR X (compareOp .Lt) (rI0 λi j=>.bl (decide (i<j))):=Mx λ_ _ _ _ _ _ _ q=>lt_int q
def Uf:OpR X (compareOp .Gt) (rI0 λi j=>.bl (decide (j<i))):=Mx λ_ _ _ _ _ _ _ q=>gt_int q
def Np:OpR X (compareOp .GtE) (rI0 λi j=>.bl (decide (j<=i))):=Mx λ_ _ _ _ _ _ _ q=>ge_int q
def OpR.or{f:Value->Value->Sem Value}{r r':R2}(h:OpR X f r)(h':OpR X f r'):OpR X f (λx y H Q=>r x y H Q∨r' x y H Q):=by
 intro pins s σ H x y v u Q I rx ry q;rcases q with q|q
 .exact h pins s σ H x y v u Q I rx ry q
 .exact h' pins s σ H x y v u Q I rx ry q
def G8(b:Expr){op:CmpOp}(h:op≠.In:=by decide)(h2:op≠.NotIn:=by decide):behindInMarks op b=false:=by
 have e1:(op==CmpOp.In)=false:=by cases op<;>first|rfl|exact absurd rfl h
 have e2:(op==CmpOp.NotIn)=false:=by cases op<;>first|rfl|exact absurd rfl h2
 cases b<;>simp[behindInMarks,e1,e2]
def Pt{op:CmpOp}{r:R2}(ho:OpR X (compareOp op) r)(ha:PE X a ta)(hb:PE X b tb)(hm:behindInMarks op b=false):PE X (.Compare a [op] [b] pos) (tOp r ta tb):=by
 intro pins s σ H Q I h;exact wpAny_Compare1 (NI ha hb I h λv u s2 x y H2 I2 rx ry q=>ho pins s2 σ H2 x y v u Q I2 rx ry q) hm
def Fs(t:TE):TT:=λσ H Q=>t σ H λx H'=>∃k,x=.bl k/\Q k H'
def Ga{op:CmpOp}{r:R2}(ho:OpR X (compareOp op) r)(ha:PE X a ta)(hb:PE X b tb)(hm:behindInMarks op b=false):PT X (.Compare a [op] [b] pos) (Fs (tOp r ta tb)):=by
 intro pins s σ H Q I h;refine wpAny_isTrue_Compare1 (thn (ha pins s σ H _ I h) λv s1 ⟨x,H1,I1,r1,q1⟩=>thn (hb pins s1 σ H1 _ I1 q1) λu s2 ⟨y,H2,I2,r2,q2⟩=>
  thn (ho pins s2 σ H2 x y v u _ I2 r1 r2 q2) λc s3 ⟨z,H3,I3,r3,k,e,q3⟩=>?_) hm
 subst e;cases r3;exact wpAny_truthy_bool ⟨H3,I3,q3⟩
def J8(K:PySem.W.Frag)(x:V)(H:Hp)(k:Bool):Prop:=
 match x with
 |.non=>k=false
 |.bl b=>k=b
 |.int i=>k=(i != 0)
 |.str y=>y.length<=sizeLine/\k=((y.length:Int) != 0)
 |.byt y=>y.size<=sizeLine/\k=((y.size:Int) != 0)
 |.ref p=>(∃xs,SqL K H p xs/\k=!xs.isEmpty)∨(∃xs,SqT K H p xs/\k=!xs.isEmpty)∨∃kvs,H p=some (.dK kvs)/\k=!kvs.isEmpty
 |_=>False
def KM{κ:Type}{kvs:List (κ×V)}{vs:List (κ×Value)}(r:KV kvs vs):(!vs.isEmpty)=!kvs.isEmpty:=by
 cases r<;>rfl
def GC{xs:List V}{its:List Value}(r:Vals xs its):(!its.toArray.isEmpty)=!xs.isEmpty:=by
 cases r<;>simp
def GA:(sizeLine:Nat)<2^63:=by rw[sizeLine_eq];decide
def Qp:Vj X (λx H Q=>∃k,J8 X.K x H k/\Q k H):=by
 intro pins s σ H x v Q I rx h;obtain⟨k,e,q⟩:=h;have hl:=GA;have hs:sizeLine=16777216:=sizeLine_eq;cases x with
 |non=>
  cases rx;have e':k=false:=e;subst e';exact truthy_none ⟨H,I,q⟩
 |bl b=>
  cases rx;have e':k=b:=e;subst e';exact wpAny_truthy_bool ⟨H,I,q⟩
 |int i=>
  obtain⟨t,rfl⟩:=rx;have e':k=(i != 0):=e;subst e';exact PySem.P.truthy_int ⟨H,I,q⟩
 |str y=>
  obtain⟨t,rfl⟩:=rx;obtain⟨hy,e'⟩:y.length<=sizeLine/\k=((y.length:Int) != 0):=e;subst e';exact PySem.P.truthy_str (by omega) ⟨H,I.tok _,q⟩
 |byt y=>
  obtain⟨t,rfl⟩:=rx;obtain⟨hy,e'⟩:y.size<=sizeLine/\k=((y.size:Int) != 0):=e;subst e';exact PySem.W.truthy_bytes (by omega) ⟨H,I.tok _,q⟩
 |ref p=>
  cases rx;have e':(∃xs,SqL X.K H p xs/\k=!xs.isEmpty)∨(∃xs,SqT X.K H p xs/\k=!xs.isEmpty)∨∃kvs,H p=some (.dK kvs)/\k=!kvs.isEmpty:=e;rcases e' with⟨xs,hx,e'⟩|⟨xs,hx,e'⟩|⟨kvs,hx,e'⟩
  .subst e';obtain⟨its,r,pl,hz⟩:=I.list hx;have hlen:=r.length;exact wpAny_truthy_list pl.isList (by simp only[size_toArray];omega) ⟨H,I.tok _,by rw[GC r];exact q⟩
  .subst e';obtain⟨its,r,pl,hz⟩:=I.tuple hx;have hlen:=r.length;exact truthy_tuple pl (by simp only[size_toArray];omega) ⟨H,I.tok _,by rw[GC r];exact q⟩
  .subst e';obtain⟨hz,hS,vs,r,m⟩:kvs.length<=sizeLine/\(p==sysModules)=false/\∃vs,KV kvs vs/\s.heap.DictOf (B0 X.prog X.w) p vs:=I.hok p _ hx;have hlen:kvs.length=vs.length:=Paired.length r;exact wpAny_truthy_dict hS m (by omega) ⟨H,I.tok _,by rw[KM r];exact q⟩
 |_=>exact(show False from e).elim
def Mm(ha:PE X a ta)(he:∀whole,isTrue a X.env whole=(do let v <- whole;standAt a.pos;holding [v] (truthy v))):
 PT X a (λσ H Q=>ta σ H λx H'=>∃k,J8 X.K x H' k/\Q k H'):=by
 intro pins s σ H Q I h;exact isTrue_plain (thn (ha pins s σ H _ I h) λv s1 ⟨x,H1,I1,r1,q1⟩=>Qp pins s1 σ H1 x v Q I1 r1 q1) (he _)
def C2{x:V}{us:List Value}(r:Vals [x] us):∃u,us=[u]/\RelV x u:=by
 cases r with
 |cons r1 r2=>cases r2;exact⟨_,rfl,r1⟩
def UG{x y:V}{us:List Value}(r:Vals [x,y] us):∃u w',us=[u,w']/\RelV x u/\RelV y w':=by
 cases r with
 |cons r1 r2=>
  cases r2 with
  |cons r3 r4=>cases r4;exact⟨_,_,rfl,r1,r3⟩
def NG:Ba X (.builtin "abs") (λxs H Q=>∃i,xs=[.int i]/\Q (.int (if i<0 then -i else i)) H):=by
 intro pins s σ H xs us Q I r h;obtain⟨i,rfl,q⟩:=h;obtain⟨u,rfl,t,rfl⟩:=C2 r;exact call_abs_int λu tk=>⟨.int (if i<0 then -i else i),H,I.tok _,⟨_,rfl⟩,q⟩
def Lk(hc:X.calm=true):Ba X (.builtin "min") (λxs H Q=>∃i j,xs=[.int i,.int j]/\Q (.int (if j<i then j else i)) H):=by
 intro pins s σ H xs us Q I r h;obtain⟨i,j,rfl,q⟩:=h;obtain⟨u,w',rfl,⟨t,rfl⟩,⟨t',rfl⟩⟩:=UG r;refine min_two_ints (I.ok.hd hc) λh' tk k=>⟨_,H,I.kept k,?_,q⟩
 by_cases hj:j<i
 .rw[if_pos hj,if_pos hj];exact⟨_,rfl⟩
 .rw[if_neg hj,if_neg hj];exact⟨_,rfl⟩
def Lm:Ba X (.type "int") (λxs H Q=>(∃i,xs=[.int i]/\Q (.int i) H)∨∃k,xs=[.bl k]/\Q (.int (if k then 1 else 0)) H):=by
 intro pins s σ H xs us Q I r h;rcases h with⟨i,rfl,q⟩|⟨k,rfl,q⟩
 .obtain⟨u,rfl,t,rfl⟩:=C2 r;exact call_int_int ⟨.int i,H,I,⟨_,rfl⟩,q⟩
 .obtain⟨u,rfl,r1⟩:=C2 r;cases r1;exact call_int_bool ⟨.int (if k then 1 else 0),H,I.tok _,⟨_,rfl⟩,q⟩
end
def RelO.some_of{v:V}{o:Option Value}(r:RelO (some v) o):∃u,o=some u/\RelV v u:=by
 cases o with
 |none=>exact(show False from r).elim
 |some u=>exact⟨u,rfl,r⟩
structure Room(k:Nat)(A:Around):Prop where
 hd:A.handled=none
 dp:A.depth+3*k+5<recursionLimit
 un:A.units+16*k+200<cLine
 gd:A.guards=some []
def Room.mono{j k:Nat}{A:Around}(r:Room k A)(h:j<=k):Room j A:=⟨r.hd,by have:=r.dp;omega,by have:=r.un;omega,r.gd⟩
theorem Room.deeper{k:Nat}{A:Around}(r:Room (k+1) A)(env:Env):Room k (A.deeper env):=
 ⟨r.hd,by have:=r.dp;show A.depth+1+3*k+5<_;omega,by have:=r.un;show A.units+3+16*k+200<_;omega,by first|exact r.gd|(simpa [Around.deeper,Around.under,Code.guards,Code.isGuard,pushGuards]using r.gd)⟩
theorem Room.depth{k:Nat}{A:Around}(r:Room k A):A.depth<recursionLimit:=by have:=r.dp;omega
theorem Room.units{k:Nat}{A:Around}(r:Room k A):A.units+64<cLine:=by have:=r.un;omega
def DM:TA:=λ_ H Q=>Q [] H
def EK(ta:TE)(tr:TA):TA:=λσ H Q=>ta σ H λx H1=>tr σ H1 λxs H2=>Q (x::xs) H2
section
variable{X:Cx}{e:Expr}{es:List Expr}{te:TE}{t:TA}{pos:Pos}
def IX:PA X [] DM:=λ_ _ _ _ H Q I h=>Calls.spliced_nil ⟨[],H,I,.nil,h⟩
def Gb(ha:PE X e te)(hr:PA X es t)(hs:starEach (e::es) X.env=(false,eval e X.env)::starEach es X.env:=by rfl):PA X (e::es) (EK te t):=by
 intro pos pins s σ H Q I h;rw[hs];show wpAny _ _ (spliced ((false,eval e X.env)::backTo pos (starEach es X.env))) _ _ s;refine Calls.spliced_cons (thn (ha pins s σ H _ I h) λu s1 ⟨x,H1,I1,r1,q1⟩=>?_);exact thn (hr pos pins s1 σ H1 _ I1 q1) λus s2 ⟨xs,H2,I2,r2,q2⟩=>⟨x::xs,H2,I2,.cons r1 r2,q2⟩
def Ly(t:TA):TE:=λσ H Q=>t σ H λxs H1=>xs.length<=sizeLine/\∀p,H1 p=none->Q (.ref p) (upd H1 p (.tup xs))
def M3(t:TA):TE:=λσ H Q=>t σ H λxs H1=>xs.length<=sizeLine/\∀p,H1 p=none->Q (.ref p) (upd H1 p (.lst xs))
def Sq{x1}(h:PA X es t):PE X (.Tuple es x1 pos) (Ly t):=by
 intro pins s σ H Q I hq;refine wpAny_Tuple_spliced (thn (h pos pins s σ H _ I hq) λus s1 ⟨xs,H1,I1,r,z,q⟩=>⟨by rw[<- r.length];exact z,?_⟩);have hf:H1 s1.heap.objs.size=none:=I1.hok.fresh (le_refl _);refine⟨.ref s1.heap.objs.size,upd H1 s1.heap.objs.size (.tup xs),I1.laid (t':=s1.toks) (λb u e=>Heap.get?_push_of_some _ e) (le_refl _) ?_,rfl,q _ hf⟩;exact⟨z,us,r,⟨_,Heap.get?_push_size _ rfl,rfl,⟨_,rfl⟩,rfl⟩⟩
def Sw(h:PA X es t):PE X (.List es pos) (M3 t):=by
 intro pins s σ H Q I hq;refine wpAny_List_spliced (thn (h pos pins s σ H _ I hq) λus s1 ⟨xs,H1,I1,r,z,q⟩=>⟨by rw[<- r.length];exact z,?_⟩);have hf:H1 s1.heap.objs.size=none:=I1.hok.fresh (le_refl _);refine⟨.ref s1.heap.objs.size,upd H1 s1.heap.objs.size (.lst xs),I1.laid (t':=s1.toks) (λb u e=>Heap.get?_push_of_some _ e) (le_refl _) ?_,rfl,q _ hf⟩;exact⟨z,us,0,r,Heap.get?_push_size _ rfl⟩
end
abbrev Sp:=List V->Hp->VK->XK->Prop
abbrev CXT:=List Env->Hp->Shared->XK->Value->Shared->Prop
structure Env0(P:Program)(w:World)(K:PySem.W.Frag)(mg:Str->Option Value)(base:Heap)(A:Around)(outer:List Env)(s:Shared)(H:Hp):Prop where
 frames:A.frames=some outer
 mod:Mod K mg base
 bs:∀b o,base.get? b=some o->s.heap.get? b=some o/\H b=none
 bsz:base.objs.size<=s.heap.objs.size
 funs:s.heap.FunFrames base outer
 frf:∀b∈frs outer,H b=none
 hok:HOk P w H s.heap
 bare:AllBare s.gens
def CE(outer:List Env)(P:Program)(w:World)(H:Hp)(s:Shared)(Q:VK)(u:Value)(s':Shared):Prop:=
 ∃v H',s'.os=s.os/\AllBare s'.gens/\Un (frs outer) [] H H' s.heap s'.heap/\HOk P w H' s'.heap/\RelV v u/\Q v H'
def CR(CX:CXT)(outer:List Env)(P:Program)(w:World)(H:Hp)(s:Shared)(Q:VK)(E:XK)(r:Result)(s':Shared):Prop:=
 match r with
 |.ok (.ret u)=>CE outer P w H s Q u s'
 |.ok _=>False
 |.error e=>CX outer H s E e s'
structure FnOk(P:Program)(w:World)(K:PySem.W.Frag)(mg:Str->Option Value)(base:Heap)(CX:CXT)(k:Nat)(f:Addr)(fd:FuncData)(ps:List Str)(sp:Sp):Prop where
 len:∀vs H Q E,sp vs H Q E->vs.length=ps.length
 run:∀(A:Around) (outer:List Env) (s:Shared) (H:Hp) (args:Args) (us:List Value) (vs:List V) (Q:VK) (E:XK),Room k A->Env0 P w K mg base A outer s H->BindsTo s fd args (ps.zip us)->Vals vs us->sp vs H Q E ->
  codeAny (model P w) A (.call (.ref f) args) (CR CX outer P w H s Q E) s
theorem FnOk.mono{P:Program}{w:World}{K:PySem.W.Frag}{mg:Str->Option Value}{base:Heap}{CX:CXT}{j k:Nat}{f:Addr}{fd:FuncData}{ps:List Str}{sp:Sp}(F:FnOk P w K mg base CX j f fd ps sp)(h:j<=k):
 FnOk P w K mg base CX k f fd ps sp:=⟨F.len,λA outer s H args us vs Q E hr=>F.run A outer s H args us vs Q E (hr.mono h)⟩
section
variable{X:Cx}{pins:List (Addr×Obj)}{σ:St}{H:Hp}{s s':Shared}
def Inv.env0(I:Inv X pins σ H s):Env0 X.prog X.w X.K X.mg X.base X.A X.stack s H:=
 ⟨I.ok.frames,I.ok.mod,I.bs,le_trans I.ok.bsz I.sz,I.stack,I.stkFree,I.hok,I.bare⟩
def Inv.after{Q:VK}{u:Value}(I:Inv X pins σ H s)(h:CE X.stack X.prog X.w H s Q u s'):EP X pins σ Q u s':=by
 obtain⟨v,H',os,bare,un,hok,r,q⟩:=h;obtain⟨hh,g,d,t,os'⟩:=s';obtain rfl:os'=s.os:=os;exact⟨v,H',I.call (h':=hh) (g':=g) (d':=d) (t':=t) (ch:=[]) un hok bare (λb z=>absurd z (by simp)),r,q⟩
end
def CI(sp:Sp)(dvs:List V)(E:XK)(t:TA):TE:=λσ H Q=>t σ H λvs H1=>sp (vs++dvs) H1 Q E
def Binds(K:PySem.W.Frag)(fd:FuncData)(ps:List Str)(ds:List Value):Prop:=
 ∀(s:Shared) (us:List Value),K.In s.heap->(us++ds).length=ps.length->BindsTo s fd ⟨us,[]⟩ (ps.zip (us++ds))
def Binds.all{K:PySem.W.Frag}{fd:FuncData}{ps:List Str}(h:∀us:List Value,us.length=ps.length->bindArgs fd ⟨us,[]⟩=pure (ps.zip us)):Binds K fd ps []:=λs us _ hl=>by
 rw[append_nil]at hl ⊢;exact .of_eq (h us hl)
def GK(CX:CXT)(X:Cx)(E:XK):Prop:=∀(pins:List (Addr×Obj)) (σ:St) (H:Hp) (s:Shared) (e:Value) (s':Shared),Inv X pins σ H s->CX X.stack H s E e s'->X.xe e s'
section
variable{X:Cx}{CX:CXT}{k:Nat}{f C:Addr}{fd:FuncData}{ps:List Str}{sp:Sp}{dvs:List V}{ds:List Value}{E:XK}{x m:Str}{p pos apos:Pos}{e o:Expr}{es:List Expr}{ta:TE}{t:TA}
def Ky{pins:List (Addr×Obj)}{σ:St}{H:Hp}{s:Shared}{Q:VK}{us:List Value}{vs:List V}(F:FnOk X.prog X.w X.K X.mg X.base CX k f fd ps sp)(hr:Room k X.A)(hb:Binds X.K fd ps ds)(hd:Vals dvs ds)(hx:GK CX X E)
 (I:Inv X pins σ H s) (r:Vals vs us) (h:sp (vs++dvs) H Q E):wpAny (model X.prog X.w) X.A (call (.ref f) us) (EP X pins σ Q) X.xe s:=by
 have r2:Vals (vs++dvs) (us++ds):=r.append hd;have hl:(us++ds).length=ps.length:=by rw[<- r2.length];exact F.len _ _ _ _ h
 refine wpAny_call (codeAny_mono (F.run X.A X.stack s H ⟨us,[]⟩ (us++ds) (vs++dvs) Q E hr I.env0 (hb s us I.kIn hl) r2 h) λr s' hq=>?_);cases r with
 |error e=>exact hx pins σ H s e s' I hq
 |ok fl=>
  cases fl with
  |ret u=>exact I.after hq
  |next=>exact False.elim hq
  |brk=>exact False.elim hq
  |cont=>exact False.elim hq
def Pu(F:FnOk X.prog X.w X.K X.mg X.base CX k f fd ps sp)(hr:Room k X.A)(hg:Gl X x)(hm:X.mg x=some (.ref f))(hk:PySem.W.keepIn X.K (.ref f)=true)(hb:Binds X.K fd ps ds)(hd:Vals dvs ds)(hx:GK CX X E)
 (ha:PA X (e::es) t) (hdb:(x==("__debug__":Str))=false:=by decide) (he:starEach (e::es) X.env=(false,eval e X.env)::starEach es X.env:=by rfl) (hpl:(backTo pos (starEach es X.env)).any (·.1)=false:=by rfl):
 PE X (.Call (.Name x p) (e::es) [] pos) (CI sp dvs E t):=by
 intro pins s σ H Q I h;refine wpAny_Call_Name_kw (Jc I hg hm ?_ hdb);refine PySem.W.callWith_K (h₀:=X.base) I.ok.mod.kin hk (thn (ha pos pins s σ H _ I h) λus s1 ⟨vs,H1,I1,r,q⟩=>⟨I1.kIn,?_⟩) he hpl;exact Ky F hr hb hd hx I1 r q
def Mv(F:FnOk X.prog X.w X.K X.mg X.base CX k f fd ps sp)(hr:Room k X.A)(hg:Gl X x)(hm:X.mg x=some (.ref f))(hk:PySem.W.keepIn X.K (.ref f)=true)(hb:Binds X.K fd ps ds)(hd:Vals dvs ds)(hx:GK CX X E)
 (hdb:(x==("__debug__":Str))=false:=by decide):PE X (.Call (.Name x p) [] [] pos) (CI sp dvs E DM):=by
 intro pins s σ H Q I h;refine wpAny_Call_Name_kw (Jc I hg hm ?_ hdb);exact PySem.W.callWith_K0 I.kIn hk (Ky (us:=[]) F hr hb hd hx I .nil h)
end
structure FnScope(N P:List Str)(sc:Scope):Prop where
 kind:sc.kind=.function
 co:sc.isCoroutine=false
 gen:sc.isGenerator=false
 nd:N.Nodup
 pre:N.take P.length=P
 par:∀x∈P,sc.names.lookup x=some .local∨sc.names.lookup x=some .cell
 nofree:∀y∈sc.names,y.2≠.free
theorem HN{kindOf:Str->Option NameKind}{x:Str}:∀{binds:List (Str×Value)} {m:Str->Option Value},(∀v,(x,v)∉binds)->bindL kindOf binds m x=m x
 |[],_,_=>rfl
 |(n,v)::r,m,h=>by
   unfold bindL;rw[HN λw hw=>h w (mem_cons_of_mem _ hw)];split
   .have:x≠n:=by rintro rfl;exact h v mem_cons_self
    simp[this]
   .rfl
theorem HQ{kindOf:Str->Option NameKind}{x:Str}:∀{binds:List (Str×Value)} {m:Str->Option Value},(∀v,(x,v)∉binds)->bindC kindOf binds m x=m x
 |[],_,_=>rfl
 |(n,v)::r,m,h=>by
   unfold bindC;rw[HQ λw hw=>h w (mem_cons_of_mem _ hw)];split
   .rfl
   .have:x≠n:=by rintro rfl;exact h v mem_cons_self
    simp[this]
theorem HP{kindOf:Str->Option NameKind}{x:Str}{v:Value}:∀{P:List Str} {vs:List Value} {i:Nat} {m:Str->Option Value},P.Nodup->P[i]?=some x->vs[i]?=some v->kindOf x=some .local ->
 bindL kindOf (P.zip vs) m x=some v
 |[],_,_,_,_,h,_,_=>by simp at h
 |_::_,[],_,_,_,_,h,_=>by simp at h
 |p::P,w::vs,0,m,nd,h1,h2,hk=>by
  simp at h1 h2;subst h1;subst h2;show bindL kindOf ((p,w)::P.zip vs) m p=_;unfold bindL;rw[HN λv hv=>(nodup_cons.mp nd).1 (List.of_mem_zip hv).1,if_pos hk];simp
 |p::P,w::vs,i+1,m,nd,h1,h2,hk=>by
  show bindL kindOf ((p,w)::P.zip vs) m x=_;unfold bindL;exact HP (i:=i) (nodup_cons.mp nd).2 (by simpa using h1) (by simpa using h2) hk
theorem HU{kindOf:Str->Option NameKind}{x:Str}{v:Value}:∀{P:List Str} {vs:List Value} {i:Nat} {m:Str->Option Value},P.Nodup->P[i]?=some x->vs[i]?=some v->kindOf x≠some .local ->
 bindC kindOf (P.zip vs) m x=some v
 |[],_,_,_,_,h,_,_=>by simp at h
 |_::_,[],_,_,_,_,h,_=>by simp at h
 |p::P,w::vs,0,m,nd,h1,h2,hk=>by
  simp at h1 h2;subst h1;subst h2;show bindC kindOf ((p,w)::P.zip vs) m p=_;unfold bindC;rw[HQ λv hv=>(nodup_cons.mp nd).1 (List.of_mem_zip hv).1,if_neg hk];simp
 |p::P,w::vs,i+1,m,nd,h1,h2,hk=>by
  show bindC kindOf ((p,w)::P.zip vs) m x=_;unfold bindC;exact HU (i:=i) (nodup_cons.mp nd).2 (by simpa using h1) (by simpa using h2) hk
def CJ(N:List Str)(vs:List V):St:=vs.map some++List.replicate (N.length-vs.length) none
def F0(CX:CXT)(P:Program)(w:World)(K:PySem.W.Frag)(mg:Str->Option Value)(base:Heap)(N:List Str)(qual:Str)(scope:Scope)(f:Addr)(cd:Value)(A:Around)(outer:List Env)(s:Shared)(H:Hp)(E:XK):Cx where
 prog:=P
 w:=w
 K:=K
 mg:=mg
 base:=base
 A:=A.deeper (envOfC qual scope s.heap.objs.size f cd)
 N:=N
 s₀:=s
 H₀:=H
 env:=envOfC qual scope s.heap.objs.size f cd
 outer:=outer
 stack:=envOfC qual scope s.heap.objs.size f cd::outer
 ex:=[]
 calm:=true
 fn:=λ_=>true
 pn:=[]
 xe:=λe s'=>wpAny (model P w) (A.deeper (envOfC qual scope s.heap.objs.size f cd)) (leaving (envOfC qual scope s.heap.objs.size f cd) e) (λ_ s''=>CX outer H s E e s'') (λe' s''=>CX outer H s E e' s'') s'
def J0{sc:Scope}{n:Nat}{x:Str}(h:sc.names.lookup x=some .cell):∃c,(cellsFrom n sc.names []).lookup x=some c:=by
 have q:=PySem.W.cellsFrom_some sc.names n [] (.inl h);exact isSome_iff_exists.mp q
def LS{CX:CXT}{P:Program}{w:World}{K:PySem.W.Frag}{mg:Str->Option Value}{base:Heap}{N ps:List Str}{qual:Str}{scope:Scope}{f:Addr}{cd:Value}{A:Around}{outer:List Env}{s s1:Shared}{H:Hp}{E:XK}{us:List Value}{vs:List V}
 (S:FnScope N ps scope) (hd:A.handled=none) (e0:Env0 P w K mg base A outer s H) (hl:vs.length=ps.length) (r:Vals vs us)
 (x:InCallC s s.heap.objs.size (bindL (envOfC qual scope s.heap.objs.size f cd).kindOf (ps.zip us) λ_=>none) (cellsFrom (s.heap.objs.size+1) scope.names []) (bindC (envOfC qual scope s.heap.objs.size f cd).kindOf (ps.zip us) λ_=>none) s1):
 Inv (F0 CX P w K mg base N qual scope f cd A outer s H E) [] (CJ N vs) H s1:=by
 have hpl:ps.length<=N.length:=by have:=congrArg List.length S.pre;rw[length_take]at this;omega
 obtain⟨h1,tk,rfl,hk⟩:=x.done;have noA:∀b:Addr,b∉(F0 CX P w K mg base N qual scope f cd A outer s H E).ex:=λb z=>absurd (show b∈([]:List Addr)from z) (by simp);refine⟨⟨e0.mod,S.kind,rfl,rfl,le_refl _,λy z c h1 h2=>?_,λy hy=>?_,λy c _ h=>?_,λ_=>hd,Around.frames_deeper e0.frames,.inr ⟨rfl,rfl⟩,λb z=>absurd z (noA b),e0.bs,e0.bsz,λb _ _=>noA b,λb z=>absurd z (noA b),e0.funs,e0.frf⟩,
  rfl,e0.bare,Un.kept hk,⟨_,x.toInCall.ns,λi y v h1 h2 h3=>?_⟩,λy c h=>⟨_,x.cell y c h⟩,e0.hok.fresh (le_refl _),λy c h=>?_,λp hp=>absurd (show p∈([]:List (Addr×Obj))from hp) (by simp),e0.hok.kept hk,?_⟩
 .exact name_of_addr x.apart (PySem.mem_of_lookup h1) (PySem.mem_of_lookup h2)
 .have hy:scope.names.lookup y=some .cell∨scope.names.lookup y=some .free:=hy;rcases hy with hy|hy
  .exact J0 hy
  .exact absurd rfl (S.nofree _ (PySem.mem_of_lookup hy))
 .exact le_of_lt (x.above y c (PySem.mem_of_lookup h))
 .have hi:i<vs.length:=by
   unfold CJ at h2;by_cases hi:i<vs.length
   .exact hi
   .rw[List.getElem?_append_right (by simpa using hi)]at h2;rw[List.getElem?_replicate]at h2;split at h2<;>cases h2
  have ha:vs[i]?=some v:=by
   unfold CJ at h2;rw[List.getElem?_append_left (by simpa using hi),List.getElem?_map]at h2;cases e:vs[i]? with
   |none=>rw[e]at h2;cases h2
   |some a=>rw[e]at h2;cases h2;rfl
  obtain⟨u,hu,rv⟩:=r.get ha;have hp:ps[i]?=some y:=by
   rw[<- S.pre,List.getElem?_take_of_lt (by omega)];exact h1
  have ndP:ps.Nodup:=by rw[<- S.pre];exact S.nd.sublist (List.take_sublist _ _)
  refine⟨u,rv,?_⟩;rcases S.par y (mem_of_getElem? hp)with k|k
  .exact .inl ⟨k,HP ndP hp hu k⟩
  .obtain⟨c,e⟩:=J0 (n:=s.heap.objs.size+1) k;refine .inr ⟨.inl k,c,e,?_⟩;have q:=x.cell y c e;rw[HU ndP hp hu (by show scope.names.lookup y≠_;rw[k];decide)]at q;exact q
 .exact e0.hok.fresh (le_of_lt (x.above y c (PySem.mem_of_lookup h)))
 .unfold CJ;show _=N.length;rw[length_append,length_map,List.length_replicate];omega
def Ur{CX:CXT}{P:Program}{w:World}{K:PySem.W.Frag}{mg:Str->Option Value}{base:Heap}{k:Nat}{f:Addr}{name qual:Str}{params:Arguments}{body:List Stmt}{scope:Scope}{dV kV doc pm cdv ct oc:Value}{an od:Option Addr}
 {osl:Array (Option Value)} {N ps:List Str} {sp:Sp} (lk:K.lookup f=some ⟨oc,od,.func (PySem.W.fnOf name qual params body scope dV kV doc pm an cdv ct),osl⟩) (hcd:PySem.W.codeIn K cdv qual=true) (S:FnScope N ps scope)
 (len:∀vs H Q E,sp vs H Q E->vs.length=ps.length)
 (hbody:∀(A:Around) (outer:List Env) (s:Shared) (H:Hp) (vs:List V) (Q:VK) (E:XK),Room k (A.deeper (envOfC qual scope s.heap.objs.size f cdv))->sp vs H Q E ->
  ∃t,PSs (F0 CX P w K mg base N qual scope f cdv A outer s H E) body t/\t { nx:=λ_ H'=>Q .non H',rt:=Q } (CJ N vs) H):
 FnOk P w K mg base CX (k+1) f (PySem.W.fnOf name qual params body scope dV kV doc pm an cdv ct) ps sp:=by
 refine⟨len,λA outer s H args us vs Q E hr e0 hb r hsp=>?_⟩;have hl:=len _ _ _ _ hsp;have KX:K.In s.heap:=e0.mod.kin.keeps λb o e=>(e0.bs b o e).1;have lim:s.heap.NoLimit:=e0.mod.nolimit.keeps λb o e=>(e0.bs b o e).1;have hkind:∀y∈ps.zip us,scope.names.lookup y.1=some .local∨(scope.names.lookup y.1=some .cell/\((cellsFrom (s.heap.objs.size+1) scope.names []).lookup y.1).isSome=true):=λ⟨n,v⟩ hy=>by
  rcases S.par n (List.of_mem_zip hy).1 with q|q
  .exact .inl q
  .exact .inr ⟨q,PySem.W.cellsFrom_some _ _ _ (.inl q)⟩
 refine codeAny_call_function hr.depth (KX _ _ lk) rfl S.co S.gen rfl (PySem.W.codeRec_of KX hcd) (hb _ _ _ _ ?_);refine wpAny_newFunctionEnv_cells S.kind hkind λenv he s1 x=>?_;subst he;refine⟨lim.keeps x.toInCall.keep,codeAny_func ?_⟩;obtain⟨t,ht,hq⟩:=hbody A outer s H vs Q E (hr.deeper _) hsp;have I:Inv (F0 CX P w K mg base N qual scope f cdv A outer s H E) [] (CJ N vs) H s1:=LS S hr.hd e0 hl r x;refine wpAny_mono (ht [] s1 (CJ N vs) H _ I hq) (λfl s' hs=>?_) λe s' hs=>hs;have fin:∀{σ':St} {H':Hp} {v:V} {u:Value},Inv (F0 CX P w K mg base N qual scope f cdv A outer s H E) [] σ' H' s'->RelV v u->Q v H'->CE outer P w H s Q u s':=
  λ{σ' H' v u} J rv q=>⟨v,H',J.os,J.bare,J.base,J.hok,rv,q⟩
 cases fl with
 |ret u=>
  obtain⟨v,σ',H',J,rv,q⟩:=hs;exact fin J rv q
 |next=>
  obtain⟨σ',H',J,q⟩:=hs;exact fin (v:=V.non) (u:=Value.none) J rfl q
 |brk=>
  obtain⟨_,_,_,q⟩:=hs;exact False.elim q
 |cont=>
  obtain⟨_,_,_,q⟩:=hs;exact False.elim q
section
variable{X:Cx}{x:Str}{p pos:Pos}{e:Expr}{es:List Expr}{t:TA}{id T:String}{r:List V->Hp->VK->Prop}
def tCB(r:List V->Hp->VK->Prop)(t:TA):TE:=λσ H Q=>t σ H λvs H1=>r vs H1 Q
def Mu(hc:Ba X (.builtin id) r)(hg:Gl X x)(hm:X.mg x=none)(hv:bootBuiltins x=some (.builtin id))(ha:PA X (e::es) t)(hn:x≠"__name__":=by decide)(hdb:(x==("__debug__":Str))=false:=by decide)
 (he:starEach (e::es) X.env=(false,eval e X.env)::starEach es X.env:=by rfl) (hpl:(backTo pos (starEach es X.env)).any (·.1)=false:=by rfl):PE X (.Call (.Name x p) (e::es) [] pos) (tCB r t):=by
 intro pins s σ H Q I h;refine wpAny_Call_Name_kw (Eu I hg hm hv ?_ hn hdb);exact PyProof.Rows.callWith_builtin1 (thn (ha pos pins s σ H _ I h) λus s1 ⟨vs,H1,I1,r1,q1⟩=>hc pins s1 σ H1 vs us Q I1 r1 q1) he hpl
def En(hc:Ba X (.type T) r)(hg:Gl X x)(hm:X.mg x=none)(hv:bootBuiltins x=some (.type T))(ha:PA X (e::es) t)(hn:x≠"__name__":=by decide)(hdb:(x==("__debug__":Str))=false:=by decide)
 (he:starEach (e::es) X.env=(false,eval e X.env)::starEach es X.env:=by rfl) (hpl:(backTo pos (starEach es X.env)).any (·.1)=false:=by rfl):PE X (.Call (.Name x p) (e::es) [] pos) (tCB r t):=by
 intro pins s σ H Q I h;refine wpAny_Call_Name_kw (Eu I hg hm hv ?_ hn hdb);exact PyProof.Rows.callWith_type1 (thn (ha pos pins s σ H _ I h) λus s1 ⟨vs,H1,I1,r1,q1⟩=>hc pins s1 σ H1 vs us Q I1 r1 q1) he hpl
end
end L2
namespace HT
open PySem PyProof.Rows
section
variable{prog:Program}{w:World}{A:Around}{E:Value->Shared->Prop}{s:Shared}
def cat_tup{t b:Addr}{vs ws:List Value}{Q:Value->Shared->Prop}(ht:IsTup s.heap t vs.toArray)(hb:IsTup s.heap b ws.toArray)(hv:vs≠[])
 (h1:ws=[]->Q (.ref t) s) (h2:ws≠[]->Q (.ref s.heap.objs.size) { s with heap:=s.heap.push { cls:=.type "tuple",data:=.seq (vs++ws).toArray } })
 (hsz:vs.length+ws.length<=sizeLine):wpAny (model prog w) A (binaryOp .Add (.ref t) (.ref b)) Q E s:=by
 obtain⟨⟨cls,dd,data,sl⟩,ho,hc,n,hd⟩:=id ht;obtain⟨⟨cls2,dd2,data2,sl2⟩,ho2,hc2,n2,hd2⟩:=id hb;simp only at hc hd hc2 hd2;subst hc hd hc2 hd2;have e:vs.toArray++ws.toArray=(vs++ws).toArray:=by simp
 by_cases hw:ws=[]
 .exact concat_meets ⟨_,ho,rfl⟩ ⟨_,ho2,rfl⟩ noFill_tuple_add seq_tuple_add PySem.F.slot_tuple_add PySem.F.entry_tuple_add (PySem.F.args_tuple_add_2 _ _)
   (tuple_addW1 t b vs.toArray ws.toArray n n2 dd dd2 sl sl2 (by simpa using hv) (by simp[hw])) ⟨ho,ho2,h1 hw⟩
 .refine concat_meets ⟨_,ho,rfl⟩ ⟨_,ho2,rfl⟩ noFill_tuple_add seq_tuple_add PySem.F.slot_tuple_add PySem.F.entry_tuple_add (PySem.F.args_tuple_add_2 _ _)
   (tuple_addW2 t b vs.toArray ws.toArray n n2 dd dd2 sl sl2 (by simpa using hv) (by simpa using hw) (by rw[size_toArray,size_toArray];exact hsz)) ⟨ho,ho2,?_⟩
  rw[e];exact h2 hw
def sIx(n d:Nat):Option Int->Nat
 |none=>d
 |some v=>if v<0 then(v+(n:Int)).toNat else min v.toNat n
def R9(n d:Nat)(hd:d<=n)(o:Option Int):sIx n d o<=n:=by
 cases o with
 |none=>exact hd
 |some v=>
  show(if v<0 then(v+(n:Int)).toNat else min v.toNat n)<=n;by_cases hv:v<0
  .rw[if_pos hv];omega
  .rw[if_neg hv];exact Nat.min_le_right _ _
def Jj(v:Int)(n d:Nat):(if v<0 then max (v+(n:Int)) 0 else min v (n:Int))=((sIx n d (some v):Nat):Int):=by
 show(if v<0 then max (v+(n:Int)) 0 else min v (n:Int))=(((if v<0 then(v+(n:Int)).toNat else min v.toNat n):Nat):Int);by_cases hv:v<0
 .simp only[if_pos hv];omega
 .simp only[if_neg hv];omega
def Kf(lo hi:Option Int)(n:Nat):Builtin.Slice.sliceAdjust lo hi 1 (n:Int)=(((sIx n 0 lo:Nat):Int),((sIx n n hi:Nat):Int)):=by
 have h1:¬ ((1:Int)<0):=by omega
 unfold Builtin.Slice.sliceAdjust;simp only[h1,if_false];refine Prod.ext ?_ ?_
 .cases lo with
  |none=>rfl
  |some v=>exact Jj v n 0
 .cases hi with
  |none=>rfl
  |some v=>exact Jj v n n
def KH(i j:Nat):Builtin.Slice.slicePlaces (i:Int) (j:Int) 1=j-i:=by
 unfold Builtin.Slice.slicePlaces;have h1:(1:Int)>0:=by omega
 simp only[h1,if_true,Int.ediv_one];split<;>omega
def Fu{v:Value}{o:Option Int}{Q:Option Int->Shared->Prop}(p:IsPart v o)(h:Q o s):wpAny (model prog w) A (Builtin.Slice.slicePartIndex v) Q E s:=by
 cases p with
 |none=>exact slicePart_none h
 |int i t=>exact slicePart_int h
def DN{sl:Addr}{vl vu:Value}{lo hi:Option Int}{n:Nat}{Q:Int×Int×Nat->Shared->Prop}(hs:s.heap.IsSliceOf sl vl vu .none)(pl:IsPart vl lo)(pu:IsPart vu hi)
 (h:Q (((sIx n 0 lo:Nat):Int),1,sIx n n hi-sIx n 0 lo) s):wpAny (model prog w) A (Builtin.Slice.sliceApplied (.ref sl) (pure (n:Int))) Q E s:=by
 obtain⟨os,hos,hcs,hds⟩:=id hs;unfold Builtin.Slice.sliceApplied Builtin.Slice.sliceFields;refine wpAny_bind (wpAny_bind (wpAny_field hos hds (x:=vl) rfl (wpAny_bind (wpAny_field hos hds (x:=vu) rfl (wpAny_bind (wpAny_field hos hds (x:=.none) rfl (wpAny_pure ?_)))))));refine wpAny_bind (slicePart_none ?_);show wpAny _ _ (if((1:Int)==0)=true then _ else _) _ _ s;rw[if_neg (by decide)];refine wpAny_bind (Fu pl (wpAny_bind (Fu pu (wpAny_bind (wpAny_pure ?_)))));show wpAny _ _ (match Builtin.Slice.sliceAdjust lo hi 1 (n:Int)with|(lo,hi)=>pure (lo,(1:Int),Builtin.Slice.slicePlaces lo hi 1)) _ _ s;rw[Kf lo hi n];show wpAny _ _ (pure (((sIx n 0 lo:Nat):Int),(1:Int),Builtin.Slice.slicePlaces ((sIx n 0 lo:Nat):Int) ((sIx n n hi:Nat):Int) 1)) _ _ s;rw[KH];exact wpAny_pure h
def Mq(xs:Array Value)(i k:Nat):((List.range k).filterMap λ(m:Nat)=>xs[((i:Int)+(m:Int)*1).toNat]?).toArray=((xs.toList.drop i).take k).toArray:=by
 have e:(λ(m:Nat)=>xs[((i:Int)+(m:Int)*1).toNat]?)=λm=>xs[i+m]? := by
  funext m
  have:((i:Int)+(m:Int)*1).toNat=i+m:=by omega
  rw[this]
 rw[e];have:=pick_run xs i k;rw[List.filterMap_map]at this;have e2:((λx=>xs[x]?) ∘ λx=>i+x)=λm=>xs[i+m]? := rfl;rw[e2]at this;rw[this]
def getItem_tuple_cut{t sl:Addr}{items:Array Value}{vl vu:Value}{lo hi:Option Int}{Q:Value->Shared->Prop}(ht:IsTup s.heap t items)(hs:s.heap.IsSliceOf sl vl vu .none)(pl:IsPart vl lo)(pu:IsPart vu hi)
 (hw:¬ (sIx items.size 0 lo=0/\sIx items.size items.size hi=items.size))
 (h:Q (.ref s.heap.objs.size) { s with heap:=s.heap.push { cls:=.type "tuple",data:=.seq ((items.toList.drop (sIx items.size 0 lo)).take (sIx items.size items.size hi-sIx items.size 0 lo)).toArray } })
 (hsz:items.size<=sizeLine):wpAny (model prog w) A (getItem (.ref t) (.ref sl)) Q E s:=by
 have htake:sizeOk (.seq ((items.toList.drop (sIx items.size 0 lo)).take (sIx items.size items.size hi-sIx items.size 0 lo)).toArray):=by
  show((items.toList.drop (sIx items.size 0 lo)).take (sIx items.size items.size hi-sIx items.size 0 lo)).toArray.size<=sizeLine;rw[size_toArray,length_take,length_drop,Array.length_toList];omega
 have hj:sIx items.size items.size hi<=items.size:=R9 _ _ (le_refl _) hi;obtain⟨os,hos,hcs,hds⟩:=id hs;have hTs:s.TypeIs (.ref sl) "slice":=⟨os,hos,hcs⟩
 unfold getItem
 try with_reducible refine wpAny_holding ?_
 first|refine wpAny_bind (wpAny_pure ?_)|skip
 refine wpAny_bind (wpAny_sequenceKey ht.typeIs (by decide) ?_);refine wpAny_bind (wpAny_callSpecial?_slot (name:=Str.ofString "__getitem__") ht.typeIs PyProof.Rows.slot_tuple_getitem
  (wpAny_call_entry PyProof.Rows.slot_tuple_getitem ht.typeIs entry_tuple_getitem ?_ (args_tuple_getitem _ _)))
 show wpAny _ _ (Builtin.Tuple.tupleItemsOf (.ref t) >>= _) _ _ s;refine wpAny_bind (tupleItemsOf_ ht ?_);refine wpAny_bind (wpAny_typeOf hTs ?_);rw[if_pos (by decide)];refine wpAny_bind (DN hs pl pu ?_);have hno:¬ ((((sIx items.size 0 lo:Nat):Int)==0&&(1:Int)==1&&(sIx items.size items.size hi-sIx items.size 0 lo)==items.size)=true):=by
  intro q;rw[Bool.and_eq_true,Bool.and_eq_true]at q;have q1:((sIx items.size 0 lo:Nat):Int)=0:=eq_of_beq q.1.1;have q2:sIx items.size items.size hi-sIx items.size 0 lo=items.size:=eq_of_beq q.2;exact hw ⟨by omega,by omega⟩
 show wpAny _ _ (if(((sIx items.size 0 lo:Nat):Int)==0&&(1:Int)==1&&(sIx items.size items.size hi-sIx items.size 0 lo)==items.size)=true then _ else _) _ _ s;rw[if_neg hno,Mq]
 first
  |exact wpAny_bind (m:=Builtin.Tuple.tupleExact _) (wpAny_newObj_type (wpAny_pure ⟨_,rfl,wpAny_pure h⟩) htake)
  |exact wpAny_bind (m:=Builtin.Tuple.tupleExact _) (wpAny_newObj_type (wpAny_bind (wpAny_pure (wpAny_pure ⟨_,rfl,wpAny_pure h⟩))) htake)
  |exact wpAny_bind (wpAny_bind (m:=Builtin.Tuple.tupleExact _) (wpAny_newObj_type (wpAny_pure (wpAny_pure ⟨_,rfl,wpAny_pure h⟩)) htake))
  |exact wpAny_bind (wpAny_bind (m:=Builtin.Tuple.tupleExact _) (wpAny_newObj_type (wpAny_pure ⟨_,rfl,wpAny_pure h⟩) htake))
end
end HT
namespace L2
open PySem PySem.Spec PyProof.Rows
abbrev TO:=St->Hp->(Option Int->Hp->Prop)->Prop
def PO(X:Cx)(e:Option Expr)(t:TO):Prop:=
 ∀(pins:List (Addr×Obj)) (s:Shared) (σ:St) (H:Hp) (Q:Option Int->Hp->Prop),Inv X pins σ H s->t σ H Q ->
   wpAny (model X.prog X.w) X.A (evalPart e X.env) (λu s'=>∃o H',Inv X pins σ H' s'/\IsPart u o/\Q o H') X.xe s
def GS:TO:=λ_ H Q=>Q none H
def Jy(t:TE):TO:=λσ H Q=>t σ H λx H1=>∃i,x=.int i/\Q (some i) H1
section
variable{X:Cx}{e:Expr}{te:TE}{lo hi:Option Expr}{tl th:TO}{pos p2:Pos}
def Ph:PO X none GS:=by
 intro pins s σ H Q I h;rw[evalPart_none];exact wpAny_pure ⟨none,H,I,.none,h⟩
def Pf(h:PE X e te):PO X (some e) (Jy te):=by
 intro pins s σ H Q I hw;rw[evalPart_some];refine thn (h pins s σ H _ I hw) λu s1 ⟨x,H1,I1,r1,q1⟩=>?_;obtain⟨i,rfl,q⟩:=q1;obtain⟨t,rfl⟩:=r1;exact⟨some i,H1,I1,.int i t,q⟩
def SlR(X:Cx)(r:V->Option Int->Option Int->Hp->VK->Prop):Prop:=
 ∀(pins:List (Addr×Obj)) (s:Shared) (σ:St) (H:Hp) (x:V) (v vl vu:Value) (lo hi:Option Int) (sl:Addr) (Q:VK),Inv X pins σ H s->RelV x v->s.heap.IsSliceOf sl vl vu .none->IsPart vl lo->IsPart vu hi->r x lo hi H Q ->
   ∃T id,typeLookup (.type T) "__getitem__"=pure (some (.builtin id))/\s.TypeIs v T/\wpAny (model X.prog X.w) X.A (getItem v (.ref sl)) (EP X pins σ Q) X.xe s
def tSl(r:V->Option Int->Option Int->Hp->VK->Prop)(te:TE)(tl th:TO):TE:=λσ H Q=>te σ H λx H1=>tl σ H1 λl H2=>th σ H2 λu H3=>r x l u H3 Q
def FY{r:V->Option Int->Option Int->Hp->VK->Prop}(hr:SlR X r)(he:PE X e te)(hl:PO X lo tl)(hu:PO X hi th):PE X (.Subscript e (.Slice lo hi none p2) pos) (tSl r te tl th):=by
 intro pins s σ H Q I h;refine Subscript_ (thn (he pins s σ H _ I h) λv s1 ⟨x,H1,I1,r1,q1⟩=>?_);refine wpAny_Slice (thn (hl pins s1 σ H1 _ I1 q1) λvl s2 ⟨l,H2,I2,pl,q2⟩=>thn (hu pins s2 σ H2 _ I2 q2) λvu s3 ⟨u,H3,I3,pu,q3⟩=>?_);rw[evalPart_none];refine wpAny_pure ?_;have I4:Inv X pins σ H3 { s3 with heap:=s3.heap.push { cls:=.type "slice",data:=.fields #[vl,vu,.none] } }:=I3.kept (t':=s3.toks) λb ob q=>Heap.get?_push_of_some _ q;obtain⟨T,id,hT,ht,hg⟩:=hr pins { s3 with heap:=s3.heap.push { cls:=.type "slice",data:=.fields #[vl,vu,.none] } } σ H3 x v vl vu l u s3.heap.objs.size Q I4 r1 (Heap.IsSliceOf.new ..) pl pu q3;show wpAny (model X.prog X.w) X.A (subscriptTail e (.Slice lo hi none p2) v (.ref s3.heap.objs.size)) (EP X pins σ Q) X.xe { s3 with heap:=s3.heap.push { cls:=.type "slice",data:=.fields #[vl,vu,.none] } };exact tail_any (ops:=[.ref s3.heap.objs.size,v]) ht hT hg (by with_unfolding_all rfl)
def Du(xs:List V)(lo hi:Option Int):List V:=(xs.drop (HT.sIx xs.length 0 lo)).take (HT.sIx xs.length xs.length hi-HT.sIx xs.length 0 lo)
def FR(xs:List V)(lo hi:Option Int):(Du xs lo hi).length<=xs.length:=by
 unfold Du;rw[length_take,length_drop];omega
def S1(K:PySem.W.Frag):V->Option Int->Option Int->Hp->VK->Prop:=λx lo hi H Q=>∃a xs,x=.ref a/\SqT K H a xs /\
 ¬ (HT.sIx xs.length 0 lo=0/\HT.sIx xs.length xs.length hi=xs.length)/\∀p,H p=none->Q (.ref p) (upd H p (.tup (Du xs lo hi)))
def Qu:SlR X (S1 X.K):=by
 intro pins s σ H x v vl vu lo hi sl Q I rx hs pl pu h;obtain⟨a,xs,rfl,hx,hw,q⟩:=h;cases rx;obtain⟨its,r,ht,hz⟩:=I.tuple hx;have hlen:its.toArray.size=xs.length:=by rw[size_toArray];exact r.length.symm
 refine⟨"tuple",_,PyProof.Rows.slot_tuple_getitem.lookup,ht.typeIs,?_⟩;refine HT.getItem_tuple_cut ht hs pl pu (by rw[hlen];exact hw) ?_ (by rw[hlen];exact hz);rw[hlen];refine⟨.ref s.heap.objs.size,_,I.laid (t':=s.toks) (o:=.tup (Du xs lo hi)) (λb ob q=>Heap.get?_push_of_some _ q) (le_refl _) ?_,rfl,q _ (I.hok.fresh (le_refl _))⟩;exact⟨le_trans (FR xs lo hi) hz,_,(r.drop (HT.sIx xs.length 0 lo)).take (HT.sIx xs.length xs.length hi-HT.sIx xs.length 0 lo),IsTupD.new _ _⟩
def KD(K:PySem.W.Frag):R2:=λx y H Q=>∃a b xs ys,x=.ref a/\y=.ref b/\SqT K H a xs/\SqT K H b ys/\xs≠[]/\xs.length+ys.length<=sizeLine /\
 (ys=[]->Q (.ref a) H)/\(ys≠[]->∀p,H p=none->Q (.ref p) (upd H p (.tup (xs++ys))))
def Vals.nil_iff{xs:List V}{us:List Value}(r:Vals xs us):us=[]↔xs=[]:=by
 cases r with
 |nil=>simp
 |cons _ _=>simp
def Py:OpR X (binaryOp .Add) (KD X.K):=by
 intro pins s σ H x y v u Q I rx ry h;obtain⟨a,b,xs,ys,rfl,rfl,ha,hb,hx,hz,q1,q2⟩:=h;cases rx;cases ry;obtain⟨its,r1,p1,_⟩:=I.tuple ha;obtain⟨its2,r2,p2,_⟩:=I.tuple hb;refine HT.cat_tup p1 p2 (λz=>hx (r1.nil_iff.mp z)) (λz=>⟨.ref a,H,I,rfl,q1 (r2.nil_iff.mp z)⟩) (λz=>?_) (by rw[<- r1.length,<- r2.length];exact hz);refine⟨.ref s.heap.objs.size,_,I.laid (t':=s.toks) (o:=.tup (xs++ys)) (λb ob q=>Heap.get?_push_of_some _ q) (le_refl _) ?_,rfl,q2 (λw=>z (r2.nil_iff.mpr w)) _ (I.hok.fresh (le_refl _))⟩;exact⟨by rw[length_append];exact hz,_,r1.append r2,IsTupD.new _ _⟩
end
def ixN(n:Nat)(i:Int):Option Nat:=if 0<=i then(if i<n then some i.toNat else none)else if -(n:Int)<=i then some (i+n).toNat else none
def atI{α:Type}(xs:List α)(i:Int):Option α:=(ixN xs.length i).bind λj=>xs[j]?
def QK{n:Nat}{i:Int}{j:Nat}(h:ixN n i=some j):seqIndex? i n=some j/\j<n/\-(n:Int)<=i/\i<n:=by
 unfold ixN at h;by_cases h0:0<=i
 .rw[if_pos h0]at h;by_cases h1:i<n
  .rw[if_pos h1]at h;have e:i.toNat=j:=Option.some.inj h;exact⟨by rw[seqIndex_of h0 h1,e],by omega,by omega,h1⟩
  .rw[if_neg h1]at h;cases h
 .rw[if_neg h0]at h;by_cases h1:-(n:Int)<=i
  .rw[if_pos h1]at h;have e:(i+n).toNat=j:=Option.some.inj h;exact⟨by rw[seqIndex_neg (by omega) h1,e],by omega,h1,by omega⟩
  .rw[if_neg h1]at h;cases h
def Jo{α:Type}{xs:List α}{i:Int}{v:α}(h:atI xs i=some v):∃j,seqIndex? i xs.length=some j/\xs[j]?=some v/\j<xs.length/\-(xs.length:Int)<=i/\i<xs.length:=by
 unfold atI at h;cases e:ixN xs.length i with
 |none=>rw[e]at h;cases h
 |some j=>
  rw[e]at h;obtain⟨h1,h2,h3,h4⟩:=QK e;exact⟨j,h1,h,h2,h3,h4⟩
def Jm{α:Type}{xs:List α}{j:Nat}{v:α}(h:xs[j]?=some v):atI xs (j:Int)=some v:=by
 have hj:j<xs.length:=(List.getElem?_eq_some_iff.mp h).1;have e:ixN xs.length (j:Int)=some j:=by
  unfold ixN;rw[if_pos (by omega),if_pos (by omega)];simp
 unfold atI;rw[e];exact h
def NJ{α:Type}(xs:List α)(v:α):atI (xs++[v]) (-1)=some v:=by
 have hl:(xs++[v]).length=xs.length+1:=by simp
 have e:ixN (xs++[v]).length (-1)=some xs.length:=by
  unfold ixN;rw[hl,if_neg (by decide),if_pos (by omega)]
  congr 1
  omega
 unfold atI;rw[e];show(xs++[v])[xs.length]?=some v;simp
def HB(b:Expr):Prop:=∀o i,subscripted b false o i=operate [o,i] (getItem o i)
def IxR(X:Cx)(r:R2):Prop:=
 ∀(value slice:Expr) (pins:List (Addr×Obj)) (s:Shared) (σ:St) (H:Hp) (x y:V) (v u:Value) (Q:VK),Inv X pins σ H s->RelV x v->RelV y u->r x y H Q ->
   subscripted slice false v u=operate [v,u] (getItem v u)->wpAny (model X.prog X.w) X.A (subscriptTail value slice v u) (EP X pins σ Q) X.xe s
def MtR(X:Cx)(id:String)(r:V->List V->Hp->VK->Prop):Prop:=
 ∀(pins:List (Addr×Obj)) (s:Shared) (σ:St) (H:Hp) (x:V) (xs:List V) (v:Value) (us:List Value) (Q:VK),Inv X pins σ H s->RelV x v->Vals xs us->r x xs H Q ->
   wpAny (model X.prog X.w) X.A (call (.builtin id) (v::us)) (EP X pins σ Q) X.xe s
section
variable{X:Cx}{a b:Expr}{ta tb:TE}{pos:Pos}
def IxR.or{r r':R2}(h:IxR X r)(h':IxR X r'):IxR X (λx y H Q=>r x y H Q∨r' x y H Q):=by
 intro value slice pins s σ H x y v u Q I rx ry q hs;rcases q with q|q
 .exact h value slice pins s σ H x y v u Q I rx ry q hs
 .exact h' value slice pins s σ H x y v u Q I rx ry q hs
def Nk{r:R2}(hr:IxR X r)(ha:PE X a ta)(hb:PE X b tb)(hs:HB b):PE X (.Subscript a b pos) (tOp r ta tb):=by
 intro pins s σ H Q I h;exact Subscript_ (NI ha hb I h λv u s2 x y H2 I2 rx ry q=>hr a b pins s2 σ H2 x y v u Q I2 rx ry q (hs _ _))
def Ma(K:PySem.W.Frag):R2:=λx y H Q=>∃p xs i v,x=.ref p/\y=.int i/\SqL K H p xs/\atI xs i=some v/\Q v H
def MZ(K:PySem.W.Frag):R2:=λx y H Q=>∃p xs i v,x=.ref p/\y=.int i/\SqT K H p xs/\atI xs i=some v/\Q v H
def QJ:IxR X (Ma X.K):=by
 intro value slice pins s σ H x y v u Q I rx ry h hs;obtain⟨p,xs,i,z,rfl,rfl,hq,he,q⟩:=h;cases rx;obtain⟨t,rfl⟩:=ry;obtain⟨its,r,pl,hz⟩:=I.list hq;obtain⟨j,h1,h2,h3,h4,h5⟩:=Jo he;obtain⟨w,ew,rw'⟩:=r.get h2;have hl:=r.length;have hn:=GA;have fin:EP X pins σ Q w s:=⟨z,H,I,rw',q⟩
 by_cases h0:0<=i
 .have hj:i.toNat=j:=by
   rw[seqIndex_of h0 h5]at h1;exact Option.some.inj h1
  exact item_listR pl.isList h0 (by omega) (by rw[hj];simpa using ew) fin hs
 .have hj:(i+(its.toArray.size:Int)).toNat=j:=by
   rw[seqIndex_neg (by omega) h4]at h1;rw[size_toArray,<- hl];exact Option.some.inj h1
  exact subscriptTail_builtinR (x:=w) pl.isList.typeIs slot_list_getitem.lookup
   (wpAny_getItem_list_neg (Q:=λr s'=>r=w/\EP X pins σ Q r s') pl.isList (by omega) (by rw[size_toArray]<;>omega) (by omega) (by rw[hj];simpa using ew) ⟨rfl,fin⟩) hs
def Tf:IxR X (MZ X.K):=by
 intro value slice pins s σ H x y v u Q I rx ry h hs;obtain⟨p,xs,i,z,rfl,rfl,hq,he,q⟩:=h;cases rx;obtain⟨t,rfl⟩:=ry;obtain⟨its,r,pl,hz⟩:=I.tuple hq;obtain⟨j,h1,h2,h3,h4,h5⟩:=Jo he;obtain⟨w,ew,rw'⟩:=r.get h2;have hl:=r.length;have hn:=GA;have fin:EP X pins σ Q w s:=⟨z,H,I,rw',q⟩
 exact subscriptTail_builtinR (x:=w) pl.typeIs slot_tuple_getitem.lookup
  (getItem_tuple (j:=j) (Q:=λr s'=>r=w/\EP X pins σ Q r s') pl (by omega) (by omega) (by rw[size_toArray,<- hl];exact h1) (by simpa using ew) ⟨rfl,fin⟩) hs
theorem Inv.lst{pins:List (Addr×Obj)}{σ:St}{H:Hp}{s:Shared}{p:Addr}{xs:List V}(I:Inv X pins σ H s)(h:H p=some (.lst xs)):
 ∃(its:List Value) (n:Nat),Vals xs its/\s.heap.get? p=some { cls:=.type "list",data:=.seq its.toArray n }/\xs.length<=sizeLine:=by
 obtain⟨z,its,n,r,e⟩:=I.hok p _ h;exact⟨its,n,r,e,z⟩
def IF(lo hi:Option Int)(n:Nat):(sliceBounds lo hi none n).1=((HT.sIx n 0 lo:Nat):Int)/\(sliceBounds lo hi none n).2.1=((HT.sIx n n hi:Nat):Int)/\(sliceBounds lo hi none n).2.2=1:=by
 refine⟨?_,?_,rfl⟩
 .cases lo with
  |none=>simp[sliceBounds,HT.sIx]
  |some i=>
   simp only[sliceBounds,HT.sIx,Option.getD_none,show(1:Int)>0 by decide,if_true];by_cases h:i<0
   .simp only[h,if_true]<;>omega
   .simp only[h,if_false]<;>omega
 .cases hi with
  |none=>simp[sliceBounds,HT.sIx]
  |some i=>
   simp only[sliceBounds,HT.sIx,Option.getD_none,show(1:Int)>0 by decide,if_true];by_cases h:i<0
   .simp only[h,if_true]<;>omega
   .simp only[h,if_false]<;>omega
def HV(its:List Value)(lo hi:Option Int):slicePick its.toArray lo hi none=((its.drop (HT.sIx its.length 0 lo)).take (HT.sIx its.length its.length hi-HT.sIx its.length 0 lo)).toArray:=by
 obtain⟨h1,h2,h3⟩:=IF lo hi its.toArray.size;unfold slicePick;rw[h1,h2,h3];simp only[sliceRange_one,pick_run,size_toArray]<;>rfl
def KB(K:PySem.W.Frag):V->Option Int->Option Int->Hp->VK->Prop:=λx lo hi H Q=>∃a xs,x=.ref a/\SqL K H a xs/\∀p,H p=none->Q (.ref p) (upd H p (.lst (Du xs lo hi)))
def OK:SlR X (KB X.K):=by
 intro pins s σ H x v vl vu lo hi sl Q I rx hs pl pu h;obtain⟨a,xs,rfl,hx,q⟩:=h;cases rx;obtain⟨its,r,ht,hz⟩:=I.list hx;have hlen:=r.length;refine⟨"list",_,slot_list_getitem.lookup,ht.isList.typeIs,?_⟩;refine wpAny_getItem_list_slice ht.isList hs pl pu .none (by simp) ?_ (by rw[size_toArray]<;>omega);rw[HV,<- hlen];refine⟨.ref s.heap.objs.size,_,I.laid (t':=s.toks) (o:=.lst (Du xs lo hi)) (λb ob q=>Heap.get?_push_of_some _ q) (le_refl _) ?_,rfl,q _ (I.hok.fresh (le_refl _))⟩;exact⟨le_trans (FR xs lo hi) hz,_,0,(r.drop (HT.sIx xs.length 0 lo)).take (HT.sIx xs.length xs.length hi-HT.sIx xs.length 0 lo),Heap.get?_push_size _ rfl⟩
def Ct:V->Bool
 |.non=>true
 |.bl _=>true
 |.int _=>true
 |.str _=>true
 |_=>false
def eqV:V->V->Bool
 |.non,.non=>true
 |.bl a,.bl b=>a==b
 |.bl a,.int b=>(if a then 1 else 0)==b
 |.int a,.bl b=>a==(if b then 1 else 0)
 |.int a,.int b=>a==b
 |.str a,.str b=>a==b
 |_,_=>false
def U2{A:Around}{s:Shared}{y x:V}{u v:Value}(ry:RelV y u)(rx:RelV x v)(fy:Ct y=true)(fx:Ct x=true):SeqAt.EqAt A s u v (eqV y x):=by
 cases y with
 |non=>
  cases ry;cases x with
  |non=>cases rx;exact SeqAt.EqAt.same _
  |bl b=>cases rx;exact SeqAt.EqAt.none_bool b
  |int b=>obtain⟨t,rfl⟩:=rx;exact SeqAt.EqAt.none_int b t
  |str b=>obtain⟨t,rfl⟩:=rx;exact SeqAt.EqAt.none_str b t
  |_=>exact absurd (show false=true from fx) Bool.false_ne_true
 |bl a=>
  cases ry;cases x with
  |non=>cases rx;exact SeqAt.EqAt.bool_none a
  |bl b=>cases rx;exact SeqAt.EqAt.bool_bool a b
  |int b=>obtain⟨t,rfl⟩:=rx;exact SeqAt.EqAt.bool_int a b t
  |str b=>obtain⟨t,rfl⟩:=rx;exact SeqAt.EqAt.bool_str a b t
  |_=>exact absurd (show false=true from fx) Bool.false_ne_true
 |int a=>
  obtain⟨t',rfl⟩:=ry;cases x with
  |non=>cases rx;exact SeqAt.EqAt.int_none a t'
  |bl b=>cases rx;exact SeqAt.EqAt.int_bool a t' b
  |int b=>obtain⟨t,rfl⟩:=rx;exact SeqAt.EqAt.int_int a t' b t
  |str b=>obtain⟨t,rfl⟩:=rx;exact SeqAt.EqAt.int_str a t' b t
  |_=>exact absurd (show false=true from fx) Bool.false_ne_true
 |str a=>
  obtain⟨t',rfl⟩:=ry;cases x with
  |non=>cases rx;exact SeqAt.EqAt.str_none a t'
  |bl b=>cases rx;exact SeqAt.EqAt.str_bool a t' b
  |int b=>obtain⟨t,rfl⟩:=rx;exact SeqAt.EqAt.str_int a t' b t
  |str b=>obtain⟨t,rfl⟩:=rx;exact SeqAt.EqAt.str_str a t' b t
  |_=>exact absurd (show false=true from fx) Bool.false_ne_true
 |_=>exact absurd (show false=true from fy) Bool.false_ne_true
def eqU(x:V)(u:Value):Bool:=match u with
 |.none=>eqV .non x
 |.bool b=>eqV (.bl b) x
 |.int i _=>eqV (.int i) x
 |.str z _=>eqV (.str z) x
 |_=>false
def La{x y:V}{u:Value}(r:RelV y u)(f:Ct y=true):eqU x u=eqV y x:=by
 cases y with
 |non=>cases r;rfl
 |bl b=>cases r;rfl
 |int i=>obtain⟨t,rfl⟩:=r;rfl
 |str z=>obtain⟨t,rfl⟩:=r;rfl
 |_=>exact absurd (show false=true from f) Bool.false_ne_true
theorem HA{x:V}:∀{xs:List V} {us:List Value},Vals xs us->xs.all Ct=true->us.any (eqU x)=xs.any λy=>eqV y x
 |_,_,.nil,_=>rfl
 |y::xs,u::us,.cons r t,f=>by
  rw[List.all_cons,Bool.and_eq_true]at f;rw[any_cons,any_cons,La r f.1,HA t f.2]
theorem Fb{A:Around}{s:Shared}{x:V}{v:Value}(rx:RelV x v)(fx:Ct x=true):∀{xs:List V} {us:List Value},Vals xs us->xs.all Ct=true->∀u∈us,SeqAt.EqAt A s u v (eqU x u)
 |_,_,.nil,_=>λu hu=>by cases hu
 |y::xs,u::us,.cons r t,f=>λu' hu=>by
  rw[List.all_cons,Bool.and_eq_true]at f;rcases mem_cons.mp hu with rfl|hu
  .rw[La r f.1];exact U2 r rx f.1 fx
  .exact Fb rx fx t f.2 u' hu
def inV(x:V)(xs:List V):Bool:=xs.any λy=>eqV y x
def rIn(K:PySem.W.Frag)(neg:Bool):R2:=λx y H Q=>∃p xs,y=.ref p/\(SqL K H p xs∨SqT K H p xs)/\Ct x=true/\xs.all Ct=true/\Q (.bl (if neg then !inV x xs else inV x xs)) H
def LH:OpR X (compareOp .In) (rIn X.K false):=by
 intro pins s σ H x y v u Q I rx ry h;obtain⟨p,xs,rfl,hq,fx,fs,q⟩:=h;cases ry;rcases hq with hq|hq
 .obtain⟨its,r,pl,hz⟩:=I.list hq;refine SeqAt.in_listAt (eqU x) pl.isList (λw hw=>Fb rx fx r fs w (by simpa using hw)) ⟨.bl _,H,I,rfl,?_⟩;rw[show its.toArray.any (eqU x)=its.any (eqU x) by simp,HA r fs];exact q
 .obtain⟨its,r,pl,hz⟩:=I.tuple hq;refine SeqAt.in_tupleAt (eqU x) pl (λw hw=>Fb rx fx r fs w (by simpa using hw)) ⟨.bl _,H,I,rfl,?_⟩;rw[show its.toArray.any (eqU x)=its.any (eqU x) by simp,HA r fs];exact q
def J2:Ba X (.builtin "len") (λxs H Q=>∃p ys,xs=[.ref p]/\(SqL X.K H p ys∨SqT X.K H p ys)/\Q (.int ys.length) H):=by
 intro pins s σ H xs us Q I r h;obtain⟨p,ys,rfl,hq,q⟩:=h;obtain⟨u,rfl,rx⟩:=C2 r;cases rx;have hn:=GA;rcases hq with hq|hq
 .obtain⟨its,r',pl,hz⟩:=I.list hq;have hlen:=r'.length;exact Calls.call_len_list pl.isList (by simp only[size_toArray]<;>omega) ⟨.int ys.length,H,I.tok _,⟨s.toks+1,by rw[size_toArray,hlen]⟩,q⟩
 .obtain⟨its,r',pl,hz⟩:=I.tuple hq;have hlen:=r'.length;exact len_tuple pl (by simp only[size_toArray]<;>omega) ⟨.int ys.length,H,I.tok _,⟨s.toks+1,by rw[size_toArray,hlen]⟩,q⟩
def J1:Ba X (.type "list") (λxs H Q=>∃p ys,xs=[.ref p]/\(SqL X.K H p ys∨SqT X.K H p ys)/\∀l,H l=none->Q (.ref l) (upd H l (.lst ys))):=by
 intro pins s σ H xs us Q I r h;obtain⟨p,ys,rfl,hq,q⟩:=h;obtain⟨u,rfl,rx⟩:=C2 r;cases rx;have fin:∀(its:List Value),Vals ys its->ys.length<=sizeLine->∀(h':Heap) (c':Nat),(∀b o',s.heap.get? b=some o'->h'.get? b=some o') ->
  h'.get? s.heap.objs.size=some { cls:=.type "list",dict:=none,data:=.seq its.toArray c',slots:=#[] }->EP X pins σ Q (.ref s.heap.objs.size) { s with heap:=h' }:=λits r' hz h' c' kp e=>
  ⟨.ref s.heap.objs.size,_,I.laid (t':=s.toks) kp (le_refl _) (show ObjOk X.prog X.w _ h' _ (.lst ys)from⟨hz,its,c',r',e⟩),rfl,q _ (I.hok.fresh (le_refl _))⟩
 rcases hq with hq|hq
 .obtain⟨its,r',pl,hz⟩:=I.list hq;have hlen:=r'.length;obtain⟨o,ho,hc,n,hd⟩:=pl.isList;exact call_list_seq p (.inl rfl) ho hc hd (λh' c' kp e=>fin its r' hz h' c' kp e) (by simp only[size_toArray]<;>omega)
 .obtain⟨its,r',pl,hz⟩:=I.tuple hq;have hlen:=r'.length;obtain⟨o,ho,hc,n,hd⟩:=pl;exact call_list_seq p (.inr rfl) ho hc hd (λh' c' kp e=>fin its r' hz h' c' kp e) (by simp only[size_toArray]<;>omega)
def tyV(K:PySem.W.Frag)(T:String)(x:V)(H:Hp):Prop:=match x with
 |.str _=>T="str"
 |.int _=>T="int"
 |.ref p=>(T="list"/\∃xs,SqL K H p xs)∨(T="tuple"/\∃o,K.lookup p=some o/\o.cls=.type "tuple"/\o.dict=none) ∨
  (T="dict"/\((∃kvs,H p=some (.dK kvs))∨∃kvs,H p=some (.dT kvs)))∨(T="set"/\∃S n,H p=some (.set S n))
 |_=>False
def Kj{pins:List (Addr×Obj)}{σ:St}{H:Hp}{s:Shared}{T:String}{x:V}{v:Value}(I:Inv X pins σ H s)(r:RelV x v)(ty:tyV X.K T x H):
 s.TypeIs v T/\∀a,v=.ref a->∃ob,s.heap.get? a=some ob/\ob.dict=none:=by
 cases x with
 |str z=>
  obtain⟨t,rfl⟩:=r;cases(show T="str" from ty);exact⟨typeIs_str s z t,λ_ e=>nomatch e⟩
 |int i=>
  obtain⟨t,rfl⟩:=r;cases(show T="int" from ty);exact⟨typeIs_int s i t,λ_ e=>nomatch e⟩
 |ref p=>
  cases r;rcases ty with⟨rfl,xs,hq⟩|⟨rfl,o,hk,hc,hd⟩|⟨rfl,hk⟩|⟨rfl,S,n,hk⟩
  .obtain⟨its,_,pl,_⟩:=I.list hq;refine⟨pl.isList.typeIs,λa e=>?_⟩;cases e;obtain⟨o,n,e,c,hd,_⟩:=pl;exact⟨o,e,hd⟩
  .refine⟨⟨o,I.kIn p o hk,hc⟩,λa e=>?_⟩;cases e;exact⟨o,I.kIn _ o hk,hd⟩
  .have z:∃o,s.heap.get? p=some o/\o.ExactDict:=by
    rcases hk with⟨kvs,hk⟩|⟨kvs,hk⟩
    .obtain⟨_,_,_,_,o,_,_,e,ex,_⟩:=I.hok p _ hk;exact⟨o,e,ex⟩
    .obtain⟨_,_,_,_,o,_,_,e,ex,_⟩:=I.hok p _ hk;exact⟨o,e,ex⟩
   obtain⟨o,e,ex⟩:=z;refine⟨⟨o,e,ex.1⟩,λa e2=>?_⟩;cases e2;exact⟨o,e,ex.2.1⟩
  .obtain⟨o,_,_,_,e,ex,_⟩:=I.hok p _ hk;refine⟨⟨o,e,ex.1⟩,λa e2=>?_⟩;cases e2;exact⟨o,e,ex.2.1⟩
 |_=>exact False.elim ty
def M8(K:PySem.W.Frag)(T:String)(r:V->List V->Hp->VK->Prop)(to:TE):TE:=λσ H Q=>to σ H λx H1=>tyV K T x H1/\r x [] H1 Q
def tBM(K:PySem.W.Frag)(T:String)(r:V->List V->Hp->VK->Prop)(to:TE)(t:TA):TE:=λσ H Q=>to σ H λx H1=>tyV K T x H1/\t σ H1 λxs H2=>r x xs H2 Q
variable{o e:Expr}{es:List Expr}{to:TE}{t:TA}{name:Str}{apos cpos:Pos}{T id:String}{r:V->List V->Hp->VK->Prop}
def T0(pa:PlainAttrs T)(slot:Slot T name id)(hty:typeOf (.builtin id)=pure (.type "method_descriptor"))(hm:MtR X id r)(ho:PE X o to)
 (hbase:attributeBase o name X.env (eval o X.env)=eval o X.env:=by rfl) (hline:(apos.endLine==cpos.line)=true:=by rfl):PE X (.Call (.Attribute o name apos) [] [] cpos) (M8 X.K T r to):=by
 intro pins s σ H Q I h;refine wpAny_Call_method0_late hbase hline (thn (ho pins s σ H _ I h) λv s1 ⟨x,H1,I1,r1,ty,q1⟩=>?_);obtain⟨h1,h2⟩:=Kj I1 r1 ty;exact⟨T,id,pa,slot,hty,h1,h2,Calls.callWith_builtin rfl (PySem.evalArgs_none (hm pins s1 σ H1 x [] v [] Q I1 r1 .nil q1))⟩
def Uc(pa:PlainAttrs T)(slot:Slot T name id)(hty:typeOf (.builtin id)=pure (.type "method_descriptor"))(hm:MtR X id r)(ho:PE X o to)(ha:PA X (e::es) t)
 (hbase:attributeBase o name X.env (eval o X.env)=eval o X.env:=by rfl)
 (hfew:((backTo cpos (starEach (e::es) X.env)).all (λx=>!x.1)&&(backToKw cpos (keywordEach [] X.env)).all (λx=>x.1.isSome)
  && decide ((e::es).length+([]:List Keyword).length+(if([]:List Keyword).isEmpty then 0 else 1)<30))=true:=by rfl)
 (hline:(apos.endLine==cpos.line)=true:=by rfl) (hs:starEach (e::es) X.env=(false,eval e X.env)::starEach es X.env:=by rfl) (hplain:(backTo cpos (starEach es X.env)).any (·.1)=false:=by rfl):
 PE X (.Call (.Attribute o name apos) (e::es) [] cpos) (tBM X.K T r to t):=by
 intro pins s σ H Q I h;refine wpAny_Call_method_late hbase hfew hline rfl (thn (ho pins s σ H _ I h) λv s1 ⟨x,H1,I1,r1,ty,q1⟩=>?_);obtain⟨h1,h2⟩:=Kj I1 r1 ty;refine⟨T,id,pa,slot,hty,h1,h2,?_⟩;have hA:=ha cpos pins s1 σ H1 _ I1 q1;rw[hs]at hA ⊢;refine Calls.callWith_builtin (by show(false||(backTo cpos (starEach es X.env)).any (·.1))=false;rw[hplain]<;>rfl) (Calls.evalArgs_plain ?_);exact thn hA λus s2 ⟨vs,H2,I2,r2,q2⟩=>hm pins s2 σ H2 x vs v us Q I2 r1 r2 q2
end
def MtM(X:Cx)(id:String)(r:V->List V->Hp->VK->Prop):Prop:=
 ∀(pins:List (Addr×Obj)) (s:Shared) (σ:St) (H:Hp) (x:V) (xs:List V) (v:Value) (us:List Value) (Q:VK),Inv X pins σ H s->RelV x v->Vals xs us->r x xs H Q ->
   wpAny (model X.prog X.w) X.A (call (.builtin id) (v::us)) (EP X pins σ Q) X.xe s
def Vals.one:∀{x:V} {us:List Value},Vals [x] us->∃u,us=[u]/\RelV x u
 |_,_,.cons r .nil=>⟨_,rfl,r⟩
section
variable{X:Cx}{pins:List (Addr×Obj)}{σ:St}{H:Hp}{s:Shared}{l b:Addr}{xs ys zs:List V}
def Inv.lset{its its':List Value}{n:Nat}{f:Array Value->Array Value}{t':Nat}(I:Inv X pins σ H s)(hH:H l=some (.lst xs))
 (e:s.heap.get? l=some { cls:=.type "list",data:=.seq its.toArray n }) (hf:f its.toArray=its'.toArray) (hv:Vals ys its') (hz:ys.length<=sizeLine):
 Inv X pins σ (upd H l (.lst ys)) { s with heap:=s.heap.update l (Obj.mapSeq f),toks:=t' }:=by
 have q:=PySem.IsL.update e f;rw[hf]at q;refine I.write (x:=l) (e:=l) (by rw[hH];exact trivial) (.inl rfl) (λb' u hb hu=>(Heap.get?_update_other s.heap (Obj.mapSeq f) (Ne.symm hb)).trans hu) ⟨_,q⟩ ?_;exact⟨hz,its',_,hv,q⟩
def Inv.lnew{its:List Value}{t':Nat}(I:Inv X pins σ H s)(hv:Vals ys its)(hz:ys.length<=sizeLine):
 Inv X pins σ (upd H s.heap.objs.size (.lst ys)) { s with heap:=s.heap.push { cls:=.type "list",data:=.seq its.toArray },toks:=t' }:=
 I.laid (λ_ _ q=>Heap.get?_push_of_some _ q) (le_refl _) ⟨hz,its,0,hv,Heap.get?_push_size _ rfl⟩
theorem Inv.fresh(I:Inv X pins σ H s):H s.heap.objs.size=none:=I.hok.fresh (le_refl _)
def Inv.lstM(I:Inv X pins σ H s)(hH:H l=some (.lst xs)):xs.length<=sizeLine/\∃(its:List Value) (n:Nat),Vals xs its/\xs.length=its.length/\s.heap.get? l=some { cls:=.type "list",data:=.seq its.toArray n }:=by
 obtain⟨z,its,n,r,e⟩:=I.hok l _ hH;exact⟨z,its,n,r,r.length,e⟩
def My{n:Nat}(h:n<=sizeLine):Builtin.List.listTooLong n=false:=by
 unfold Builtin.List.listTooLong;exact decide_eq_false (by omega)
end
section
variable{X:Cx}
def JX:V->List V->Hp->VK->Prop:=λx vs H Q=>∃l xs y,x=.ref l/\vs=[y]/\H l=some (.lst xs)/\xs.length<sizeLine/\Q .non (upd H l (.lst (xs++[y])))
def HJ:MtM X "list.append" JX:=by
 intro pins s σ H x vs v us Q I rx rv h;obtain⟨l,xs,y,rfl,rfl,hH,hz,q⟩:=h;cases rx;obtain⟨u,rfl,ru⟩:=rv.one;obtain⟨z,its,n,r,hl,e⟩:=I.lstM hH;refine call_meets F.slot_list_append ⟨_,e,rfl⟩ F.entry_list_append (F.args_list_append_2 _ _) (PySem.list_append l its.toArray n u (by rw[size_toArray];omega)) ⟨e,?_⟩;refine⟨.non,_,I.lset (its':=its++[u]) hH e (by simp) (r.append (.cons ru .nil)) ?_,rfl,q⟩;rw[length_append,List.length_singleton];omega
def Ow:V->List V->Hp->VK->Prop:=λx vs H Q=>∃l b xs zs,x=.ref l/\vs=[.ref b]/\H l=some (.lst xs)/\H b=some (.lst zs)/\xs.length+zs.length<=sizeLine/\Q .non (upd H l (.lst (xs++zs)))
def V7:MtM X "list.extend" Ow:=by
 intro pins s σ H x vs v us Q I rx rv h;obtain⟨l,b,xs,zs,rfl,rfl,hH,hB,hz,q⟩:=h;cases rx;obtain⟨u,rfl,ru⟩:=rv.one;cases ru;obtain⟨z,its,n,r,hl,e⟩:=I.lstM hH;obtain⟨z2,its2,n2,r2,hl2,e2⟩:=I.lstM hB;have hsz:its.toArray.size+its2.toArray.size<=sizeLine:=by rw[size_toArray,size_toArray];omega
 have hlong:¬ (!its.toArray.isEmpty&&Builtin.List.listTooLong (its.toArray.size+its2.toArray.size))=true:=by
  rw[My hsz,Bool.and_false];exact Bool.false_ne_true
 refine call_meets F.slot_list_extend ⟨_,e,rfl⟩ F.entry_list_extend (F.args_list_extend_2 _ _)
  (AutoSeq1.list_extend_list_list_0 l its.toArray n b its2.toArray n2 hlong (by rw[size_toArray];omega) (by omega)) ⟨e,e2,?_⟩
 refine⟨.non,_,I.lset (its':=its++its2) hH e (by simp) (r.append r2) ?_,rfl,q⟩;rw[length_append];omega
def Mc:R2:=λx y H Q=>∃l b xs zs,x=.ref l/\y=.ref b/\H l=some (.lst xs)/\H b=some (.lst zs)/\xs.length+zs.length<=sizeLine/\∀p,H p=none->Q (.ref p) (upd H p (.lst (xs++zs)))
def TF:OpR X (binaryOp .Add) Mc:=by
 intro pins s σ H x y v u Q I rx ry h;obtain⟨l,b,xs,zs,rfl,rfl,hH,hB,hz,q⟩:=h;cases rx;cases ry;obtain⟨z,its,n,r,hl,e⟩:=I.lstM hH;obtain⟨z2,its2,n2,r2,hl2,e2⟩:=I.lstM hB;refine PySem.P.add_list e e2 ?_ (by rw[size_toArray,size_toArray];omega);have ea:its.toArray++its2.toArray=(its++its2).toArray:=by simp
 rw[ea];exact⟨.ref _,_,I.lnew (t':=s.toks) (r.append r2) (by rw[length_append];omega),rfl,q _ I.fresh⟩
end
end L2
namespace Att
open PySem PySem.W PySem.Calls PyProof.Rows
def GD{P:Params}{h:Heap}:∀(ns:List Int) (vs:List Value),WellAll P h vs (ns.map WData.int)->IntsAre vs ns:=by
 intro ns
 induction ns with
 |nil=>
  intro vs w;rw[map_nil]at w;cases w;exact .nil
 |cons n ns ih=>
  intro vs w;rw[map_cons]at w;cases w with
  |cons a b=>
   cases a;exact .cons _ _ (ih _ b)
def Kp{l:OpenLaw}{n:Nat}(hn:l.most=some n){P:Params}{h:Heap}{args:List WData}{vals:List Value}
 (hpre:l.row.toRowW.claim.pre args=true) (hwl:WellAll P h vals args):
 ∃a vs ns,vals=[Value.ref a]/\args=[WData.list (ns.map WData.int)]/\h.get? a=some { cls:=.type "list",data:=.seq vs.toArray }/\IntsAre vs ns/\ns.length<=n:=by
 have hsh:WShape.hasAll [] args [.list .int]=true:=(pre_splitW hpre).1;have hc:l.pre.holds [] { args:=args }=true:=(pre_splitW hpre).2;obtain⟨d,r,rfl,h1,h2⟩:=hasAllW_cons hsh;obtain rfl:=hasAllW_nil h2;obtain⟨xs,rfl,h3⟩:=hasW_list h1;obtain⟨ns,rfl⟩:=items_int h3;have hlen:ns.length<=n:=by
  unfold OpenLaw.pre at hc;have h4:(WTm.not (.lt (.lit (.int (n:Int))) (.len (.arg 0)))).holds [] { args:=[.list (ns.map .int)] }=true:=by
   have h4:=(holds_andW hc).1;rw[hn]at h4;exact h4
  have h5:=condW_of h4 (w_not (w_lt w_lit (w_len_list (w_arg rfl))));rw[length_map]at h5;refine Nat.le_of_not_lt λq=>?_;have q':(n:Int)<((ns.length:Nat):Int):=by omega
  first
   |(rw[decide_eq_true q']at h5;exact absurd h5 (by decide))
   |(simp at h5;omega)
 cases hwl with
 |cons w1 w2=>
  cases w2;cases w1 with
  |list ho hall=>exact⟨_,_,ns,rfl,rfl,ho,GD ns _ hall,hlen⟩
def LC(l:OpenLaw)(args:List WData):l.row.toRowW.claim.post args (.bool true) args=true:=
 postW_of (r:=l.row.toRowW) (X:=(true==true))
  (show WShape.has [] (.bool true) .bool=true by first|rfl|decide|simp[WShape.has,WShape.arms,WShape.armsAll])
  (show(WTm.eq .res (.lit (.bool true))).value [] { args:=args,res:=some (.bool true),after:=args }=some (.bool (true==true))from w_eq_bool (w_res rfl) w_lit) rfl
def attach_call{l:OpenLaw}{n:Nat}{q:Program}{loose:List Str}{XP:(Str->Option Value)->Heap->Prop}{YP:World->Heap->Prop}{d:DefRec}
 (hn:l.most=some n) (hdf:d.params.defaults=[])
 (call:∀(w:World) (s₀ s₁:Shared) (mg mb:Str->Option Value) (fa:Addr) (o:Obj) (pm cd doc:Value) (a:Addr) (vs:List Value) (ns:List Int),
  Ground q loose [] XP w s₀ mg mb s₁.heap->YP w s₁.heap ->
  s₁.heap.get? fa=some o->o.data=.func (docDef d.name d.params d.body d.scope pm cd doc)->s₁.heap.CodeRec cd d.name->mg d.name=some (.ref fa) ->
  s₁.heap.get? a=some { cls:=.type "list",data:=.seq vs.toArray }->IntsAre vs ns->ns.length<=n->s₁.gens=#[] ->
  codeAny (model l.prog w) callerA (.call (.ref fa) ⟨[.ref a],[]⟩) (λr s'=>r=.ok (.ret (.bool true))/\OldK s₁.heap s'.heap/\s'.os=s₁.os/\AllBare s'.gens) s₁):
 WalkO q loose XP YP l.row.toRowW d [] (λf vs=>PySem.call f vs):=by
 intro w s₀ s₁ mg mb G Y fa o pm cd doc dV kV ho hd hcd hD hmg hg args vals as hpre hlay hrd hwl hlo;obtain rfl:dV=.none:=Dflts.none hD hdf;obtain rfl:kV=.none:=Dflts.noKw hD;obtain⟨a,vs,ns,rfl,rfl,hobj,hints,hlen⟩:=Kp hn hpre hwl;refine enter_call (codeAny_mono (call w s₀ s₁ mg mb fa o pm cd doc a vs ns G Y ho (fd_plain hd) hcd hmg hobj hints hlen hg) λr s' hq=>?_);obtain⟨rfl,h2,h3,h4⟩:=hq;exact⟨.inl ⟨.bool true,.bool true,[],rfl,λ_=>rfl,.bool true,LC l _,λ_=>⟨List.Pairwise.nil,λ_ hm=>(nomatch hm)⟩⟩,h2,h3,h4⟩
end Att
namespace L2
open PySem PySem.Spec PyProof.Rows
theorem HC:∀{vs:List Value} {ns:List Int},IntsAre vs ns->Vals (ns.map V.int) vs
 |_,_,.nil=>.nil
 |_,_,.cons n t h=>.cons ⟨t,rfl⟩ (HC h)
def Bs(s:Stmt):Arguments:=match s with
 |.FunctionDef _ a _ _ _ _ _ _ _ _=>a
 |_=>{ posonlyargs:=[],args:=[],vararg:=none,kwonlyargs:=[],kw_defaults:=[],kwarg:=none,defaults:=[] }
def BM(s:Stmt):List Stmt:=match s with
 |.FunctionDef _ _ b _ _ _ _ _ _ _=>b
 |_=>[]
def AD(s:Stmt):Scope:=match s with
 |.FunctionDef _ _ _ _ _ _ sc _ _ _=>sc
 |_=>{ kind:=.function,names:=[],isGenerator:=false,isCoroutine:=false }
abbrev CX0:CXT:=λ_ _ _ _ _ _=>False
abbrev E0:XK:=λ_ _ _=>False
def Nm{X:Cx}:GK CX0 X E0:=λ_ _ _ _ _ _ _ h=>h.elim
structure Fun(K:PySem.W.Frag)(x qual:Str)(st:Stmt)(f:Addr)(fd:FuncData):Prop where
 ex:∃(oc:Value) (od:Option Addr) (kV doc pm:Value) (an:Option Addr) (cdv ct:Value) (osl:Array (Option Value)),
  fd=PySem.W.fnOf x qual (Bs st) (BM st) (AD st) .none kV doc pm an cdv ct/\K.lookup f=some ⟨oc,od,.func fd,osl⟩/\PySem.W.codeIn K cdv qual=true
 kp:PySem.W.keepIn K (.ref f)=true
section
variable{P:Program}{w:World}{K:PySem.W.Frag}{mg:Str->Option Value}{base:Heap}
def Fun.ok{x qual:Str}{st:Stmt}{f:Addr}{fd:FuncData}{N ps:List Str}{k:Nat}{sp:Sp}(F:Fun K x qual st f fd)(S:FnScope N ps (AD st))(len:∀vs H Q E,sp vs H Q E->vs.length=ps.length)
 (hbody:∀(cdv:Value) (A:Around) (outer:List Env) (s:Shared) (H:Hp) (vs:List V) (Q:VK) (E:XK),Room k (A.deeper (envOfC qual (AD st) s.heap.objs.size f cdv))->sp vs H Q E ->
  ∃t,PSs (F0 CX0 P w K mg base N qual (AD st) f cdv A outer s H E).nox (BM st) t/\t { nx:=λ_ H'=>Q .non H',rt:=Q } (CJ N vs) H):FnOk P w K mg base CX0 (k+1) f fd ps sp:=by
 obtain⟨oc,od,kV,doc,pm,an,cdv,ct,osl,rfl,lk,hcd⟩:=F.ex;refine Ur lk hcd S len λA outer s H vs Q E hr hsp=>?_;obtain⟨t,h,q⟩:=hbody cdv A outer s H vs Q E hr hsp;exact⟨t,h.nox,q⟩
def Fun.binds{x qual:Str}{st:Stmt}{f:Addr}{fd:FuncData}{ps:List Str}(F:Fun K x qual st f fd)
 (h:∀(kV doc pm:Value) (an:Option Addr) (cdv ct:Value) (us:List Value),us.length=ps.length->bindArgs (PySem.W.fnOf x qual (Bs st) (BM st) (AD st) .none kV doc pm an cdv ct) ⟨us,[]⟩=pure (ps.zip us)):Binds K fd ps []:=by
 obtain⟨oc,od,kV,doc,pm,an,cdv,ct,osl,rfl,lk,hcd⟩:=F.ex;exact .all (h kV doc pm an cdv ct)
def Tk{x qual:Str}{st:Stmt}{f:Addr}{oc:Value}{od an:Option Addr}{osl:Array (Option Value)}{kV doc pm cdv ct:Value}(l:K.lookup f=some ⟨oc,od,.func (PySem.W.fnOf x qual (Bs st) (BM st) (AD st) .none kV doc pm an cdv ct),osl⟩)
 (c:PySem.W.codeIn K cdv qual=true) (k:PySem.W.keepIn K (.ref f)=true):Fun K x qual st f (PySem.W.fnOf x qual (Bs st) (BM st) (AD st) .none kV doc pm an cdv ct):=⟨⟨oc,od,kV,doc,pm,an,cdv,ct,osl,rfl,l,c⟩,k⟩
end
def Nu{A:Around}{k:Nat}(hr:Room k A):A.units+1<cLine:=lt_of_le_of_lt (Nat.add_le_add_left (by decide:1<=64) _) hr.units
section
variable{X:Cx}
def pv(i:Nat){x:Str}{pos:Pos}(hN:X.N[i]?=some x:=by rfl)(hv:Vis X.env.scope x:=by first|exact Or.inl rfl|exact Or.inr (Or.inl rfl)|exact Or.inr (Or.inr rfl))(hd:(x==("__debug__":Str))=false:=by decide)
 (hcd:(x==("__classdict__":Str))=false:=by decide):PE X (.Name x pos) (Jv i):=LG hN hv hd hcd
end
section
variable{κ:Type}[DecidableEq κ]
def Ch(kvs:List (κ×V))(k:κ):Option V:=(kvs.find? λkv=>decide (kv.1=k)).map (·.2)
def Bf(kvs:List (κ×V))(k:κ)(v:V):List (κ×V):=
 if(kvs.any λkv=>decide (kv.1=k))=true then kvs.map (λkv=>if kv.1=k then(kv.1,v)else kv)else kvs++[(k,v)]
def DK{p:κ×V}{r:List (κ×V)}{k:κ}(e:p.1=k):Ch (p::r) k=some p.2:=by simp[Ch,find?_cons,e]
def DL{p:κ×V}{r:List (κ×V)}{k:κ}(e:¬ p.1=k):Ch (p::r) k=Ch r k:=by simp[Ch,find?_cons,e]
theorem IC(k:κ):∀kvs:List (κ×V),(kvs.any λkv=>decide (kv.1=k))=(Ch kvs k).isSome
 |[]=>rfl
 |p::r=>by
  rw[any_cons];by_cases e:p.1=k
  .simp only[DK e,decide_eq_true e,Bool.true_or,Option.isSome_some]
  .rw[DL e,decide_eq_false e,Bool.false_or];exact IC k r
def Dr(kvs:List (κ×V))(k:κ)(v:V):(Bf kvs k v).length<=kvs.length+1:=by
 unfold Bf;split
 .rw[length_map];omega
 .rw[length_append,List.length_cons,List.length_nil];omega
def RelO.isSome_eq{o:Option V}{u:Option Value}(r:RelO o u):o.isSome=u.isSome:=by
 cases o with
 |none=>cases u with
  |none=>rfl
  |some _=>exact(show False from r).elim
 |some _=>cases u with
  |none=>exact(show False from r).elim
  |some _=>rfl
def KV.val{kvs:List (κ×V)}{vs:List (κ×Value)}(r:KV kvs vs)(k:κ):RelO (Ch kvs k) (valueAt vs k):=by
 unfold KV at r
 induction r with
 |nil=>exact True.intro
 |@cons p q ps qs h t ih=>
  obtain⟨h1,h2⟩:=h;by_cases e:p.1=k
  .have e':q.1=k:=h1.symm.trans e;have b:valueAt (q::qs) k=some q.2:=by simp[valueAt,find?_cons,e']
   rw[DK e,b];exact h2
  .have e':¬ q.1=k:=λz=>e (h1.trans z);have b:valueAt (q::qs) k=valueAt qs k:=by simp[valueAt,find?_cons,e']
   rw[DL e,b];exact ih
theorem KV.any{kvs:List (κ×V)}{vs:List (κ×Value)}(r:KV kvs vs)(k:κ):(kvs.any λkv=>decide (kv.1=k))=vs.any λkv=>decide (kv.1=k):=by
 unfold KV at r
 induction r with
 |nil=>rfl
 |cons h t ih=>rw[any_cons,any_cons,ih,h.1]
def KV.repl{kvs:List (κ×V)}{vs:List (κ×Value)}(r:KV kvs vs)(k:κ){y:V}{u:Value}(ry:RelV y u):
 KV (kvs.map λkv=>if kv.1=k then(kv.1,y)else kv) (vs.map λkv=>if kv.1=k then(kv.1,u)else kv):=by
 unfold KV at r ⊢
 induction r with
 |nil=>exact .nil
 |@cons p q ps qs h t ih=>
  rw[map_cons,map_cons];refine .cons ?_ ih;obtain⟨h1,h2⟩:=h;by_cases e:p.1=k
  .rw[if_pos e,if_pos (h1.symm.trans e)];exact⟨h1,ry⟩
  .rw[if_neg e,if_neg (λz=>e (h1.trans z))];exact⟨h1,h2⟩
def KV.put{kvs:List (κ×V)}{vs:List (κ×Value)}(r:KV kvs vs)(k:κ){y:V}{u:Value}(ry:RelV y u):KV (Bf kvs k y) (stored vs k u):=by
 unfold Bf stored;rw[r.any k];by_cases e:(vs.any λkv=>decide (kv.1=k))=true
 .rw[if_pos e,if_pos e];exact r.repl k ry
 .rw[if_neg e,if_neg e];exact Paired.snoc r ⟨rfl,ry⟩
theorem KV.length{kvs:List (κ×V)}{vs:List (κ×Value)}(r:KV kvs vs):kvs.length=vs.length:=Paired.length r
end
def Ho{P:Program}{w:World}{k:Key}{u:Value}(r:RelV (kV k) u):(B0 P w).is k u=true:=by
 cases k with
 |inl i=>obtain⟨t,e⟩:=(show ∃t,u=Value.int i t from r);subst e;exact JD P w i t
 |inr x=>obtain⟨t,e⟩:=(show ∃t,u=Value.str x t from r);subst e;exact JC P w x t
theorem HK{P:Program}{w:World}:∀{ks:List Key} {us:List Value},Vals (ks.map kV) us->ItemsAre (B0 P w) ks us
 |[],_,r=>by rw[map_nil]at r;cases r;exact .nil
 |k::ks,_,r=>by
  rw[map_cons]at r;cases r with
  |cons h t=>exact .cons (Ho h) (HK t)
abbrev KT(H:Hp):List (List Key×V)->List (List Key×Addr×Value)->Prop:=Paired λp q=>p.1=q.1/\H q.2.1=some (.tup (p.1.map kV))/\RelV p.2 q.2.2
def KT.val{H:Hp}{kvs:List (List Key×V)}{xs:List (List Key×Addr×Value)}(r:KT H kvs xs)(k:List Key):RelO (Ch kvs k) ((atKey xs k).map (·.2)):=by
 induction r with
 |nil=>exact True.intro
 |@cons p q ps qs h t ih=>
  obtain⟨h1,_,h2⟩:=h;by_cases e:p.1=k
  .have e':q.1=k:=h1.symm.trans e;have b:atKey (q::qs) k=some q.2:=by simp[atKey,find?_cons,e']
   rw[DK e,b];exact h2
  .have e':¬ q.1=k:=λz=>e (h1.trans z);have b:atKey (q::qs) k=atKey qs k:=by simp[atKey,find?_cons,e']
   rw[DL e,b];exact ih
def KT.repl{H:Hp}{kvs:List (List Key×V)}{xs:List (List Key×Addr×Value)}(r:KT H kvs xs)(k:List Key){y:V}{u:Value}(ry:RelV y u):
 KT H (kvs.map λkv=>if kv.1=k then(kv.1,y)else kv) (xs.map (putAt k u)):=by
 induction r with
 |nil=>exact .nil
 |@cons p q ps qs h t ih=>
  rw[map_cons,map_cons];refine .cons ?_ ih;obtain⟨h1,h2,h3⟩:=h;unfold putAt;by_cases e:p.1=k
  .rw[if_pos e,if_pos (h1.symm.trans e)];exact⟨h1,h2,ry⟩
  .rw[if_neg e,if_neg (λz=>e (h1.trans z))];exact⟨h1,h2,h3⟩
def KT.put{H:Hp}{kvs:List (List Key×V)}{xs:List (List Key×Addr×Value)}(r:KT H kvs xs)(k:List Key){b:Addr}{y:V}{u:Value}(hb:H b=some (.tup (k.map kV)))(ry:RelV y u):
 KT H (Bf kvs k y) (storedH xs k b u):=by
 have e:(kvs.any λkv=>decide (kv.1=k))=(atKey xs k).isSome:=by
  rw[IC,(r.val k).isSome_eq,Option.isSome_map]
 unfold Bf storedH;rw[e];by_cases q:(atKey xs k).isSome=true
 .rw[if_pos q,if_pos q];exact r.repl k ry
 .rw[if_neg q,if_neg q];exact Paired.snoc r ⟨rfl,hb,ry⟩
def KT.keeps{H H':Hp}{kvs:List (List Key×V)}{xs:List (List Key×Addr×Value)}(r:KT H kvs xs)(ht:∀b ys,H b=some (.tup ys)->H' b=some (.tup ys)):KT H' kvs xs:=
 Paired.mapP r λ_ _ z=>⟨z.1,ht _ _ z.2.1,z.2.2⟩
section
variable{P:Program}{w:World}{H:Hp}{h:Heap}{a:Addr}
def Nc{u:HO}(ok:HOk P w H h)(e:Rd H a u):ObjOk P w H h a u:=e.ok ok
def KW{kvs:List (Key×V)}(ok:HOk P w H h)(e:Rd H a (.dK kvs)):kvs.length<=sizeLine/\(a==sysModules)=false/\∃vs,KV kvs vs/\h.DictOf (B0 P w) a vs:=
 show ObjOk P w H h a (.dK kvs)from Nc ok e
def Nx{kvs:List (Key×V)}(ok:HOk P w H h)(e:H a=some (.dK kvs)):kvs.length<=sizeLine/\(a==sysModules)=false/\∃vs,KV kvs vs/\h.DictOf (B0 P w) a vs:=KW ok (.inl e)
def Ic{ks:List Key}(ok:HOk P w H h)(e:H a=some (.tup (ks.map kV))):(tupleKind (B0 P w)).is h ks a:=by
 obtain⟨_,its,r,o,h1,h2,⟨n,h3⟩,_⟩:=(show ObjOk P w H h a (.tup (ks.map kV))from ok a _ e)
 exact⟨o,its.toArray,n,h1,h2,h3,by simpa using HK r⟩
def KU{kvs:List (List Key×V)}(ok:HOk P w H h)(e:Rd H a (.dT kvs)):kvs.length<=sizeLine/\(a==sysModules)=false /\
 ∃xs,KT H kvs xs/\h.DictOfH (tupleKind (B0 P w)) a xs:=by
 obtain⟨z,y,xs,r,o,es,ep,h1,h2,h3,h4,h5⟩:=(show ObjOk P w H h a (.dT kvs)from Nc ok e)
 refine⟨z,y,xs,r,o,es,ep,h1,h2,h3,h4,λx hx=>?_,h5⟩;have all:∀{l:List (List Key×V)} {m:List (List Key×Addr×Value)},KT H l m->∀x∈m,(tupleKind (B0 P w)).is h x.1 x.2.1:=by
  intro l m q
  induction q with
  |nil=>intro x hx;exact nomatch hx
  |@cons p q ps qs hq t ih=>
   intro x hx;rcases mem_cons.mp hx with e|hx
   .subst e;exact Ic ok (by rw[<- hq.1];exact hq.2.1)
   .exact ih x hx
 exact all r x hx
def Ux{kvs:List (List Key×V)}(ok:HOk P w H h)(e:H a=some (.dT kvs)):kvs.length<=sizeLine/\(a==sysModules)=false /\
 ∃xs,KT H kvs xs/\h.DictOfH (tupleKind (B0 P w)) a xs:=KU ok (.inl e)
end
def DGet(H:Hp)(a:Addr)(y:V)(r:Option V):Prop:=
 (∃kvs k,Rd H a (.dK kvs)/\y=kV k/\r=Ch kvs k)∨∃kvs k b,Rd H a (.dT kvs)/\y=.ref b/\H b=some (.tup (k.map kV))/\r=Ch kvs k
def DPut(H:Hp)(a:Addr)(y v:V)(H':Hp):Prop:=
 (∃kvs k,H a=some (.dK kvs)/\y=kV k/\kvs.length<sizeLine/\H'=upd H a (.dK (Bf kvs k v))) ∨
 ∃kvs k b,H a=some (.dT kvs)/\y=.ref b/\H b=some (.tup (k.map kV))/\kvs.length<sizeLine/\H'=upd H a (.dT (Bf kvs k v))
theorem DGet.k{H:Hp}{a:Addr}{kvs:List (Key×V)}{k:Key}(e:H a=some (.dK kvs)):DGet H a (kV k) (Ch kvs k):=.inl ⟨kvs,k,.inl e,rfl,rfl⟩
theorem DPut.k{H:Hp}{a:Addr}{kvs:List (Key×V)}{k:Key}{v:V}(e:H a=some (.dK kvs))(hl:kvs.length<sizeLine):DPut H a (kV k) v (upd H a (.dK (Bf kvs k v))):=.inl ⟨kvs,k,e,rfl,hl,rfl⟩
section
variable{X:Cx}{pins:List (Addr×Obj)}{σ:St}{H:Hp}{s:Shared}{a:Addr}{y v:V}{u r:Value}{o:Option V}{A:Around}{E:Value->Shared->Prop}
def Inv.big(I:Inv X pins σ H s):sysModules<s.heap.objs.size:=by
 have h:mainGlobals<s.heap.objs.size:=(I.mod.glob.keeps I.bk).lt;exact lt_trans (by decide) h
def Lf{Q:Value->Shared->Prop}(hu:A.units+1<cLine)(I:Inv X pins σ H s)(g:DGet H a y (some v))(ry:RelV y u)(h:∀w' s',Inv X pins σ H s'->RelV v w'->Q w' s'):
 wpAny (model X.prog X.w) A (getItem (.ref a) u) Q E s:=by
 rcases g with⟨kvs,k,e,ey,l⟩|⟨kvs,k,b,e,ey,eb,l⟩
 .subst ey;obtain⟨z,hd,vs,rel,dd⟩:=KW I.hok e;obtain⟨w',hw,rw'⟩:=RelO.some_of (v:=v) (o:=valueAt vs k) (by rw[l];exact rel.val k);exact wpAny_getItem_of (Ho ry) dd.mapOf hw (h w' _ (I.tok _) rw')
 .subst ey;cases(show u=Value.ref b from ry);obtain⟨z,hd,xs,rel,dd⟩:=KU I.hok e;obtain⟨w',hw,rw'⟩:=RelO.some_of (v:=v) (o:=(atKey xs k).map (·.2)) (by rw[l];exact rel.val k);obtain⟨p,hp,hp2⟩:=XH hw;refine wpAny_getItem_heap (tupleKind_room_in1 hu) (Ic I.hok eb) dd hp ?_;rw[hp2];exact h w' _ (I.tok _) rw'
def Gz{h':Heap}{t':Nat}{ob:HO}(I:Inv X pins σ H s)(mu:Mut (H a))(hs:Heap.SameBut a s.heap h')(he:∃q,h'.get? a=some q)(new:ObjOk X.prog X.w (upd H a ob) h' a ob):
 Inv X pins σ (upd H a ob) { s with heap:=h',toks:=t' }:=
 I.write (x:=a) (e:=a) mu (.inl rfl) (λb q hb z=>(hs.2 b hb).trans z) he new
def Lb{P:Program}{w:World}{H':Hp}{h':Heap}{kvs:List (Key×V)}{vs:List (Key×Value)}(z:kvs.length<=sizeLine)(hd:(a==sysModules)=false)(rel:KV kvs vs)(dd:h'.DictOf (B0 P w) a vs):
 ObjOk P w H' h' a (.dK kvs):=⟨z,hd,vs,rel,dd⟩
def Ld{H':Hp}{Q:Unit->Shared->Prop}(hu:A.units+1<cLine)(I:Inv X pins σ H s)(g:DPut H a y v H')(ry:RelV y u)(rv:RelV v r)(h:∀s',Inv X pins σ H' s'->Q () s'):
 wpAny (model X.prog X.w) A (setItem (.ref a) u r) Q E s:=by
 rcases g with⟨kvs,k,e,ey,l,eH⟩|⟨kvs,k,b,e,ey,eb,l,eH⟩
 .subst ey eH;obtain⟨z,hd,vs,rel,dd⟩:=Nx I.hok e;have hz:vs.length<=sizeLine:=by rw[<- rel.length];exact z
  have hl:(Bf kvs k v).length<=sizeLine:=by have:=Dr kvs k v;omega
  refine wpAny_setItem_pairs (hsz:=hz) (Ho ry) dd λh' dd' hs=>h _ ?_;have he:∃q,h'.get? a=some q:=let ⟨q,_,_,hq,_⟩:=dd';⟨q,hq⟩
  exact Gz I (by rw[e];exact True.intro) hs he (Lb hl hd (rel.put k rv) dd')
 .subst ey eH;cases(show u=Value.ref b from ry);obtain⟨z,hd,xs,rel,dd⟩:=Ux I.hok e;have hz:xs.length<=sizeLine:=by rw[<- Paired.length rel];exact z
  have hl:(Bf kvs k v).length<=sizeLine:=by have:=Dr kvs k v;omega
  refine wpAny_setItem_heap (hsz:=hz) (tupleKind_room_in1 hu) (Ic I.hok eb) dd λh' dd' hs=>h _ ?_;obtain⟨q,es,ep,hq,h2,h3,h4,_,h5⟩:=dd';refine Gz I (by rw[e];exact True.intro) hs ⟨q,hq⟩ ⟨hl,hd,_,(rel.put k eb rv).keeps λc ys ec=>?_,q,es,ep,hq,h2,h3,h4,h5⟩;rw[AU (Ug ec e (λz=>nomatch z))];exact ec
end
def NK(i:Expr):Prop:=∀ov iv,subscripted i false ov iv=operate [ov,iv] (getItem ov iv)
def OG{prog:Program}{w:World}{A:Around}{E:Value->Shared->Prop}{s:Shared}{env:Env}{value slice:Expr}{pos:Pos}{T id:String}{Q:Value->Shared->Prop}
 (hl:typeLookup (.type T) "__getitem__"=pure (some (.builtin id))) (hs:NK slice)
 (h:wpAny (model prog w) A (eval value env) (λo s₁=>wpAny (model prog w) A (eval slice env) (λi s₂=>s₂.TypeIs o T/\wpAny (model prog w) A (getItem o i) Q E s₂) E s₁) E s):
 wpAny (model prog w) A (eval (.Subscript value slice pos) env) Q E s:=by
 refine Subscript_ (wpAny_mono h (λo s₁ h₁=>wpAny_mono h₁ (λi s₂ h₂=>?_) λ_ _ x=>x) λ_ _ x=>x);obtain⟨hT,h₂⟩:=h₂;unfold subscriptTail;refine wpAny_bind ?_;rw[getitemInPython_of_ne hT.not_modules];refine wpAny_bind (wpAny_specialOf hT hl ?_);have fin:wpAny (model prog w) A (subscripted slice false o i) (λr s₃=>wpAny (model prog w) A (letTemporaryGo value o r >>= λ_=>pure r) Q E s₃) E s₂:=by
  rw[hs o i];exact wpAny_operating (wpAny_mono h₂ (λr s₃ h₃=>wpAny_bind (wpAny_letTemporaryGo (wpAny_pure h₃))) λ_ _ x=>x)
 first
  |exact wpAny_pure (wpAny_bind fin)
  |exact wpAny_bind (wpAny_pure (wpAny_bind fin))
  |exact wpAny_bind fin
def JF{X:Cx}{pins:List (Addr×Obj)}{σ:St}{H:Hp}{s:Shared}{a:Addr}{y:V}{o:Option V}(I:Inv X pins σ H s)(g:DGet H a y o):s.TypeIs (.ref a) "dict":=by
 rcases g with⟨kvs,k,e,_,_⟩|⟨kvs,k,b,e,_,_,_⟩
 .obtain⟨_,_,vs,_,dd⟩:=KW I.hok e;exact dd.typeIs
 .obtain⟨_,_,xs,_,dd⟩:=KU I.hok e;exact dd.typeIs
def K3(td ty:TE):TE:=λσ H Q=>td σ H λx H1=>ty σ H1 λy H2=>∃a v,x=.ref a/\DGet H2 a y (some v)/\Q v H2
def K7(td ty tv:TE):TS:=λD σ H=>tv σ H λv H1=>td σ H1 λx H2=>ty σ H2 λy H3=>∃a H4,x=.ref a/\DPut H3 a y v H4/\D.nx σ H4
section
variable{X:Cx}{o i e value:Expr}{pos pos' tpos:Pos}{td ty tv:TE}
def Pr(hu:X.A.units+1<cLine)(ho:PE X o td)(hi:PE X i ty)(hs:NK i):PE X (.Subscript o i pos) (K3 td ty):=by
 intro pins s σ H Q I h;refine OG PySem.F.slot_dict_getitem.lookup hs (thn (ho pins s σ H _ I h) λu s1 ⟨x,H1,I1,rx,q1⟩=>thn (hi pins s1 σ H1 _ I1 q1) λiv s2 ⟨y,H2,I2,ry,a,v,ex,g,q2⟩=>?_);subst ex;obtain rfl:u=Value.ref a:=rx;exact⟨JF I2 g,Lf hu I2 g ry λw' s3 I3 rw'=>⟨v,H2,I3,rw',q2⟩⟩
def Pd(hu:X.A.units+1<cLine)(ho:PE X o td)(hi:PE X i ty)(hv:PE X value tv)(hs:swapsWith value (some (.Subscript o i pos')) pos.line X.env=pure false):
 PS X (.Assign [.Subscript o i pos'] value pos) (K7 td ty tv):=by
 intro pins s σ H D I h;refine wpAny_Assign_Subscript (thn (hv pins s σ H _ I h) λr s1 ⟨v,H1,I1,rv,q1⟩=>thn (ho pins s1 σ H1 _ I1 q1) λu s2 ⟨x,H2,I2,rx,q2⟩=>thn (hi pins s2 σ H2 _ I2 q2) λiv s3 ⟨y,H3,I3,ry,a,H4,ex,g,q3⟩=>?_) hs;subst ex;obtain rfl:u=Value.ref a:=rx;exact Ld hu I3 g ry rv λs4 I4=>⟨σ,H4,I4,q3⟩
end
def NC{P:Program}{w:World}{H:Hp}(h:Heap)(hb:sysModules<h.objs.size):ObjOk P w H (h.push { cls:=.type "dict",data:=.dict #[] }) h.objs.size (.dK []):=
 ⟨zero_le _,beq_eq_false_iff_ne.mpr (Ne.symm (ne_of_lt hb)),[],.nil,Heap.DictOf.new h⟩
def Eh:List (TE×TE)->St->Hp->(List (V×V)->Hp->Prop)->Prop
 |[],_,H,Q=>Q [] H
 |(tk,tv)::r,σ,H,Q=>tk σ H λx H1=>tv σ H1 λy H2=>Eh r σ H2 λps H3=>Q ((x,y)::ps) H3
abbrev VV:List (V×V)->List (Value×Value)->Prop:=Paired λp q=>RelV p.1 q.1/\RelV p.2 q.2
def PPs(X:Cx)(pos:Pos)(keys:List (Option Expr))(values:List Expr)(trs:List (TE×TE)):Prop:=
 ∀(pins:List (Addr×Obj)) (s:Shared) (σ:St) (H:Hp) (Q:List (V×V)->Hp->Prop),Inv X pins σ H s->Eh trs σ H Q ->
   wpAny (model X.prog X.w) X.A (evalPairs (pairTrees keys values X.env pos)) (λvs s'=>∃ps H',Inv X pins σ H' s'/\VV ps vs/\Q ps H') X.xe s
def Pe{X:Cx}{pos:Pos}:PPs X pos [] [] []:=λpins s σ H Q I h=>pairTrees_nil_walk ⟨[],H,I,.nil,h⟩
def Mp{X:Cx}{pos:Pos}{k v:Expr}{ks:List (Option Expr)}{vs:List Expr}{tk tv:TE}{trs:List (TE×TE)}(hk:PE X k tk)(hv:PE X v tv)(hr:PPs X pos ks vs trs):
 PPs X pos (some k::ks) (v::vs) ((tk,tv)::trs):=λpins s σ H Q I h=>
 pairTrees_cons_walk (thn (hk pins s σ H _ I h) λu s1 ⟨x,H1,I1,rx,q1⟩=>thn (hv pins s1 σ H1 _ I1 q1) λw2 s2 ⟨y,H2,I2,ry,q2⟩=>
  thn (hr pins s2 σ H2 _ I2 q2) λws s3 ⟨ps,H3,I3,rel,q3⟩=>⟨(x,y)::ps,H3,I3,.cons ⟨rx,ry⟩ rel,q3⟩)
def Cy(kvs more:List (Key×V)):List (Key×V):=more.foldl (λacc kv=>Bf acc kv.1 kv.2) kvs
def KV.merge:∀{more:List (Key×V)} {rs:List (Key×Value)} {kvs:List (Key×V)} {vs:List (Key×Value)},KV more rs->KV kvs vs->KV (Cy kvs more) (merged vs rs):=by
 intro more rs kvs vs r;unfold KV at r
 induction r generalizing kvs vs with
 |nil=>intro q;exact q
 |@cons p q ps qs h t ih=>
  intro r0;have e:KV (Bf kvs p.1 p.2) (stored vs q.1 q.2):=by
   have:=r0.put p.1 h.2;rw[<- h.1];exact this
  exact ih e
theorem Ee:∀(more kvs:List (Key×V)),(Cy kvs more).length<=kvs.length+more.length
 |[],kvs=>by show kvs.length<=kvs.length+0;omega
 |p::r,kvs=>by
  have h1:=Ee r (Bf kvs p.1 p.2);have h2:=Dr kvs p.1 p.2;show(Cy (Bf kvs p.1 p.2) r).length<=_;rw[List.length_cons];omega
theorem GE{P:Program}{w:World}:∀{kvs:List (Key×V)} {ws:List (Value×Value)},VV (kvs.map λkv=>(kV kv.1,kv.2)) ws->∃rs,Carries (B0 P w) ws rs/\KV kvs rs
 |[],_,r=>by rw[map_nil]at r;cases r;exact⟨[],True.intro,.nil⟩
 |p::kvs,_,r=>by
  rw[map_cons]at r;cases r with
  |@cons a b as bs h t=>
   obtain⟨rs,c,q⟩:=GE (P:=P) (w:=w) t;obtain⟨b1,b2⟩:=b;exact⟨(p.1,b2)::rs,⟨Ho h.1,rfl,c⟩,.cons ⟨rfl,h.2⟩ q⟩
def K2(trs:List (TE×TE)):TE:=λσ H Q=>∀p,H p=none->Eh trs σ (upd H p (.dK [])) λps H2=>H2 p=some (.dK [])/\∃kvs:List (Key×V),ps=kvs.map (λkv=>(kV kv.1,kv.2))/\kvs.length<=15/\Q (.ref p) (upd H2 p (.dK (Cy [] kvs)))
def Pq{X:Cx}{pos:Pos}{keys:List (Option Expr)}{values:List Expr}{trs:List (TE×TE)}(h:PPs X pos keys values trs)(hall:keys.all (·.isSome)=true)(hl:keys.length=values.length)(h0:keys≠[])
 (h15:keys.length<=15):PE X (.Dict keys values pos) (K2 trs):=by
 intro pins s σ H Q I q;have hn:=I.hok.fresh (le_refl s.heap.objs.size);have I1:=I.laid (a:=s.heap.objs.size) (o:=.dK []) (h':=s.heap.push { cls:=.type "dict",data:=.dict #[] }) (t':=s.toks) (λ_ _ q=>Heap.get?_push_of_some _ q) (le_refl _) (NC s.heap I.big);refine wpAny_Dict_walk (knd:=B0 X.prog X.w) hall hl h0 h15 (thn (h pins _ σ _ _ I1 (q _ hn)) λws s2 ⟨ps,H2,I2,rel,e,kvs,ep,lk,q2⟩=>?_);subst ep;obtain⟨rs,c,rk⟩:=GE (P:=X.prog) (w:=X.w) rel;obtain⟨z,hd,vs0,r0,dd⟩:=Nx I2.hok e;cases r0;refine⟨rs,c,dd,λh' dd' hs=>⟨.ref s.heap.objs.size,_,?_,rfl,q2⟩⟩;have hz:(Cy [] kvs).length<=sizeLine:=by
  have h1:=Ee kvs [];rw[List.length_nil]at h1;rw[sizeLine_eq];omega
 have he:∃q,h'.get? s.heap.objs.size=some q:=let ⟨q,_,_,hq,_⟩:=dd';⟨q,hq⟩
 exact Gz I2 (by rw[e];exact True.intro) hs he (Lb hz hd (rk.merge .nil) dd')
def Ax(cells:List (Str×Addr)):List (Str×NameKind)->List (Str×Addr)->List (Str×Addr)
 |[],acc=>acc
 |(n,k)::r,acc=>if k==.free then Ax cells r ((n,(cells.lookup n).getD 0)::acc)else Ax cells r acc
theorem EC{env:Env}(f:Str×NameKind->List (Str×Addr)->Sem (ForInStep (List (Str×Addr))))
 (hf:∀name kind cs,f (name,kind) cs=if(kind==NameKind.free)=true then(do let a <- cellOf env name;pure (ForInStep.yield ((name,a)::cs)))else pure (ForInStep.yield cs)):
 ∀(names:List (Str×NameKind)) (acc:List (Str×Addr)),(∀y∈names,y.2=.free->∃c,env.cells.lookup y.1=some c)->forIn names acc f=pure (Ax env.cells names acc)
 |[],acc,_=>rfl
 |(n,k)::r,acc,hy=>by
   rw[List.forIn_cons,hf];have ih:=λa=>EC f hf r a λz hz=>hy z (mem_cons_of_mem _ hz);by_cases hk:(k==NameKind.free)=true
   .obtain⟨c,hc⟩:=hy (n,k) mem_cons_self (by simpa using hk);have hc:env.cells.lookup n=some c:=hc;have e1:cellOf env n=pure c:=by unfold cellOf;rw[hc]
    rw[if_pos hk,e1];show forIn r ((n,c)::acc) f=_;have e2:Ax env.cells ((n,k)::r) acc=Ax env.cells r ((n,c)::acc):=by
     rw[Ax,if_pos hk,hc];rfl
    rw[ih,e2]
   .rw[if_neg hk];show forIn r acc f=_;have e2:Ax env.cells ((n,k)::r) acc=Ax env.cells r acc:=by
     rw[Ax,if_neg hk]
    rw[ih,e2]
def Ef{scope:Scope}{env:Env}(h:∀y∈scope.names,y.2=.free->∃c,env.cells.lookup y.1=some c):closureFor scope env=pure (Ax env.cells scope.names []):=by
 unfold closureFor;dsimp only;rw[EC _ (λname kind cs=>rfl) scope.names [] h];rfl
theorem DB{cells:List (Str×Addr)}:∀{names:List (Str×NameKind)} {acc:List (Str×Addr)},(∀y∈names,y.2=.free->∃c,cells.lookup y.1=some c)->(∀x c,acc.lookup x=some c->cells.lookup x=some c) ->
 ∀x c,(Ax cells names acc).lookup x=some c->cells.lookup x=some c
 |[],_,_,ha,x,c,e=>ha x c e
 |(n,k)::r,acc,hy,ha,x,c,e=>by
   unfold Ax at e;have hr:∀y∈r,y.2=.free->∃c,cells.lookup y.1=some c:=λz hz=>hy z (mem_cons_of_mem _ hz);by_cases hk:(k==NameKind.free)=true
   .rw[if_pos hk]at e;refine DB hr (λz d q=>?_) x c e;obtain⟨c0,hc0⟩:=hy (n,k) mem_cons_self (by simpa using hk);have hc0:cells.lookup n=some c0:=hc0;rw[lookup_cons]at q;by_cases hz:(z==n)=true
    .rw[hz,hc0]at q;have:z=n:=by simpa using hz
     subst this;simpa [hc0]using q
    .have hz':(z==n)=false:=by simpa using hz
     rw[hz']at q;exact ha z d q
   .rw[if_neg hk]at e;exact DB hr ha x c e
theorem DC{cells:List (Str×Addr)}:∀{names:List (Str×NameKind)} {acc:List (Str×Addr)} {x:Str},((acc.lookup x).isSome=true∨(x,NameKind.free)∈names)->((Ax cells names acc).lookup x).isSome=true
 |[],_,_,h=>h.elim id λz=>by cases z
 |(n,k)::r,acc,x,h=>by
   unfold Ax;by_cases hk:(k==NameKind.free)=true
   .rw[if_pos hk];refine DC ?_;by_cases hx:(x==n)=true
    .exact .inl (by rw[lookup_cons,hx];rfl)
    .have hx':(x==n)=false:=by simpa using hx
     rcases h with h|h
     .exact .inl (by rw[lookup_cons,hx'];exact h)
     .rcases mem_cons.mp h with h|h
      .cases h;simp at hx
      .exact .inr h
   .rw[if_neg hk];refine DC ?_;rcases h with h|h
    .exact .inl h
    .rcases mem_cons.mp h with h|h
     .cases h;simp at hk
     .exact .inr h
def Bt:Nat->List (Str×NameKind)->List (Str×Addr)
 |_,[]=>[]
 |n,(x,k)::r=>if k==.cell then Bt (n+1) r++[(x,n)]else Bt n r
theorem BX:∀(names:List (Str×NameKind)) (n:Nat) (acc:List (Str×Addr)),cellsFrom n names acc=Bt n names++acc
 |[],_,_=>rfl
 |(x,k)::r,n,acc=>by
   unfold cellsFrom Bt;by_cases hk:(k==NameKind.cell)=true
   .rw[if_pos hk,if_pos hk,BX r (n+1),append_assoc];rfl
   .rw[if_neg hk,if_neg hk,BX r n]
theorem FZ:∀(names:List (Str×NameKind)) (n:Nat) (x:Str) (c:Addr),(Bt n names).lookup x=some c->(x,NameKind.cell)∈names
 |[],_,_,_,e=>by cases e
 |(y,k)::r,n,x,c,e=>by
   unfold Bt at e;by_cases hk:(k==NameKind.cell)=true
   .rw[if_pos hk]at e;have hk':k=.cell:=by simpa using hk
    rw[lookup_append]at e;cases q:(Bt (n+1) r).lookup x with
    |some d=>exact mem_cons_of_mem _ (FZ r _ x d q)
    |none=>
     rw[q]at e;simp only[none_or,lookup_cons]at e;by_cases hx:(x==y)=true
     .have:x=y:=by simpa using hx
      subst this;subst hk';exact mem_cons_self
     .have hx':(x==y)=false:=by simpa using hx
      rw[hx']at e;cases e
   .rw[if_neg hk]at e;exact mem_cons_of_mem _ (FZ r n x c e)
theorem Fa:∀(names:List (Str×NameKind)) (n:Nat) (x:Str),(x,NameKind.cell)∈names->∃c,(Bt n names).lookup x=some c
 |[],_,_,h=>by cases h
 |(y,k)::r,n,x,h=>by
   unfold Bt;by_cases hk:(k==NameKind.cell)=true
   .rw[if_pos hk,lookup_append];rcases mem_cons.mp h with h|h
    .obtain⟨rfl,rfl⟩:=Prod.mk.inj h;cases q:(Bt (n+1) r).lookup x with
     |some d=>exact⟨d,rfl⟩
     |none=>exact⟨n,by simp[lookup_cons]⟩
    .obtain⟨c,hc⟩:=Fa r (n+1) x h;exact⟨c,by rw[hc];rfl⟩
   .rw[if_neg hk];rcases mem_cons.mp h with h|h
    .cases h;simp at hk
    .exact Fa r n x h
def NH(scope:Scope)(C:Addr)(env:Env):Env:=
 { scope:=relabel scope env,locals:=C,globals:=env.globals,cells:=cellsFrom (C+1) scope.names (Ax env.cells scope.names []),qual:=env.qual,func:=none,code:=env.code,frame:=env.frame,builtins:=env.builtins }
def Ja{M:Model}{A:Around}{E:Value->Shared->Prop}{s:Shared}{scope:Scope}{cl:List (Str×Addr)}{env:Env}{Q:Env->Shared->Prop}
 (hQ:∀h',(∀b o,s.heap.get? b=some o->h'.get? b=some o)->h'.Ns s.heap.objs.size (λ_=>none)->(∀x c,(Bt (s.heap.objs.size+1) scope.names).lookup x=some c->h'.IsCell c none/\s.heap.objs.size<c) ->
  ((Bt (s.heap.objs.size+1) scope.names).Pairwise λx y=>x.2≠y.2) ->
  Q { scope:=scope,locals:=s.heap.objs.size,globals:=env.globals,cells:=cellsFrom (s.heap.objs.size+1) scope.names cl,qual:=env.qual,func:=none,code:=env.code,frame:=env.frame,builtins:=env.builtins } { s with heap:=h' }):
 wpAny M A (newFunctionEnv scope env.globals cl [] env.qual none .none (some env)) Q E s:=by
 simp only[newFunctionEnv,Option.isSome_some,if_true];refine wpAny_bind (wpAny_alloc ?_);refine wpAny_bind (wpAny_layCells _ (λname kind cells=>by cases hkc:kind==NameKind.cell<;>simp[hkc]) _ _ _ _ ?_);have ok:=cellsFrom_ok scope.names (s.heap.push { cls:=.type "dict",data:=.dict #[] }) (s.heap.objs.size+1) [] ⟨λ_ _ hm=>(nomatch hm),List.Pairwise.nil⟩ (by rw[Heap.size_push];exact le_refl _);rw[Heap.size_push,BX,append_nil]at ok;rw[show({ s with heap:=s.heap.push { cls:=.type "dict",data:=.dict #[] } }:Shared).heap.objs.size=s.heap.objs.size+1 from Heap.size_push ..];refine wpAny_bind (wpAny_pure (wpAny_pure ?_));exact hQ _ (λb o e=>pushCells_keeps _ _ b o (Heap.get?_push_of_some _ e)) ((Heap.Ns.new s.heap (.type "dict")).keeps (pushCells_keeps _ _)) (λx c hc=>⟨(ok.empty x c (mem_of_lookup hc)).1,(ok.empty x c (mem_of_lookup hc)).2⟩) ok.apart
theorem HI:∀{names:List (Str×NameKind)} {x:Str} {k k':NameKind},(names.map (·.1)).Nodup->(x,k)∈names->(x,k')∈names->k=k'
 |[],_,_,_,_,h,_=>by cases h
 |(y,q)::r,x,k,k',nd,h,h'=>by
   have nd:(y::r.map (·.1)).Nodup:=nd;obtain⟨n1,n2⟩:=nodup_cons.mp nd;have out:∀{z:NameKind},(y,z)∈r->False:=λm=>n1 (mem_map.mpr ⟨_,m,rfl⟩);rcases mem_cons.mp h with e|e<;>rcases mem_cons.mp h' with e'|e'
   .cases e;cases e';rfl
   .cases e;exact(out e').elim
   .cases e';exact(out e).elim
   .exact HI n2 e e'
theorem Ed{env:Env}{x:Str}:∀{names:List (Str×NameKind)},names.lookup x=some .free ->
 (names.map λ(n,k)=>if(k==NameKind.free&&env.scope.kind==.function&&env.kindOf n==some .cell)then(n,NameKind.cell)else(n,k)).lookup x=some .cell ∨
 (names.map λ(n,k)=>if(k==NameKind.free&&env.scope.kind==.function&&env.kindOf n==some .cell)then(n,NameKind.cell)else(n,k)).lookup x=some .free
 |[],h=>by simp at h
 |(n,k)::r,h=>by
   have ih:=@Ed env x r;show List.lookup x ((if(k==NameKind.free&&env.scope.kind==.function&&env.kindOf n==some .cell)=true then(n,NameKind.cell)else(n,k))::_)=_∨List.lookup x ((if(k==NameKind.free&&env.scope.kind==.function&&env.kindOf n==some .cell)=true then(n,NameKind.cell)else(n,k))::_)=_;cases hx:x==n with
   |true=>
    simp only[lookup_cons,hx]at h;cases h;by_cases hc:(NameKind.free==NameKind.free&&env.scope.kind==.function&&env.kindOf n==some .cell)=true
    .rw[if_pos hc];exact .inl (by simp only[lookup_cons,hx])
    .rw[if_neg hc];exact .inr (by simp only[lookup_cons,hx])
   |false=>
    simp only[lookup_cons,hx]at h;by_cases hc:(k==NameKind.free&&env.scope.kind==.function&&env.kindOf n==some .cell)=true
    .rw[if_pos hc];simp only[lookup_cons,hx];exact ih h
    .rw[if_neg hc];simp only[lookup_cons,hx];exact ih h
theorem Em{env:Env}{x:Str}:∀{names:List (Str×NameKind)},
 ((names.map λ(n,k)=>if(k==NameKind.free&&env.scope.kind==.function&&env.kindOf n==some .cell)then(n,NameKind.cell)else(n,k)).lookup x=some .cell ∨
 (names.map λ(n,k)=>if(k==NameKind.free&&env.scope.kind==.function&&env.kindOf n==some .cell)then(n,NameKind.cell)else(n,k)).lookup x=some .free) ->
 names.lookup x=some .cell∨names.lookup x=some .free
 |[],h=>by simp at h
 |(n,k)::r,h=>by
   have ih:=@Em env x r;have h:List.lookup x ((if(k==NameKind.free&&env.scope.kind==.function&&env.kindOf n==some .cell)=true then(n,NameKind.cell)else(n,k))::_)=_∨List.lookup x ((if(k==NameKind.free&&env.scope.kind==.function&&env.kindOf n==some .cell)=true then(n,NameKind.cell)else(n,k))::_)=_:=h;cases hx:x==n with
   |true=>
    by_cases hc:(k==NameKind.free&&env.scope.kind==.function&&env.kindOf n==some .cell)=true
    .have hk:k=.free:=by
      have:=(Bool.and_eq_true _ _ ▸ (Bool.and_eq_true _ _ ▸ hc).1:(k==NameKind.free)=true/\_).1;simpa using this
     exact .inr (by simp only[lookup_cons,hx,hk])
    .rw[if_neg hc]at h;simp only[lookup_cons,hx]at h ⊢;exact h
   |false=>
    simp only[lookup_cons,hx];refine ih ?_;by_cases hc:(k==NameKind.free&&env.scope.kind==.function&&env.kindOf n==some .cell)=true
    .rw[if_pos hc]at h;simp only[lookup_cons,hx]at h;exact h
    .rw[if_neg hc]at h;simp only[lookup_cons,hx]at h;exact h
def cCx(X:Cx)(N':List Str)(scope:Scope)(s:Shared)(H:Hp)(ex:List Addr):Cx:=
 { X with N:=N',s₀:=s,H₀:=H,env:=NH scope s.heap.objs.size X.env,outer:=X.stack,ex:=ex,fn:=λx=>decide ((x,NameKind.cell)∈scope.names),pn:=[],xe:=λ_ _=>False }
structure CSc(X:Cx)(scope:Scope)(fr:List Str)(ix:List Nat):Prop where
 kind:scope.kind=.function
 nd:(scope.names.map (·.1)).Nodup
 free:(scope.names.all λy=>y.2 != .free||X.env.kindOf y.1==some .cell||X.env.kindOf y.1==some .free)=true
 frs:(fr.all λx=>scope.names.lookup x==some .free)=true
 ixs:fr.map some=ix.map λi=>X.N[i]?
 loc:(scope.names.all λy=>y.2 != .local||scope.names.lookup y.1==some .local)=true
def F2(n:Nat)(ix:List Nat)(σ:St):St:=List.replicate n none++ix.map λi=>(σ[i]?).join
section
variable{X:Cx}{scope:Scope}{fr loc:List Str}{ix:List Nat}{pins:List (Addr×Obj)}{σ:St}{H:Hp}{s:Shared}
def CSc.outer(S:CSc X scope fr ix){y:Str×NameKind}(hy:y∈scope.names)(e:y.2=.free):X.env.kindOf y.1=some .cell∨X.env.kindOf y.1=some .free:=by
 have h:=all_eq_true.mp S.free y hy;rw[e]at h;simpa using h
def CSc.clos(S:CSc X scope fr ix)(ok:X.Ok):∀y∈scope.names,y.2=.free->∃c,X.env.cells.lookup y.1=some c:=λy hy e=>ok.has y.1 (S.outer hy e)
def CG(S:CSc X scope fr ix)(ok:X.Ok){n:Nat}{x:Str}{c:Addr}(e:(cellsFrom n scope.names (Ax X.env.cells scope.names [])).lookup x=some c):
 (Bt n scope.names).lookup x=some c∨X.env.cells.lookup x=some c:=by
 rw[BX,lookup_append]at e;cases q:(Bt n scope.names).lookup x with
 |some d=>rw[q]at e;exact .inl e
 |none=>
  rw[q]at e;exact .inr (DB (S.clos ok) (λ_ _ z=>by simp at z) x c e)
def Ig(S:CSc X scope fr ix)(I:Inv X pins σ H s){ex:List Addr}(hex:∀b∈ex,Cd X pins H b){h':Heap}(hk:∀b o,s.heap.get? b=some o->h'.get? b=some o)(hn:h'.Ns s.heap.objs.size λ_=>none)
 (ho:∀x c,(Bt (s.heap.objs.size+1) scope.names).lookup x=some c->h'.IsCell c none/\s.heap.objs.size<c) (ha:(Bt (s.heap.objs.size+1) scope.names).Pairwise λx y=>x.2≠y.2) (hlt:∀b∈ex,b<s.heap.objs.size):
 Inv (cCx X (loc++fr) scope s H ex) [] (F2 loc.length ix σ) H { s with heap:=h' }:=by
 have old:∀x c,X.env.cells.lookup x=some c->c<s.heap.objs.size:=λx c e=>let ⟨v,z⟩:=I.cell x c e;z.lt
 have lenix:fr.length=ix.length:=by simpa using congrArg List.length S.ixs
 refine⟨⟨I.ok.mod,?_,I.ok.glob,I.ok.blt,le_refl _,?_,?_,?_,I.ok.hd,I.ok.frames,.inl rfl,?_,I.bs,le_trans I.ok.bsz I.sz,?_,?_,I.stack,I.stkFree⟩,rfl,I.bare,Un.kept hk,⟨_,hn,?_⟩,?_,I.hok.fresh (le_refl _),?_,?_,I.hok.kept hk,?_⟩
 .exact S.kind
 .intro x y c e1 e2;rcases CG S I.ok e1 with a|a<;>rcases CG S I.ok e2 with b|b
  .exact name_of_addr ha (PySem.mem_of_lookup a) (PySem.mem_of_lookup b)
  .exact absurd (lt_trans (ho x c a).2 (old y c b)) (lt_irrefl _)
  .exact absurd (lt_trans (ho y c b).2 (old x c a)) (lt_irrefl _)
  .exact I.ok.inj x y c a b
 .intro x hx;rcases Em hx with e|e
  .exact isSome_iff_exists.mp (PySem.W.cellsFrom_some _ _ _ (.inl e))
  .exact isSome_iff_exists.mp (PySem.W.cellsFrom_some _ _ _ (.inr (DC (.inr (PySem.mem_of_lookup e)))))
 .intro x c hf e;have hf:(x,NameKind.cell)∈scope.names:=of_decide_eq_true hf;obtain⟨d,hd⟩:=Fa scope.names (s.heap.objs.size+1) x hf;have e':(cellsFrom (s.heap.objs.size+1) scope.names (Ax X.env.cells scope.names [])).lookup x=some c:=e;rw[BX,lookup_append,hd]at e';cases e';exact le_of_lt (ho x _ hd).2
 .intro b hb;refine⟨ne_of_lt (hlt b hb),λx c e z=>?_⟩;rcases CG S I.ok e with a|a
  .exact absurd (lt_trans (ho x c a).2 (by rw[z];exact hlt b hb)) (lt_irrefl _)
  .exact(hex b hb).2.2.2.2.1 x c a z
 .intro b o e hb;rcases(hex b hb).2.2.2.1 with z|z
  .exact I.ok.noex b o e z
  .exact absurd (lt_of_lt_of_le (Heap.lt_size (I.ok.bs b o e).1) z) (lt_irrefl _)
 .intro b hb hf;rcases mem_cons.mp (I.stkSub b hf)with z|z
  .exact(hex b hb).2.1 z
  .exact(hex b hb).2.2.1 z
 .intro i x v e1 e2 e3;have e1:(loc++fr)[i]?=some x:=e1;unfold F2 at e2;by_cases hi:i<loc.length
  .rw[List.getElem?_append_left (by simpa using hi),List.getElem?_replicate]at e2;split at e2<;>cases e2
  .have hi':loc.length<=i:=Nat.not_lt.mp hi;rw[List.getElem?_append_right (by simpa using hi')]at e2;rw[List.getElem?_append_right hi']at e1;rw[List.length_replicate,List.getElem?_map]at e2;generalize hj:i-loc.length=j at e1 e2;have e4:(fr.map some)[j]?=some (some x):=by rw[List.getElem?_map,e1];rfl
   rw[S.ixs,List.getElem?_map]at e4;cases q:ix[j]? with
   |none=>rw[q]at e2;cases e2
   |some k=>
    rw[q]at e2 e4;have e2:(σ[k]?).join=some v:=Option.some.inj e2;have e4:X.N[k]?=some x:=Option.some.inj e4;have e5:σ[k]?=some (some v):=by
     cases w:σ[k]? with
     |none=>rw[w]at e2;cases e2
     |some z=>rw[w]at e2;simpa using e2
    have hfx:=all_eq_true.mp S.frs x (mem_of_getElem? e1);have hfx:scope.names.lookup x=some .free:=by simpa using hfx
    have hmem:=PySem.mem_of_lookup hfx;have hout:=S.outer hmem rfl;obtain⟨m,hm,hl⟩:=I.loc;obtain⟨u,r,l⟩:=hl k x v e4 e5 (.inr hout);refine⟨u,r,.inr ⟨Ed hfx,?_⟩⟩;rcases l with⟨kk,_⟩|⟨kk,c,ec,z⟩
    .rcases hout with w|w
     .rw[kk]at w;cases w
     .rw[kk]at w;cases w
    .have own0:(Bt (s.heap.objs.size+1) scope.names).lookup x=none:=by
      cases w:(Bt (s.heap.objs.size+1) scope.names).lookup x with
      |none=>rfl
      |some d=>exact absurd (HI S.nd (FZ _ _ _ _ w) hmem) (by decide)
     have hc:(Ax X.env.cells scope.names []).lookup x=some c:=by
      obtain⟨d,hd⟩:=isSome_iff_exists.mp (DC (cells:=X.env.cells) (acc:=[]) (.inr hmem));have:=DB (S.clos I.ok) (λ_ _ z=>by simp at z) x d hd;rw[ec]at this;cases this;exact hd
     refine⟨c,?_,z.keeps hk⟩;show(cellsFrom (s.heap.objs.size+1) scope.names (Ax X.env.cells scope.names [])).lookup x=some c;rw[BX,lookup_append,own0,hc];rfl
 .intro x c e;rcases CG S I.ok e with a|a
  .exact⟨_,(ho x c a).1⟩
  .obtain⟨v,z⟩:=I.cell x c a;exact⟨v,z.keeps hk⟩
 .intro x c e;rcases CG S I.ok e with a|a
  .exact I.hok.fresh (le_of_lt (ho x c a).2)
  .exact I.freeC x c a
 .intro p hp;cases hp
 .unfold F2;show _=(loc++fr).length;simp[lenix]
end
section
variable{prog:Program}{w:World}{A:Around}{R:Result->Shared->Prop}{s:Shared}
def F1{elt target iter:Expr}{ifs:List Expr}{scope:Scope}{pos:Pos}{it acc:Value}{env:Env}(I:Nat->Shared->Prop)
 (turn:∀n s,I n s->wpAny (model prog w) A (pyNext it) (λr s₁=>match r with
  |none=>R (.ok .next) s₁
  | some v=>wpAny (model prog w) A (letOwnedTupleGo target it v) (λ_ s₁=>wpAny (model prog w) A (assign target env v) (λ_ s₂=>
   wpAny (model prog w) A (forIn ifs true λc r=>if r=true then do let ok <- isTrue c env (eval c env);pure (ForInStep.yield ok)else pure (ForInStep.yield r)) (λok s₃=>
    if ok=true then wpAny (model prog w) A (eval elt env) (λx s₄=>
     wpAny (model prog w) A (call (.builtin "list.append") [acc,x]) (λ_ s₅=>∃m,m<n/\I m s₅) (λ_ _=>False) s₄) (λ_ _=>False) s₃
    else ∃m,m<n/\I m s₃) (λ_ _=>False) s₂) (λ_ _=>False) s₁) (λ_ _=>False) s₁) (λ_ _=>False) s)
 (n:Nat) (h:I n s):
 codeAny (model prog w) A (.compLoop (.ListComp elt [⟨target,iter,ifs,0⟩] scope pos) 0 it acc env) R s:=by
 refine codeAny_loop rfl I (λn s hI=>?_) n h;show wpAny _ A ((compTurn (.ListComp elt [⟨target,iter,ifs,0⟩] scope pos) 0 it acc env).onRaise (λx=>do noteFrame x env;theTreesLotGoes x)) _ _ s;refine wpAny_noted ?_;rw[compTurn_list];refine wpAny_bind (wpAny_standAt (wpAny_bind (wpAny_mono (turn n s hI) (λr s₁ h₁=>?_) λ_ _ h'=>h'.elim)));cases r with
 |none=>exact wpAny_pure h₁
 |some v=>
  refine wpAny_bind (wpAny_mono h₁ (λ_ s₁ h₁=>?_) λ_ _ h'=>h'.elim);refine wpAny_bind (wpAny_mono h₁ (λ_ s₂ h₂=>wpAny_bind (wpAny_mono h₂ (λok s₃ h₃=>?_) λ_ _ h'=>h'.elim)) λ_ _ h'=>h'.elim);cases ok with
  |false=>exact wpAny_pure ⟨rfl,h₃⟩
  |true=>
   exact wpAny_bind (wpAny_bind (wpAny_mono h₃ (λx s₄ h₄=>wpAny_bind (wpAny_mono h₄ (λ_ s₅ h₅=>wpAny_pure (wpAny_pure ⟨rfl,h₅⟩)) λ_ _ h'=>h'.elim)) λ_ _ h'=>h'.elim))
end
def PF(X:Cx)(ifs:List Expr)(t:TT):Prop:=
 ∀(pins:List (Addr×Obj)) (s:Shared) (σ:St) (H:Hp) (Q:Bool->Hp->Prop),Inv X pins σ H s->t σ H Q ->
   wpAny (model X.prog X.w) X.A (forIn ifs true λc r=>if r=true then do let ok <- isTrue c X.env (eval c X.env);pure (ForInStep.yield ok)else pure (ForInStep.yield r)) (TP X pins σ Q) X.xe s
def Lx:TT:=λ_ H Q=>Q true H
def So{X:Cx}:PF X [] Lx:=λpins s σ H Q I h=>wpAny_tests_nil ⟨H,I,h⟩
def Sn{X:Cx}{c:Expr}{t:TT}(h:PT X c t):PF X [c] t:=λpins s σ H Q I q=>wpAny_tests_one (h pins s σ H Q I q)
def O1(J:It)(D:Addr)(σ0:St)(H0:Hp)(g:TG)(tf:TT)(te:TE)(Q:VK):Prop:=∃W:Nat->Nat->St->List V->Hp->Prop,
 (∃m,W 0 m σ0 [] (upd H0 D (.lst [])))/\∀i m σ ys H,W i m σ ys H->H D=some (.lst ys)/\
  ((J.stop i H/\Q (.ref D) H)∨(J.go i H/\ys.length<sizeLine/\∃N:St->List V->Hp->Prop,(∀σ' ys' H',N σ' ys' H'->∃m',m'<m/\W (i+1) m' σ' ys' H')/\
    ∀x H',J.yld i H x H'->g x σ H' λσ2 H2=>tf σ2 H2 λb H3=>
     if b=true then te σ2 H3 λv H4=>H4 D=some (.lst ys)/\N σ2 (ys++[v]) (upd H4 D (.lst (ys++[v])))
     else N σ2 ys H3))
def EL(n:Nat)(ix:List Nat)(wi:TI)(g:TG)(tf:TT)(te:TE):TE:=λσ H Q=>wi σ H λJ H1=>∀D,H1 D=none->O1 J D (F2 n ix σ) H1 g tf te Q
section
variable{X:Cx}
def Lp{pins:List (Addr×Obj)}{σ:St}{H:Hp}{s:Shared}{D:Addr}{ys:List V}{x:V}{u:Value}{Q:Value->Shared->Prop}{E:Value->Shared->Prop}(I:Inv X pins σ H s)(hD:H D=some (.lst ys))(r:RelV x u)(hz:ys.length<sizeLine)
 (h:∀v s',Inv X pins σ (upd H D (.lst (ys++[x]))) s'->Q v s'):wpAny (model X.prog X.w) X.A (call (.builtin "list.append") [.ref D,u]) Q E s:=by
 have I':=I.wish λ_ _=>False;have q:=HJ (X:=X.wish λ_ _=>False) pins s σ H (.ref D) [x] (.ref D) [u] (λv H'=>H'=upd H D (.lst (ys++[x]))) I' rfl (.cons r .nil) ⟨D,ys,x,rfl,rfl,hD,hz,rfl⟩;refine wpAny_mono q (λv s' ⟨v',H',I2,_,e⟩=>?_) λ_ _ z=>False.elim z;subst e;exact h v s' I2.unwish
def Ps{elt tg iter:Expr}{ifs:List Expr}{scope:Scope}{pos:Pos}{loc fr:List Str}{ix:List Nat}{wi:TI}{g:TG}{tf:TT}{te:TE}(hc:X.calm=true)(S:CSc X scope fr ix)(hi:PI X tg iter wi)
 (hg:∀s H ex,PG (cCx X (loc++fr) scope s H ex) tg g) (hf:∀s H ex,PF (cCx X (loc++fr) scope s H ex) ifs tf) (he:∀s H ex,PE (cCx X (loc++fr) scope s H ex) elt te)
 (hs:∀x,foldedSetIterable iter X.env x=pure x:=by intro _;rfl):PE X (.ListComp elt [⟨tg,iter,ifs,0⟩] scope pos) (EL loc.length ix wi g tf te):=by
 intro pins s σ H Q I h;rw[eval_ListComp];have hnames:∀y∈scope.names,y.2=.local->scope.names.lookup y.1=some .local:=λy hy e=>by
  have:=all_eq_true.mp S.loc y hy;rw[e]at this;simpa using this
 refine wpAny_comprehension_free (use:=none) rfl hs (Ef (S.clos I.ok)) S.kind hnames (thn (hi pins s σ H _ I h) λv s1 h1=>thn h1 λitv s2 h2=>?_);obtain⟨it,fp,tn,J,H2,rfl,I2,T,st2,f2,hW⟩:=h2;refine wpAny_newObj_type ?_;have fresh2:H2 s2.heap.objs.size=none:=I2.hok.fresh (le_refl _);have I3:=I2.lnew (its:=[]) (ys:=[]) (t':=s2.toks) .nil (zero_le _);obtain⟨W,⟨m0,w0⟩,turn⟩:=hW s2.heap.objs.size fresh2;have lt2:∀b∈fp,b<s2.heap.objs.size:=λb hb=>let ⟨o,e,_⟩:=T.obj 0 _ st2 b hb;Heap.lt_size e
 have f3:∀b∈fp,Cd X pins (upd H2 s2.heap.objs.size (.lst [])) b:=λb hb=>⟨by rw[AU (ne_of_lt (lt2 b hb))];exact(f2 b hb).1,(f2 b hb).2⟩
 have lt3:∀b∈fp,b<(s2.heap.push { cls:=.type "list",data:=.seq ([]:List Value).toArray }).objs.size:=λb hb=>by rw[Heap.size_push];exact Nat.lt_succ_of_lt (lt2 b hb)
 generalize hs3:({ s2 with heap:=s2.heap.push { cls:=.type "list",data:=.seq ([]:List Value).toArray } }:Shared)=s3 at *;have lt3:∀b∈fp,b<s3.heap.objs.size:=by rw[<- hs3];exact lt3
 have st3:tn 0 s3.heap:=T.keep _ _ _ st2 λb hb o e=>by rw[<- hs3];exact Heap.get?_push_of_some _ e
 refine Ja λh' hk hn ho ha=>?_;have I4:=Ig (loc:=loc) S I3 f3 hk hn ho ha lt3;have fpX:∀{H':Hp},(∀b∈fp,H' b=none)->∀b∈fp,Cd (cCx X (loc++fr) scope s3 (upd H2 s2.heap.objs.size (.lst [])) fp) [] H' b:=λhn b hb=>
  ⟨hn b hb,(I4.ok.exf b hb).1,I4.ok.exfs b hb,.inl hb,(I4.ok.exf b hb).2,λp hp=>by cases hp⟩
 have loop:codeAny (model X.prog X.w) X.A (.compLoop (.ListComp elt [⟨tg,iter,ifs,0⟩] scope pos) 0 (.ref it) (.ref s2.heap.objs.size) (NH scope s3.heap.objs.size X.env))
  (compPost (model X.prog X.w) X.A X.xe none (EP X pins σ Q) (.ref s2.heap.objs.size) s3.heap.objs.size) { s3 with heap:=h' }:=by
  refine F1 (λn s'=>∃i σ' ys H',Inv (cCx X (loc++fr) scope s3 (upd H2 s2.heap.objs.size (.lst [])) fp) [] σ' H' s'/\tn i s'.heap/\(∀b∈fp,H' b=none)/\W i n σ' ys H') ?_ m0
   ⟨0,_,[],_,I4,T.keep _ _ _ st3 λb hb o e=>hk b o e,λb hb=>(f3 b hb).1,w0⟩
  rintro n s5 ⟨i,σ5,ys,H5,I5,st5,fr5,w5⟩;obtain⟨hD,w5⟩:=turn i n σ5 ys H5 w5;rcases w5 with⟨stop,qn⟩|⟨go,hz,N,hN,step⟩
  .refine thn (T.done (cCx X (loc++fr) scope s3 (upd H2 s2.heap.objs.size (.lst [])) fp) rfl rfl rfl hc i [] s5 σ5 H5 _ I5 (fpX fr5) st5 stop) λr s6 ⟨hr,I6⟩=>?_;subst hr;obtain⟨m,hm,_⟩:=I6.loc;refine⟨m,hm,λh'' hs=>?_⟩;have neC:∀b o,s3.heap.get? b=some o->b≠s3.heap.objs.size:=λb o e=>ne_of_lt (Heap.lt_size e);have un:=I6.base;refine⟨.ref s2.heap.objs.size,H5,I3.call' (s':={ s6 with heap:=h'' }) (ch:=fp) I6.os ⟨λb o e n hb hx=>?_,λb o e n hb hx=>?_,un.free,λb o e hx=>?_,un.tups,un.frzs,un.tbls⟩ ?_ I6.bare ?_,rfl,qn⟩
   .exact(hs.2 b (neC b o e)).trans (un.keep b o e n hb hx)
   .obtain⟨sl,q⟩:=un.slot b o e n hb hx;exact⟨sl,(hs.2 b (neC b o e)).trans q⟩
   .obtain⟨o',q⟩:=un.there b o e hx;exact⟨o',(hs.2 b (neC b o e)).trans q⟩
   .intro b ob e;have hfree:H5 s3.heap.objs.size=none:=I6.free;refine(I6.hok b ob e).stay (λc w' hc q=>(hs.2 c ?_).trans q) (λ_ q=>q) λ_ _ q=>q;intro z;rcases hc with hc|hc
    .rw[<- hc,z,hfree]at e;cases e
    .rw[z,hfree]at hc;cases hc
   .intro b hb;obtain⟨_,a2,_,a4,a5,a6⟩:=f3 b hb;exact⟨a4,a2,a5,a6⟩
  .refine thn (T.item (cCx X (loc++fr) scope s3 (upd H2 s2.heap.objs.size (.lst [])) fp) rfl rfl rfl hc i [] s5 σ5 H5 _ I5 (fpX fr5) st5 go) λr s6 ⟨u,hr,h6⟩=>?_;subst hr;refine thn h6 λ_ s7 ⟨x,H7,I7,r7,y7,st7,fr7⟩=>?_;have I7':=I7.pinned (fpX fr7) (T.obj _ _ st7);have keepI:∀{σ8:St} {H8:Hp} {s8:Shared},Inv (cCx X (loc++fr) scope s3 (upd H2 s2.heap.objs.size (.lst [])) fp) ([]++E5 fp s7.heap) σ8 H8 s8->tn (i+1) s8.heap/\∀b∈fp,H8 b=none:=λ{σ8 H8 s8} I8=>by
    refine⟨T.keep _ _ _ st7 λb hb o e=>(I8.pin (b,o) (mem_append_right _ (mem_append_right _ (C3 hb e)))).1,λb hb=>?_⟩;obtain⟨o,e,d⟩:=T.obj _ _ st7 b hb;exact(I8.pin (b,o) (mem_append_right _ (mem_append_right _ (C3 hb e)))).2.1
   refine thn (hg s3 (upd H2 s2.heap.objs.size (.lst [])) fp _ s7 σ5 H7 x u _ I7' r7 (step x H7 y7)) λ_ s8 ⟨σ8,H8,I8,q8⟩=>?_;refine thn (hf s3 (upd H2 s2.heap.objs.size (.lst [])) fp _ s8 σ8 H8 _ I8 q8) λb s9 ⟨H9,I9,q9⟩=>?_;cases b with
   |false=>
    rw[if_neg Bool.false_ne_true]at q9 ⊢;obtain⟨m',hm,w9⟩:=hN _ _ _ q9;exact⟨m',hm,i+1,σ8,ys,H9,I9.unpinned,(keepI I9).1,(keepI I9).2,w9⟩
   |true=>
    rw[if_pos rfl]at q9 ⊢;refine thn (he s3 (upd H2 s2.heap.objs.size (.lst [])) fp _ s9 σ8 H9 _ I9 q9) λe10 s10 ⟨v10,H10,I10,r10,hD10,n10⟩=>?_;obtain⟨m',hm,w10⟩:=hN _ _ _ n10;refine Lp (X:=cCx X (loc++fr) scope s3 (upd H2 s2.heap.objs.size (.lst [])) fp) I10 hD10 r10 hz λ_ s11 I11=>?_;exact⟨m',hm,i+1,σ8,_,_,I11.unpinned,(keepI I11).1,(keepI I11).2,w10⟩
 exact codeAny_compStart_list loop (T.self X.A 0 _ _ _ (T.keep _ _ _ st3 λb hb o e=>hk b o e) loop)
end
section
variable{X:Cx}
def KY{elt tg iter:Expr}{ifs:List Expr}{scope:Scope}{pos:Pos}{loc fr:List Str}{ix:List Nat}{g:TG}{tf:TT}{te:TE}{pins:List (Addr×Obj)}{σ:St}{Q:VK}{it:Addr}{fp:List Addr}{tn:Nat->Heap->Prop}{J:It}{H2:Hp}{s2:Shared}{E:Value->Shared->Prop}
 {RR:Value->Addr->Result->Shared->Prop} (hc:X.calm=true) (S:CSc X scope fr ix)
 (hg:∀s H ex,PG (cCx X (loc++fr) scope s H ex) tg g) (hf:∀s H ex,PF (cCx X (loc++fr) scope s H ex) ifs tf) (he:∀s H ex,PE (cCx X (loc++fr) scope s H ex) elt te)
 (I2:Inv X pins σ H2 s2) (T:Turn X.prog X.w X.K tg J fp it tn) (st2:tn 0 s2.heap) (f2:∀b∈fp,Cd X pins H2 b) (hW:∀D,H2 D=none->O1 J D (F2 loc.length ix σ) H2 g tf te Q)
 (hfin:∀(s3 s6:Shared) (H5:Hp) (σ5:St) (D:Addr),Inv X pins σ (upd H2 D (.lst [])) s3->Inv (cCx X (loc++fr) scope s3 (upd H2 D (.lst [])) fp) [] σ5 H5 s6->(∀b∈fp,Cd X pins (upd H2 D (.lst [])) b)->Q (.ref D) H5->RR (.ref D) s3.heap.objs.size (.ok .next) s6):
 wpAny (model X.prog X.w) X.A (newList []) (λacc s₃=>wpAny (model X.prog X.w) X.A (newFunctionEnv scope X.env.globals (Ax X.env.cells scope.names []) [] X.env.qual none .none (some X.env)) (λcenv s₄=>
  codeAny (model X.prog X.w) X.A (.compStart (.ListComp elt [⟨tg,iter,ifs,0⟩] scope pos) 0 (.ref it) acc { cenv with scope:=relabel scope X.env }) (RR acc cenv.locals) s₄) E s₃) E s2:=by
 refine wpAny_newObj_type ?_;have fresh2:H2 s2.heap.objs.size=none:=I2.hok.fresh (le_refl _);have I3:=I2.lnew (its:=[]) (ys:=[]) (t':=s2.toks) .nil (zero_le _);obtain⟨W,⟨m0,w0⟩,turn⟩:=hW s2.heap.objs.size fresh2;have lt2:∀b∈fp,b<s2.heap.objs.size:=λb hb=>let ⟨o,e,_⟩:=T.obj 0 _ st2 b hb;Heap.lt_size e
 have f3:∀b∈fp,Cd X pins (upd H2 s2.heap.objs.size (.lst [])) b:=λb hb=>⟨by rw[AU (ne_of_lt (lt2 b hb))];exact(f2 b hb).1,(f2 b hb).2⟩
 have lt3:∀b∈fp,b<(s2.heap.push { cls:=.type "list",data:=.seq ([]:List Value).toArray }).objs.size:=λb hb=>by rw[Heap.size_push];exact Nat.lt_succ_of_lt (lt2 b hb)
 generalize hs3:({ s2 with heap:=s2.heap.push { cls:=.type "list",data:=.seq ([]:List Value).toArray } }:Shared)=s3 at *;have lt3:∀b∈fp,b<s3.heap.objs.size:=by rw[<- hs3];exact lt3
 have st3:tn 0 s3.heap:=T.keep _ _ _ st2 λb hb o e=>by rw[<- hs3];exact Heap.get?_push_of_some _ e
 refine Ja λh' hk hn ho ha=>?_;have I4:=Ig (loc:=loc) S I3 f3 hk hn ho ha lt3;have fpX:∀{H':Hp},(∀b∈fp,H' b=none)->∀b∈fp,Cd (cCx X (loc++fr) scope s3 (upd H2 s2.heap.objs.size (.lst [])) fp) [] H' b:=λhn b hb=>
  ⟨hn b hb,(I4.ok.exf b hb).1,I4.ok.exfs b hb,.inl hb,(I4.ok.exf b hb).2,λp hp=>by cases hp⟩
 have loop:codeAny (model X.prog X.w) X.A (.compLoop (.ListComp elt [⟨tg,iter,ifs,0⟩] scope pos) 0 (.ref it) (.ref s2.heap.objs.size) (NH scope s3.heap.objs.size X.env))
  (RR (.ref s2.heap.objs.size) s3.heap.objs.size) { s3 with heap:=h' }:=by
  refine F1 (λn s'=>∃i σ' ys H',Inv (cCx X (loc++fr) scope s3 (upd H2 s2.heap.objs.size (.lst [])) fp) [] σ' H' s'/\tn i s'.heap/\(∀b∈fp,H' b=none)/\W i n σ' ys H') ?_ m0
   ⟨0,_,[],_,I4,T.keep _ _ _ st3 λb hb o e=>hk b o e,λb hb=>(f3 b hb).1,w0⟩
  rintro n s5 ⟨i,σ5,ys,H5,I5,st5,fr5,w5⟩;obtain⟨hD,w5⟩:=turn i n σ5 ys H5 w5;rcases w5 with⟨stop,qn⟩|⟨go,hz,N,hN,step⟩
  .refine thn (T.done (cCx X (loc++fr) scope s3 (upd H2 s2.heap.objs.size (.lst [])) fp) rfl rfl rfl hc i [] s5 σ5 H5 _ I5 (fpX fr5) st5 stop) λr s6 ⟨hr,I6⟩=>?_;subst hr;exact hfin s3 s6 H5 σ5 s2.heap.objs.size I3 I6 f3 qn
  .refine thn (T.item (cCx X (loc++fr) scope s3 (upd H2 s2.heap.objs.size (.lst [])) fp) rfl rfl rfl hc i [] s5 σ5 H5 _ I5 (fpX fr5) st5 go) λr s6 ⟨u,hr,h6⟩=>?_;subst hr;refine thn h6 λ_ s7 ⟨x,H7,I7,r7,y7,st7,fr7⟩=>?_;have I7':=I7.pinned (fpX fr7) (T.obj _ _ st7);have keepI:∀{σ8:St} {H8:Hp} {s8:Shared},Inv (cCx X (loc++fr) scope s3 (upd H2 s2.heap.objs.size (.lst [])) fp) ([]++E5 fp s7.heap) σ8 H8 s8->tn (i+1) s8.heap/\∀b∈fp,H8 b=none:=λ{σ8 H8 s8} I8=>by
    refine⟨T.keep _ _ _ st7 λb hb o e=>(I8.pin (b,o) (mem_append_right _ (mem_append_right _ (C3 hb e)))).1,λb hb=>?_⟩;obtain⟨o,e,d⟩:=T.obj _ _ st7 b hb;exact(I8.pin (b,o) (mem_append_right _ (mem_append_right _ (C3 hb e)))).2.1
   refine thn (hg s3 (upd H2 s2.heap.objs.size (.lst [])) fp _ s7 σ5 H7 x u _ I7' r7 (step x H7 y7)) λ_ s8 ⟨σ8,H8,I8,q8⟩=>?_;refine thn (hf s3 (upd H2 s2.heap.objs.size (.lst [])) fp _ s8 σ8 H8 _ I8 q8) λb s9 ⟨H9,I9,q9⟩=>?_;cases b with
   |false=>
    rw[if_neg Bool.false_ne_true]at q9 ⊢;obtain⟨m',hm,w9⟩:=hN _ _ _ q9;exact⟨m',hm,i+1,σ8,ys,H9,I9.unpinned,(keepI I9).1,(keepI I9).2,w9⟩
   |true=>
    rw[if_pos rfl]at q9 ⊢;refine thn (he s3 (upd H2 s2.heap.objs.size (.lst [])) fp _ s9 σ8 H9 _ I9 q9) λe10 s10 ⟨v10,H10,I10,r10,hD10,n10⟩=>?_;obtain⟨m',hm,w10⟩:=hN _ _ _ n10;refine Lp (X:=cCx X (loc++fr) scope s3 (upd H2 s2.heap.objs.size (.lst [])) fp) I10 hD10 r10 hz λ_ s11 I11=>?_;exact⟨m',hm,i+1,σ8,_,_,I11.unpinned,(keepI I11).1,(keepI I11).2,w10⟩
 exact codeAny_compStart_list loop (T.self X.A 0 _ _ _ (T.keep _ _ _ st3 λb hb o e=>hk b o e) loop)
def JG{scope:Scope}{N':List Str}{fp:List Addr}{pins:List (Addr×Obj)}{σ σ5:St}{H3 H5:Hp}{s3 s6:Shared}{h'':Heap}(I3:Inv X pins σ H3 s3)(I6:Inv (cCx X N' scope s3 H3 fp) [] σ5 H5 s6)(f3:∀b∈fp,Cd X pins H3 b)
 (hs:Heap.SameBut s3.heap.objs.size s6.heap h''):Inv X pins σ H5 { s6 with heap:=h'' }:=by
 have neC:∀b o,s3.heap.get? b=some o->b≠s3.heap.objs.size:=λb o e=>ne_of_lt (Heap.lt_size e);have un:=I6.base;refine I3.call' (s':={ s6 with heap:=h'' }) (ch:=fp) I6.os ⟨λb o e n hb hx=>?_,λb o e n hb hx=>?_,un.free,λb o e hx=>?_,un.tups,un.frzs,un.tbls⟩ ?_ I6.bare ?_
 .exact(hs.2 b (neC b o e)).trans (un.keep b o e n hb hx)
 .obtain⟨sl,q⟩:=un.slot b o e n hb hx;exact⟨sl,(hs.2 b (neC b o e)).trans q⟩
 .obtain⟨o',q⟩:=un.there b o e hx;exact⟨o',(hs.2 b (neC b o e)).trans q⟩
 .intro b ob e;have hfree:H5 s3.heap.objs.size=none:=I6.free;refine(I6.hok b ob e).stay (λc w' hc q=>(hs.2 c ?_).trans q) (λ_ q=>q) λ_ _ q=>q;intro z;rcases hc with hc|hc
  .rw[<- hc,z,hfree]at e;cases e
  .rw[z,hfree]at hc;cases hc
 .intro b hb;obtain⟨_,a2,_,a4,a5,a6⟩:=f3 b hb;exact⟨a4,a2,a5,a6⟩
def PZ{i:Nat}{y:Str}{elt tg iter:Expr}{ifs:List Expr}{scope:Scope}{pos spos py:Pos}{loc fr:List Str}{ix:List Nat}{wi:TI}{g:TG}{tf:TT}{te:TE}(hN:X.N.Nodup)(hiN:X.N[i]?=some y)(hy:X.env.scope.names.lookup y=some .local)
 (hc:X.calm=true) (S:CSc X scope fr ix) (hi:PI X tg iter wi)
 (hg:∀s H ex,PG (cCx X (loc++fr) scope s H ex) tg g) (hf:∀s H ex,PF (cCx X (loc++fr) scope s H ex) ifs tf) (he:∀s H ex,PE (cCx X (loc++fr) scope s H ex) elt te)
 (hsw:swapsWith (.ListComp elt [⟨tg,iter,ifs,0⟩] scope pos) (some (.Name y py)) spos.line X.env=pure true:=by rfl) (hs:∀x,foldedSetIterable iter X.env x=pure x:=by intro _;rfl):
 PS X (.Assign [.Name y py] (.ListComp elt [⟨tg,iter,ifs,0⟩] scope pos) spos) (EM (EL loc.length ix wi g tf te) (Cs i)):=by
 intro pins s σ H D I h;have hnames:∀y∈scope.names,y.2=.local->scope.names.lookup y.1=some .local:=λy hy e=>by
  have:=all_eq_true.mp S.loc y hy;rw[e]at this;simpa using this
 rw[exec_Assign_Name_used _ _ _ _ hsw];refine wpAny_bind (wpAny_standAt (wpAny_bind ?_));show wpAny _ _ (do let _ <- comprehension (.ListComp elt [⟨tg,iter,ifs,0⟩] scope pos) scope X.env _ (newList []) false (eval iter X.env) (some (assign (.Name y py) X.env))) _ _ s;refine wpAny_bind (wpAny_mono (wpAny_comprehension_free (use:=some (assign (.Name y py) X.env)) (Q:=λ_ s'=>SP X pins D .next s') rfl hs (Ef (S.clos I.ok)) S.kind hnames
  (thn (hi pins s σ H _ I h) λv s1 h1=>thn h1 λitv s2 h2=>?_)) (λ_ s' hq=>wpAny_pure (wpAny_pure hq)) λ_ _ e=>e)
 obtain⟨it,fp,tn,J,H2,rfl,I2,T,st2,f2,hW⟩:=h2;refine KY (RR:=λacc C=>compPost (model X.prog X.w) X.A X.xe (some (assign (.Name y py) X.env)) (λ_ s'=>SP X pins D .next s') acc C) hc S hg hf he I2 T st2 f2 hW λs3 s6 H5 σ5 L I3 I6 f3 q=>?_;have J6:Inv X pins σ H5 s6:=JG (h'':=s6.heap) I3 I6 f3 (.refl ..);obtain⟨m,hm,_⟩:=I6.loc;have hm:s6.heap.Ns s3.heap.objs.size m:=hm;have hL:s3.heap.objs.size≠X.env.locals:=Ne.symm (ne_of_lt I3.lt);show wpAny _ _ (assign (.Name y py) X.env (.ref L)) _ _ s6;refine wpAny_assign_Name (HE (v:=.ref L) J6 hN hiN (.inl hy) rfl (λs7 I7 ⟨a,sb,ha⟩=>?_) (.inr hy));have hca:s3.heap.objs.size≠a:=by
  rcases ha with rfl|ha
  .exact hL
  .obtain⟨v,z⟩:=I3.cell y a ha;exact Ne.symm (ne_of_lt z.lt)
 refine⟨m,hm.sameBut sb hca,λh' hs'=>?_⟩;refine⟨_,H5,I7.turned (t':=s7.toks) (it:=s3.heap.objs.size) (λb o hb e=>(hs'.2 b hb).trans e) I6.free hL (.inr I3.sz) (λx c e z=>?_) (λp hp z=>?_),q⟩
 .obtain⟨v,w⟩:=I3.cell x c e;exact absurd w.lt (by rw[z];exact lt_irrefl _)
 .exact absurd (Heap.lt_size (I3.pin p hp).1) (by rw[z];exact lt_irrefl _)
end
mutual
def Rep(K:PySem.W.Frag)(H:Hp):PyData->V->Prop
 |.none,v=>v=.non
 |.bool b,v=>v=.bl b
 |.int i,v=>v=.int i
 |.str x,v=>v=.str x
 |.list ds,v=>∃a xs,v=.ref a/\SqL K H a xs/\BS K H ds xs
 |.tuple ds,v=>∃a xs,v=.ref a/\SqT K H a xs/\BS K H ds xs
 |.dict _,_=>False
def BS(K:PySem.W.Frag)(H:Hp):List PyData->List V->Prop
 |[],xs=>xs=[]
 |d::ds,xs=>∃x r,xs=x::r/\Rep K H d x/\BS K H ds r
end
section
variable{X:Cx}{pins:List (Addr×Obj)}{σ:St}{H:Hp}{s:Shared}
mutual
theorem CU(I:Inv X pins σ H s):∀(d:PyData) (v:V) (u:Value),Rep X.K H d v->RelV v u->∃as,Reads s.heap u d as
 |.none,v,u,h,r=>by
  have h:v=.non:=by simpa only[Rep]using h
  subst h;cases r;exact⟨_,.none⟩
 |.bool b,v,u,h,r=>by
  have h:v=.bl b:=by simpa only[Rep]using h
  subst h;cases r;exact⟨_,.bool b⟩
 |.int i,v,u,h,r=>by
  have h:v=.int i:=by simpa only[Rep]using h
  subst h;obtain⟨t,rfl⟩:=r;exact⟨_,.int i t⟩
 |.str x,v,u,h,r=>by
  have h:v=.str x:=by simpa only[Rep]using h
  subst h;obtain⟨t,rfl⟩:=r;exact⟨_,.str x t⟩
 |.list ds,v,u,h,r=>by
  have h:∃a xs,v=.ref a/\SqL X.K H a xs/\BS X.K H ds xs:=by simpa only[Rep]using h
  obtain⟨a,xs,rfl,hq,ha⟩:=h;cases r;obtain⟨its,rv,⟨o,n,e,c,_,dd⟩,hz⟩:=I.list hq;obtain⟨as,q⟩:=DQ I ds xs its ha rv;exact⟨_,.list e c dd (by simpa using q)⟩
 |.tuple ds,v,u,h,r=>by
  have h:∃a xs,v=.ref a/\SqT X.K H a xs/\BS X.K H ds xs:=by simpa only[Rep]using h
  obtain⟨a,xs,rfl,hq,ha⟩:=h;cases r;obtain⟨its,rv,⟨o,e,c,n,dd⟩,hz⟩:=I.tuple hq;obtain⟨as,q⟩:=DQ I ds xs its ha rv;exact⟨_,.tuple e c dd (by simpa using q)⟩
 |.dict _,v,u,h,r=>by
  have h:False:=by simpa only[Rep]using h
  exact h.elim
theorem DQ(I:Inv X pins σ H s):∀(ds:List PyData) (xs:List V) (us:List Value),BS X.K H ds xs->Vals xs us->∃as,ReadsAll s.heap us ds as
 |[],xs,us,h,r=>by
  have h:xs=[]:=by simpa only[BS]using h
  subst h;cases r;exact⟨_,.nil⟩
 |d::ds,xs,us,h,r=>by
  have h:∃x r,xs=x::r/\Rep X.K H d x/\BS X.K H ds r:=by simpa only[BS]using h
  obtain⟨x,rr,rfl,h1,h2⟩:=h;cases r with
  |cons r1 r2=>
   obtain⟨as,q1⟩:=CU I d _ _ h1 r1;obtain⟨bs,q2⟩:=DQ I ds _ _ h2 r2;exact⟨_,.cons q1 q2⟩
end
end
def Stb:HO->Prop
 |.tup _=>True
 |.frz _ _=>True
 |.ext _=>True
 |.xd _=>True
 |_=>False
structure Grow(H H':Hp):Prop where
 keep:∀b o,Stb o->H b=some o->H' b=some o
theorem Grow.tup{H H':Hp}(g:Grow H H'):∀b xs,H b=some (.tup xs)->H' b=some (.tup xs):=λb _ h=>g.keep b _ trivial h
theorem Grow.frz{H H':Hp}(g:Grow H H'):∀b o u,H b=some (.frz o u)->H' b=some (.frz o u):=λb _ _ h=>g.keep b _ trivial h
def Grow.refl{H:Hp}:Grow H H:=⟨λ_ _ _ h=>h⟩
def Chg(H:Hp)(p:Addr):Prop:=∀o,Stb o->H p≠some o
def Grow.put{H H':Hp}{p:Addr}{o:HO}(a:Grow H H')(h:Chg H' p):Grow H (upd H' p o):=⟨λc u s e=>by
 have q:=a.keep c u s e;have n:c≠p:=λz=>h u s (by rw[<- z];exact q);rw[AU n];exact q⟩
theorem Chg.lst{H:Hp}{p:Addr}{xs:List V}(h:H p=some (.lst xs)):Chg H p:=λo s e=>by rw[h]at e;cases e;exact s
def Grow.sq{K:PySem.W.Frag}{H H':Hp}{a:Addr}{xs:List V}(g:Grow H H')(h:SqT K H a xs):SqT K H' a xs:=by
 rcases h with(h|⟨o,h⟩)|h
 .exact .inl (.inl (g.tup _ _ h))
 .exact .inl (.inr ⟨o,g.frz _ _ _ h⟩)
 .exact .inr h
section
variable{X:Cx}
def Hi(K:PySem.W.Frag):List V->Hp->VK->Prop:=λxs H Q=>∃x d,xs=[x]/\Rep K H d x/\d.showable=true/\d.hasDict=false/\isDisplay d=true/\d.depth<=30/\d.shown.length<=sizeLine/\Q (.str d.shown) H
def Ka(hg:X.A.guards=some [])(hu:X.A.units+64<cLine):Ba X (.builtin "repr") (Hi X.K):=by
 intro pins s σ H xs us Q I r h;obtain⟨x,d,rfl,hr,hs,hd,hi,hdep,hsz,q⟩:=h;obtain⟨u,rfl,ru⟩:=C2 r;obtain⟨as,hR⟩:=CU I d x u hr ru;obtain⟨a,rfl⟩:=isRef_of_reads hR hi;exact repr_of_reads' hR hs (PyData.noDict_hsm hd) hg (by omega) (λ_ _ e=>e) (λh' u tk hk=>⟨.str d.shown,H,I.kept hk,⟨_,rfl⟩,q⟩) hsz
def KZ:Ba X (.builtin "repr") (λxs H Q=>∃i,xs=[.int i]/\i.natAbs.log2<1920/\Q (.str (toString i)) H):=by
 intro pins s σ H xs us Q I r h;obtain⟨i,rfl,hi,q⟩:=h;obtain⟨u,rfl,ru⟩:=C2 r;obtain⟨t,rfl⟩:=ru;exact PySem.P.repr_of_int hi ⟨.str (toString i),H,I.tok _,⟨_,rfl⟩,q⟩
def KC(K:PySem.W.Frag):R2:=λx y H Q=>∃d e,Rep K H d x/\Rep K H e y/\d.canLay0=true/\e.canLay0=true/\min d.depth e.depth<=60/\Q (.bl (!PyData.eqv d e)) H
def Mb(K:PySem.W.Frag):R2:=λx y H Q=>∃d e,Rep K H d x/\Rep K H e y/\d.canLay0=true/\e.canLay0=true/\min d.depth e.depth<=60/\Q (.bl (PyData.eqv d e)) H
def T7(hu:X.A.units+64<cLine):OpR X (compareOp .NotEq) (KC X.K):=by
 intro pins s σ H x y v u Q I rx ry h;obtain⟨d,e,h1,h2,c1,c2,hm,q⟩:=h;obtain⟨as,q1⟩:=CU I d x v h1 rx;obtain⟨bs,q2⟩:=CU I e y u h2 ry;exact PySem.SeqAt.compareNe_reads q1 q2 c1 c2 (by omega) ⟨.bl _,H,I,rfl,q⟩
def TD(hu:X.A.units+64<cLine):OpR X (compareOp .Eq) (Mb X.K):=by
 intro pins s σ H x y v u Q I rx ry h;obtain⟨d,e,h1,h2,c1,c2,hm,q⟩:=h;obtain⟨as,q1⟩:=CU I d x v h1 rx;obtain⟨bs,q2⟩:=CU I e y u h2 ry;exact PySem.SeqAt.compareEq_reads q1 q2 c1 c2 (by omega) ⟨.bl _,H,I,rfl,q⟩
end
end L2
namespace L2
open PySem PySem.Spec PyProof.Rows
section
variable(K:PySem.W.Frag){X:Cx}
def Ie(hK:X.K=K:=by rfl):IxR X (Ma K):=by subst hK;exact QJ
def Jd(hK:X.K=K:=by rfl):IxR X (MZ K):=by subst hK;exact Tf
def MB(hK:X.K=K:=by rfl):SlR X (KB K):=by subst hK;exact OK
def TB(hK:X.K=K:=by rfl):OpR X (compareOp .In) (rIn K false):=by subst hK;exact LH
def JZ(hu:X.A.units+64<cLine)(hK:X.K=K:=by rfl):OpR X (compareOp .Eq) (Mb K):=by subst hK;exact TD hu
def Gc(hu:X.A.units+64<cLine)(hK:X.K=K:=by rfl):OpR X (compareOp .NotEq) (KC K):=by subst hK;exact T7 hu
def IY(hK:X.K=K:=by rfl):OpR X (binaryOp .Add) (KD K):=by subst hK;exact Py
def S2:List V->Hp->VK->Prop:=λxs H Q=>∃p ys,xs=[.ref p]/\(SqL K H p ys∨SqT K H p ys)/\Q (.int ys.length) H
def Ll(hK:X.K=K:=by rfl):Ba X (.builtin "len") (S2 K):=by subst hK;exact J2
def E2:List V->Hp->VK->Prop:=λxs H Q=>∃p ys,xs=[.ref p]/\(SqL K H p ys∨SqT K H p ys)/\∀l,H l=none->Q (.ref l) (upd H l (.lst ys))
def GG(hK:X.K=K:=by rfl):Ba X (.type "list") (E2 K):=by subst hK;exact J1
def FT(hg:X.A.guards=some [])(hu:X.A.units+64<cLine)(hK:X.K=K:=by rfl):Ba X (.builtin "repr") (Hi K):=by subst hK;exact Ka hg hu
def Mr{tg l:Expr}{tl:TE}(hl:PE X l tl)(hK:X.K=K:=by rfl):PI X tg l (Hr K tl):=by subst hK;exact Pk hl
def Pj{tg l:Expr}{tl:TE}(hl:PE X l tl)(hK:X.K=K:=by rfl):PI X tg l (KN K tl):=by subst hK;exact Sl hl
def Pm{pos:Pos}{es:List Expr}{k:Nat}{t:TGs}{n:Nat}(hc:X.calm=true)(h:PGs X es t)(hK:X.K=K:=by rfl)
 (hn:(assignEach es X.env).length=n:=by rfl) (hst:(assignEach es X.env).findIdx? (·.1)=none:=by rfl):PG X (.Tuple es k pos) (KQ K n t):=by
 subst hK;exact Sm hc h hn hst
end
structure DefAt(K:PySem.W.Frag)(mg:Str->Option Value)(x:Str)(st:Stmt)(f:Addr)(fd:FuncData)(ps:List Str):Prop where
 fn:Fun K x x st f fd
 mg:mg x=some (.ref f)
 bd:Binds K fd ps []
def Nl{X:Cx}{j k:Nat}{f:Addr}{fd:FuncData}{ps:List Str}{sp:Sp}{x:Str}{st:Stmt}{e:Expr}{es:List Expr}{t:TA}{p pos:Pos}(F:FnOk X.prog X.w X.K X.mg X.base CX0 j f fd ps sp)(hr:Room k X.A)(D:DefAt X.K X.mg x st f fd ps)(ha:PA X (e::es) t)
 (hjk:j<=k:=by decide) (hg:Gl X x:=by rfl) (hdb:(x==("__debug__":Str))=false:=by decide) (he:starEach (e::es) X.env=(false,eval e X.env)::starEach es X.env:=by rfl) (hpl:(backTo pos (starEach es X.env)).any (·.1)=false:=by rfl):
 PE X (.Call (.Name x p) (e::es) [] pos) (CI sp [] E0 t):=
 Pu (F.mono hjk) hr hg D.mg D.fn.kp D.bd .nil Nm ha hdb he hpl
def Jz(i j k:Nat)(ta:TA):TS:=λD σ H=>ta σ H λvs H1=>∃v w z,vs=[v,w,z]/\D.nx (((σ.set k (some z)).set j (some w)).set i (some v)) H1
def Pb{X:Cx}{i j k:Nat}{x y z:Str}{a b c:Expr}{ta:TA}{px py pz pt pos:Pos}{kt k2 pt2}(hc:X.calm=true)(hN:X.N.Nodup)(hi:X.N[i]?=some x)(hj:X.N[j]?=some y)(hk:X.N[k]?=some z)
 (hx:X.env.scope.names.lookup x=some .local) (hy:X.env.scope.names.lookup y=some .local) (hz:X.env.scope.names.lookup z=some .local) (ha:PA X [a,b,c] ta)
 (hw:swappedStores [.Tuple [.Name x px,.Name y py,.Name z pz] kt pt] (.Tuple [a,b,c] k2 pt2) X.env=pure (some [x,y,z]))
 (hs:swapsWithSole [.Tuple [.Name x px,.Name y py,.Name z pz] kt pt] (.Tuple [a,b,c] k2 pt2) pos.line X.env=pure false:=by rfl):
 PS X (.Assign [.Tuple [.Name x px,.Name y py,.Name z pz] kt pt] (.Tuple [a,b,c] k2 pt2) pos) (Jz i j k ta):=by
 intro pins s σ H D I h;rw[exec_Assign_arm];refine wpAny_bind (wpAny_standAt ?_);rw[hs];refine wpAny_bind (wpAny_pure ?_);rw[if_neg (by decide)];refine wpAny_bind (Tuple_ (thn (ha _ pins s σ H _ I h) λus s1 ⟨vs,H1,I1,r1,q1⟩=>?_));obtain⟨v,w,q,e1,q1⟩:=q1;subst e1;obtain⟨u1,u2,u3,rfl,rv,rw',rq⟩:∃u1 u2 u3,us=[u1,u2,u3]/\RelV v u1/\RelV w u2/\RelV q u3:=by
  cases r1 with
  |cons p1 q1=>
   cases q1 with
   |cons p2 q2=>
    cases q2 with
    |cons p3 q3=>
     cases q3;exact⟨_,_,_,rfl,p1,p2,p3⟩
 refine wpAny_newObj_type ?_ (by show 3<=sizeLine;decide);have I2:Inv X pins σ H1 { s1 with heap:=s1.heap.push { cls:=.type "tuple",data:=.seq [u1,u2,u3].toArray } }:=I1.kept (t':=s1.toks) λb o e=>Heap.get?_push_of_some _ e;rw[hw];refine wpAny_bind (wpAny_pure ?_);show wpAny (model X.prog X.w) X.A (do rule "assign.swapped-stores";let items <- unpackItems (.ref s1.heap.objs.size) 3 none;assignInOrder [λv=>bindName X.env z v,λv=>bindName X.env y v,λv=>bindName X.env x v] items.reverse;pure Flow.next) _ _ _;refine wpAny_bind (wpAny_rule (wpAny_bind (unpackItems_tuple (items:=#[u1,u2,u3]) (I.ok.hd hc) (IsTup.new s1.heap _) λh' hx'=>?_)));have I3:=I2.kept (h':=h') (t':=s1.toks) λb o e=>hx' b o (ne_of_lt (Heap.lt_size e)) e;show wpAny _ _ (assignInOrder [λv=>bindName X.env z v,λv=>bindName X.env y v,λv=>bindName X.env x v] [u3,u2,u1] >>= λ_=>pure Flow.next) _ _ _;refine wpAny_bind (assignInOrder_cons (wpAny_bindName (CP I3 hN hk (.inl hz) rq (λs2 I4=>?_) (.inr hz))));refine assignInOrder_cons (wpAny_bindName (CP I4 hN hj (.inl hy) rw' (λs3 I5=>?_) (.inr hy)));refine assignInOrder_cons (wpAny_bindName (CP I5 hN hi (.inl hx) rv (λs4 I6=>assignInOrder_nil (wpAny_pure ?_)) (.inr hx)));exact⟨_,H1,I6,q1⟩
def Jk:bootBuiltins "list"=some (.type "list"):=by decide +kernel
def bt_int:bootBuiltins "int"=some (.type "int"):=by decide +kernel
def bt_len:bootBuiltins "len"=some (.builtin "len"):=by decide +kernel
def bt_repr:bootBuiltins "repr"=some (.builtin "repr"):=by decide +kernel
def bt_min:bootBuiltins "min"=some (.builtin "min"):=by decide +kernel
def bt_abs:bootBuiltins "abs"=some (.builtin "abs"):=by decide +kernel
def Hb:bootBuiltins "isinstance"=some (.builtin "isinstance"):=by decide +kernel
def ne1:¬ (("cells":Str)="next"):=by decide +kernel
def ne2:¬ (("cells":Str)="left"):=by decide +kernel
def ne3:¬ (("cells":Str)="turn"):=by decide +kernel
def ne4:¬ (("next":Str)="left"):=by decide +kernel
def ne5:¬ (("next":Str)="turn"):=by decide +kernel
def ne6:¬ (("left":Str)="turn"):=by decide +kernel
def VP:¬ (("left":Str)="next"):=by decide +kernel
def VO:¬ (("turn":Str)="next"):=by decide +kernel
def VN:¬ (("turn":Str)="left"):=by decide +kernel
mutual
theorem FS:∀ns:List Int,PyData.canLayAll0 (ns.map PyData.int)=true
 |[]=>by simp[PyData.canLayAll0]
 |n::ns=>by simp[PyData.canLayAll0,PyData.canLay0,FS ns]
end
end L2
namespace L2
open PySem PySem.Spec PyProof.Rows PySem.W
def cdF(c:Addr)(q:Str):Heap->Prop:=λh=>h.CodeRec (.ref c) q
def V6(H:Hp)(q:Str)(pos:Pos)(ps:Array Value):Prop:=ps=#[]∨∃c,ps=#[rawInt pos.line,rawInt pos.col,.ref c]/\H c=some (.ext (cdF c q))
end L2
namespace L2
open PySem PySem.Spec PyProof.Rows
def Exo(h:Heap)(a C:Addr)(dx:Option Addr)(tb:Value):Prop:=∃vs sl,h.get? a=some ⟨.ref C,dx,.fields vs,sl⟩/\vs[1]?=some tb
end L2
namespace L2
open PySem PySem.Spec PyProof.Rows
open Builtin Builtin.ObjectAttr
def XO(a C:Addr)(dx:Option Addr)(h:Heap):Prop:=∃tb,Exo h a C dx tb
def XdAt(H:Hp):Option Addr->List (Str×V)->Prop
 |none,fs=>fs=[]
 |some d,fs=>H d=some (.xd fs)
end L2
namespace L2
open PySem PySem.Spec PyProof.Rows
def XdAt.grow{H H':Hp}{dx:Option Addr}{fs:List (Str×V)}(g:Grow H H')(h:XdAt H dx fs):XdAt H' dx fs:=by
 cases dx with
 |none=>exact h
 |some d=>exact g.keep _ _ trivial h
def ExR(K:PySem.W.Frag)(nm:Str)(fs:List Str)(H:Hp)(a:Addr)(xs:List V):Prop:=∃C dx,Uz K nm=some C/\H a=some (.ext (XO a C dx))/\XdAt H dx (fs.zip xs)/\xs.length=fs.length
theorem ExR.grow{K:PySem.W.Frag}{nm:Str}{fs:List Str}{H H':Hp}{a:Addr}{xs:List V}(g:Grow H H')(h:ExR K nm fs H a xs):ExR K nm fs H' a xs:=
 let ⟨C,dx,h1,h2,h3,h4⟩:=h;⟨C,dx,h1,g.keep _ _ trivial h2,h3.grow g,h4⟩
inductive I where
 |non|bl (b:Bool)|int (i:Int)|str (x:Str)|tup (ds:List I)
inductive D where
 |im (i:I)|mu (n:Nat)|tm (ds:List D)|ro (ns:List Int)|op (nm:Str) (fs:List Str) (ds:List D)
inductive MO where
 |lst (ds:List D)|dic (kvs:List (Key×D))
abbrev Hd:=List MO
abbrev Ls:=List (Option D)
def RoL(K:PySem.W.Frag)(H:Hp)(a:Addr)(xs:List V):Prop:=(∃o,H a=some (.frz o (.lst xs))) ∨
 ∃(o:Obj) (its:Array Value) (n:Nat),K.lookup a=some o/\o.cls=.type "list"/\o.dict=none/\o.data=.seq its n/\its.size<=sizeLine/\Vals xs its.toList
def RoL.sq{K:PySem.W.Frag}{H:Hp}{a:Addr}{xs:List V}(h:RoL K H a xs):SqL K H a xs:=by
 rcases h with⟨o,h⟩|h
 .exact .inl (.inr ⟨o,h⟩)
 .exact .inr h
def RoL.grow{K:PySem.W.Frag}{H H':Hp}{a:Addr}{xs:List V}(g:Grow H H')(h:RoL K H a xs):RoL K H' a xs:=by
 rcases h with⟨o,h⟩|h
 .exact .inl ⟨o,g.frz _ _ _ h⟩
 .exact .inr h
def BW(n:Nat):Prop:=n<=sizeLine
def EV(n:Nat):Prop:=n<sizeLine
def BK(i j:Int):Prop:=(-(2^64)<i/\i<2^64)∨(-(2^64)<j/\j<2^64)
def Hk(i j:Int):Prop:=0<=j/\j<=1000000/\i.natAbs<2^64
def FI(j:Int):Prop:=0<j/\j<1073741824
def BG(j:Int):Prop:=0<j
def GW(j:Int):Prop:=-(2^62)<=j/\j<2^62
def RX(i j:Int):Prop:=(-(2^62)<=i/\i<2^62)/\-(2^62)<=j/\j<2^62
def Na(j:Int):Prop:=j<2^24/\-(2^62)<=j
def NZ(i j:Int):Prop:=(-(2^62)<=i/\i<2^62)/\(-(2^62)<=j/\j<2^62)/\(j-i).toNat<=2^24
def VG(n:Nat):Prop:=n<1920
def Ac{n:Nat}(h:n<=1000000):BW n:=le_trans h (by rw[sizeLine_eq];decide)
def Fi{n:Nat}(h:n<1000000):EV n:=lt_of_lt_of_le h (by rw[sizeLine_eq];decide)
def E7{i j:Int}(a:-1000000000000<=i)(b:i<=1000000000000):BK i j:=.inl ⟨by omega,by omega⟩
def E1{j:Int}(a:-1000000000000<=j)(b:j<=1000000000000):GW j:=⟨by omega,by omega⟩
section
variable(K:PySem.W.Frag)
mutual
def RI(H:Hp):I->V->Prop
 |.non,v=>v=.non
 |.bl b,v=>v=.bl b
 |.int i,v=>v=.int i
 |.str x,v=>v=.str x
 |.tup ds,v=>∃a xs,v=.ref a/\SqT K H a xs/\RIs H ds xs
def RIs(H:Hp):List I->List V->Prop
 |[],xs=>xs=[]
 |d::ds,xs=>∃x r,xs=x::r/\RI H d x/\RIs H ds r
end
mutual
def RD(ρ:List Addr)(H:Hp):D->V->Prop
 |.im i,v=>RI K H i v
 |.mu n,v=>∃a,ρ[n]?=some a/\v=.ref a
 |.tm ds,v=>∃a xs,v=.ref a/\SqT K H a xs/\RDs ρ H ds xs
 |.ro ns,v=>∃a,v=.ref a/\RoL K H a (ns.map V.int)
 |.op nm fs ds,v=>∃a xs,v=.ref a/\ExR K nm fs H a xs/\RDs ρ H ds xs
def RDs(ρ:List Addr)(H:Hp):List D->List V->Prop
 |[],xs=>xs=[]
 |d::ds,xs=>∃x r,xs=x::r/\RD ρ H d x/\RDs ρ H ds r
end
def RKs(ρ:List Addr)(H:Hp):List (Key×D)->List (Key×V)->Prop
 |[],xs=>xs=[]
 |d::ds,xs=>∃x r,xs=x::r/\x.1=d.1/\RD K ρ H d.2 x.2/\RKs ρ H ds r
def RC(ρ:List Addr)(H:Hp):MO->HO->Prop
 |.lst ds,o=>∃xs,o=.lst xs/\RDs K ρ H ds xs
 |.dic kvs,o=>∃kv,o=.dK kv/\RKs K ρ H kvs kv
def Hf:List Value->List (Addr×Str×Pos)
 |.ref P::.str q _::.int l _::.int c _::r=>(P,q,⟨l.toNat,c.toNat,0,0⟩)::Hf r
 |_=>[]
def UK(o:Obj):List (Addr×Str×Pos):=match o.cls,o.data with
 |.str _ _,.fields vs=>Hf vs.toList
 |_,_=>[]
def Fq(K:PySem.W.Frag):List (Addr×Str×Pos):=match K.getLast? with
 |some p=>UK p.2
 |none=>[]
def TabsOk(K:PySem.W.Frag)(H:Hp):Prop:=∀x∈Fq K,∃ps,H x.1=some (.tbl ps)/\V6 H x.2.1 x.2.2 ps
structure RH(ρ:List Addr)(H:Hp)(hd:Hd):Prop where
 len:ρ.length=hd.length
 nd:ρ.Nodup
 tabs:TabsOk K H
 ob:∀(n:Nat) (o:MO) (a:Addr),hd[n]?=some o->ρ[n]?=some a->∃ho,H a=some ho/\RC K ρ H o ho
structure RL(ρ:List Addr)(H:Hp)(ls:Ls)(σ:St):Prop where
 len:ls.length=σ.length
 ob:∀(i:Nat) (d:D),ls[i]?=some (some d)->∃v,σ[i]?=some (some v)/\RD K ρ H d v
end
structure Ext(ρ:List Addr)(H:Hp)(ρ':List Addr)(H':Hp):Prop where
 pre:∃r,ρ'=ρ++r/\∀b∈r,H b=none
 keep:∀b o,H b=some o->b∉ρ->(∀ps,o≠.tbl ps)->H' b=some o
 tab:∀b ps,H b=some (.tbl ps)->∃ps',H' b=some (.tbl ps')
def nt{o:HO}(h:match o with|.tbl _=>False|_=>True:=by trivial):∀ps,o≠.tbl ps:=λps e=>by subst e;exact h
theorem TabsOk.upd{K:PySem.W.Frag}{H:Hp}(t:TabsOk K H){a:Addr}{ho:HO}(h1:∀ps,H a≠some (.tbl ps))(h2:∀φ,H a≠some (.ext φ)):TabsOk K (upd H a ho):=λx hx=>by
 obtain⟨ps,e,g⟩:=t x hx;have ne:x.1≠a:=λz=>h1 ps (by rw[<- z];exact e);refine⟨ps,by rw[AU ne];exact e,?_⟩;rcases g with g|⟨c,g1,g2⟩
 .exact .inl g
 .have nc:c≠a:=λz=>h2 _ (by rw[<- z];exact g2);exact .inr ⟨c,g1,by rw[AU nc];exact g2⟩
section
variable{K:PySem.W.Frag}{ρ ρ' ρ1 ρ2:List Addr}{H H' H1 H2:Hp}{hd hd' hd1:Hd}
mutual
theorem RI.grow(g:Grow H H'):∀{i:I} {v:V},RI K H i v->RI K H' i v
 |.non,v,h=>by simpa only[RI]using h
 |.bl b,v,h=>by simpa only[RI]using h
 |.int b,v,h=>by simpa only[RI]using h
 |.str b,v,h=>by simpa only[RI]using h
 |.tup ds,v,h=>by
  simp only[RI]at h ⊢;obtain⟨a,xs,e,q,r⟩:=h;exact⟨a,xs,e,g.sq q,RIs.grow g r⟩
theorem RIs.grow(g:Grow H H'):∀{i:List I} {v:List V},RIs K H i v->RIs K H' i v
 |[],v,h=>by simpa only[RIs]using h
 |d::ds,v,h=>by
  simp only[RIs]at h ⊢;obtain⟨x,r,e,q,z⟩:=h;exact⟨x,r,e,q.grow g,RIs.grow g z⟩
end
def RH.mut(h:RH K ρ H hd){a:Addr}(m:a∈ρ):(∃xs,H a=some (.lst xs))∨∃kv,H a=some (.dK kv):=by
 obtain⟨n,e⟩:=List.mem_iff_getElem?.mp m;have hn:n<hd.length:=by rw[<- h.len];exact(List.getElem?_eq_some_iff.mp e).1
 obtain⟨ho,e1,e2⟩:=h.ob n hd[n] a (by simp[hn]) e;cases q:hd[n]with
 |lst ds=>rw[q]at e2;obtain⟨xs,rfl,_⟩:=e2;exact .inl ⟨xs,e1⟩
 |dic ds=>rw[q]at e2;obtain⟨xs,rfl,_⟩:=e2;exact .inr ⟨xs,e1⟩
def RH.stb_out(h:RH K ρ H hd){a:Addr}{o:HO}(s:Stb o)(e:H a=some o):a∉ρ:=λm=>by
 rcases h.mut m with⟨y,z⟩|⟨y,z⟩<;>(rw[e]at z;cases z;exact s)
def Qs{o:HO}(s:Stb o):∀ps,o≠.tbl ps:=λps e=>by subst e;exact s
def Ext.grow(e:Ext ρ H ρ' H')(h:RH K ρ H hd):Grow H H':=⟨λb o s q=>e.keep b _ q (h.stb_out s q) (Qs s)⟩
def Ext.refl:Ext ρ H ρ H:=⟨⟨[],by simp,by simp⟩,λ_ _ h _ _=>h,λ_ ps h=>⟨ps,h⟩⟩
def Ext.trans(e:Ext ρ H ρ1 H1)(h0:RH K ρ1 H1 hd1)(e2:Ext ρ1 H1 ρ2 H2):Ext ρ H ρ2 H2:=by
 obtain⟨r1,rfl,f1⟩:=e.pre;obtain⟨r2,rfl,f2⟩:=e2.pre;refine⟨⟨r1++r2,by simp,λb m=>?_⟩,λb o q n t=>?_,λb ps q=>?_⟩
 .rcases mem_append.mp m with m|m
  .exact f1 b m
  .have z:=f2 b m;cases q:H b with
   |none=>rfl
   |some o=>
    by_cases n:b∈ρ
    .rcases h0.mut (List.mem_append_left r1 n)with⟨y,w⟩|⟨y,w⟩<;>(rw[z]at w;cases w)
    .by_cases t:∃ps,o=.tbl ps
     .obtain⟨ps,rfl⟩:=t;obtain⟨ps',this⟩:=e.tab b ps q;rw[z]at this;cases this
     .have:=e.keep b o q n λps y=>t ⟨ps,y⟩;rw[z]at this;cases this
 .refine e2.keep b o (e.keep b o q n t) (λm=>?_) t;rcases mem_append.mp m with m|m
  .exact n m
  .have:=f1 b m;rw[q]at this;cases this
 .obtain⟨ps',q'⟩:=e.tab b ps q;exact e2.tab b ps' q'
mutual
theorem RD.mono(g:Grow H H')(r:List Addr):∀{d:D} {v:V},RD K ρ H d v->RD K (ρ++r) H' d v
 |.im i,v,h=>by simp only[RD]at h ⊢;exact h.grow g
 |.mu n,v,h=>by
  simp only[RD]at h ⊢;obtain⟨a,e,q⟩:=h;exact⟨a,by rw[List.getElem?_append_left (List.getElem?_eq_some_iff.mp e).1];exact e,q⟩
 |.tm ds,v,h=>by
  simp only[RD]at h ⊢;obtain⟨a,xs,e,q,z⟩:=h;exact⟨a,xs,e,g.sq q,RDs.mono g r z⟩
 |.ro ns,v,h=>by
  simp only[RD]at h ⊢;obtain⟨a,e,q⟩:=h;exact⟨a,e,q.grow g⟩
 |.op nm fs ds,v,h=>by
  simp only[RD]at h ⊢;obtain⟨a,xs,e,q,z⟩:=h;exact⟨a,xs,e,q.grow g,RDs.mono g r z⟩
theorem RDs.mono(g:Grow H H')(r:List Addr):∀{d:List D} {v:List V},RDs K ρ H d v->RDs K (ρ++r) H' d v
 |[],v,h=>by simpa only[RDs]using h
 |d::ds,v,h=>by
  simp only[RDs]at h ⊢;obtain⟨x,r',e,q,z⟩:=h;exact⟨x,r',e,q.mono g r,RDs.mono g r z⟩
end
theorem RKs.mono(g:Grow H H')(r:List Addr):∀{d:List (Key×D)} {v:List (Key×V)},RKs K ρ H d v->RKs K (ρ++r) H' d v
 |[],v,h=>by simpa only[RKs]using h
 |d::ds,v,h=>by
  simp only[RKs]at h ⊢;obtain⟨x,r',e,q1,q,z⟩:=h;exact⟨x,r',e,q1,q.mono g r,RKs.mono g r z⟩
theorem RC.mono(g:Grow H H')(r:List Addr){o:MO}{ho:HO}(h:RC K ρ H o ho):RC K (ρ++r) H' o ho:=by
 cases o with
 |lst ds=>obtain⟨xs,e,q⟩:=h;exact⟨xs,e,q.mono g r⟩
 |dic ds=>obtain⟨xs,e,q⟩:=h;exact⟨xs,e,q.mono g r⟩
def RD.ext(h:RH K ρ H hd)(e:Ext ρ H ρ' H'){d:D}{v:V}(q:RD K ρ H d v):RD K ρ' H' d v:=by
 obtain⟨r,rfl,_⟩:=e.pre;exact q.mono (e.grow h) r
def RDs.ext(h:RH K ρ H hd)(e:Ext ρ H ρ' H'){d:List D}{v:List V}(q:RDs K ρ H d v):RDs K ρ' H' d v:=by
 obtain⟨r,rfl,_⟩:=e.pre;exact q.mono (e.grow h) r
theorem RL.ext(h:RH K ρ H hd)(e:Ext ρ H ρ' H'){ls:Ls}{σ:St}(q:RL K ρ H ls σ):RL K ρ' H' ls σ:=
 ⟨q.len,λi d z=>let ⟨v,a,b⟩:=q.ob i d z;⟨v,a,b.ext h e⟩⟩
theorem RDs.len:∀{ds:List D} {xs:List V},RDs K ρ H ds xs->xs.length=ds.length
 |[],xs,h=>by simp only[RDs]at h;rw[h];rfl
 |d::ds,xs,h=>by
  simp only[RDs]at h;obtain⟨x,r,rfl,_,z⟩:=h;simp[RDs.len z]
theorem RDs.get:∀{ds:List D} {xs:List V} {i:Nat} {d:D},RDs K ρ H ds xs->ds[i]?=some d->∃x,xs[i]?=some x/\RD K ρ H d x
 |[],xs,i,d,h,e=>by simp at e
 |d::ds,xs,0,e,h,q=>by
  simp only[RDs]at h;obtain⟨x,r,rfl,z,_⟩:=h;simp at q;subst q;exact⟨x,rfl,z⟩
 |d::ds,xs,i+1,e,h,q=>by
  simp only[RDs]at h;obtain⟨x,r,rfl,_,z⟩:=h;obtain⟨y,a,b⟩:=RDs.get (i:=i) z (by simpa using q);exact⟨y,by simpa using a,b⟩
def RDs.nil:RDs K ρ H [] []:=by simp[RDs]
def RDs.cons{d:D}{v:V}{ds:List D}{vs:List V}(h:RD K ρ H d v)(t:RDs K ρ H ds vs):RDs K ρ H (d::ds) (v::vs):=by
 simp only[RDs];exact⟨v,vs,rfl,h,t⟩
theorem RDs.app:∀{ds es:List D} {xs ys:List V},RDs K ρ H ds xs->RDs K ρ H es ys->RDs K ρ H (ds++es) (xs++ys)
 |[],es,xs,ys,h,t=>by simp only[RDs]at h;subst h;simpa using t
 |d::ds,es,xs,ys,h,t=>by
  simp only[RDs]at h;obtain⟨x,r,rfl,z,q⟩:=h;simp only[cons_append];exact .cons z (q.app t)
theorem RDs.drop:∀{ds:List D} {xs:List V} (n:Nat),RDs K ρ H ds xs->RDs K ρ H (ds.drop n) (xs.drop n)
 |ds,xs,0,h=>by simpa using h
 |[],xs,n+1,h=>by simp only[RDs]at h;subst h;simp[RDs]
 |d::ds,xs,n+1,h=>by
  simp only[RDs]at h;obtain⟨x,r,rfl,z,q⟩:=h;simpa using q.drop n
theorem RDs.take:∀{ds:List D} {xs:List V} (n:Nat),RDs K ρ H ds xs->RDs K ρ H (ds.take n) (xs.take n)
 |ds,xs,0,h=>by simp[RDs]
 |[],xs,n+1,h=>by simp only[RDs]at h;subst h;simp[RDs]
 |d::ds,xs,n+1,h=>by
  simp only[RDs]at h;obtain⟨x,r,rfl,z,q⟩:=h;simpa using RDs.cons z (q.take n)
theorem RIs.ds:∀{is:List I} {xs:List V},RIs K H is xs->RDs K ρ H (is.map D.im) xs
 |[],xs,h=>by simpa only[RIs,RDs,map_nil]using h
 |i::is,xs,h=>by
  simp only[RIs]at h;obtain⟨x,r,rfl,z,q⟩:=h;exact .cons (by simpa only[RD]using z) q.ds
theorem RDs.is:∀{is:List I} {xs:List V},RDs K ρ H (is.map D.im) xs->RIs K H is xs
 |[],xs,h=>by simpa only[RIs,RDs,map_nil]using h
 |i::is,xs,h=>by
  simp only[map_cons,RDs]at h;obtain⟨x,r,rfl,z,q⟩:=h;simp only[RIs];exact⟨x,r,rfl,by simpa only[RD]using z,q.is⟩
def RH.put(h:RH K ρ H hd){n:Nat}{a:Addr}(hn:ρ[n]?=some a){o:MO}{ho:HO}(c:RC K ρ H o ho):RH K ρ (upd H a ho) (hd.set n o)/\Ext ρ H ρ (upd H a ho):=by
 have ha:=h.mut (mem_of_getElem? hn);have n1:∀ps,H a≠some (.tbl ps):=λps e=>by rcases ha with⟨y,z⟩|⟨y,z⟩<;>(rw[e]at z;cases z)
 have n2:∀φ,H a≠some (.ext φ):=λps e=>by rcases ha with⟨y,z⟩|⟨y,z⟩<;>(rw[e]at z;cases z)
 have ex:Ext ρ H ρ (upd H a ho):=⟨⟨[],by simp,by simp⟩,λb o q m _=>by
  have:b≠a:=λz=>m (by rw[z];exact mem_of_getElem? hn);rw[AU this];exact q,λb ps q=>⟨ps,(AU (show b≠a from λz=>n1 ps (by rw[<- z];exact q))).trans q⟩⟩
 have gr:=ex.grow h;refine⟨⟨by simp[h.len],h.nd,h.tabs.upd n1 n2,λm o' b e1 e2=>?_⟩,ex⟩;have hm:m<hd.length:=by rw[<- h.len];exact(List.getElem?_eq_some_iff.mp e2).1
 by_cases hmn:m=n
 .subst hmn;rw[hn]at e2;cases e2;rw[List.getElem?_set_self hm]at e1;cases e1;exact⟨ho,Ae,by simpa using c.mono gr []⟩
 .rw[List.getElem?_set_ne (λz=>hmn z.symm)]at e1;obtain⟨ho',q1,q2⟩:=h.ob m o' b e1 e2;have:b≠a:=λz=>by
   subst z;have l1:=(List.getElem?_eq_some_iff.mp e2).1;have l2:=(List.getElem?_eq_some_iff.mp hn).1;exact hmn ((List.getElem?_inj l1 h.nd).mp (e2.trans hn.symm))
  exact⟨ho',by rw[AU this];exact q1,by simpa using q2.mono gr []⟩
theorem RH.lst(h:RH K ρ H hd){n:Nat}{a:Addr}{ds:List D}(hn:ρ[n]?=some a)(e:hd[n]?=some (.lst ds)):∃xs,H a=some (.lst xs)/\RDs K ρ H ds xs:=by
 obtain⟨ho,q,xs,rfl,r⟩:=h.ob n _ a e hn;exact⟨xs,q,r⟩
theorem RH.dic(h:RH K ρ H hd){n:Nat}{a:Addr}{ds:List (Key×D)}(hn:ρ[n]?=some a)(e:hd[n]?=some (.dic ds)):∃xs,H a=some (.dK xs)/\RKs K ρ H ds xs:=by
 obtain⟨ho,q,xs,rfl,r⟩:=h.ob n _ a e hn;exact⟨xs,q,r⟩
def RH.hid(h:RH K ρ H hd){a:Addr}(ha:H a=none){ho:HO}:RH K ρ (upd H a ho) hd/\Ext ρ H ρ (upd H a ho):=by
 have out:a∉ρ:=λm=>by rcases h.mut m with⟨y,z⟩|⟨y,z⟩<;>(rw[ha]at z;cases z)
 have ex:Ext ρ H ρ (upd H a ho):=⟨⟨[],by simp,by simp⟩,λb o q n _=>by rw[AU (As q ha)];exact q,λb ps q=>⟨ps,by rw[AU (As q ha)];exact q⟩⟩
 have gr:=ex.grow h;refine⟨⟨h.len,h.nd,h.tabs.upd (by simp[ha]) (by simp[ha]),λm o' b e1 e2=>?_⟩,ex⟩;obtain⟨ho',q1,q2⟩:=h.ob m o' b e1 e2;exact⟨ho',by rw[AU (As q1 ha)];exact q1,by simpa using q2.mono gr []⟩
def RH.hput(h:RH K ρ H hd){a:Addr}(out:a∉ρ){xs:List V}{ho:HO}(hl:H a=some (.lst xs)):RH K ρ (upd H a ho) hd:=by
 have gr:Grow H (upd H a ho):=Grow.refl.put (.lst hl);refine⟨h.len,h.nd,h.tabs.upd (by simp[hl]) (by simp[hl]),λm o' b e1 e2=>?_⟩;obtain⟨ho',q1,q2⟩:=h.ob m o' b e1 e2;have:b≠a:=λz=>out (by rw[<- z];exact mem_of_getElem? e2);exact⟨ho',by rw[AU this];exact q1,by simpa using q2.mono gr []⟩
end
end L2
namespace L2
open PySem PySem.Spec PyProof.Rows
abbrev ME:=Ls->Hd->Option (D×Hd)
abbrev MT:=Ls->Hd->Option (Bool×Hd)
abbrev MA:=Ls->Hd->Option (List D×Hd)
inductive Fl where
 |nx (ls:Ls)|rt (d:D)|bk (ls:Ls)|ct (ls:Ls)
abbrev MS:=Ls->Hd->Option (Fl×Hd)
section
variable(K:PySem.W.Frag)
def RE(t:TE)(m:ME):Prop:=∀(ρ:List Addr) (σ:St) (H:Hp) (hd:Hd) (ls:Ls) (Q:VK) (d:D) (hd':Hd),RH K ρ H hd->RL K ρ H ls σ->m ls hd=some (d,hd') ->
 (∀ρ' H' v,Ext ρ H ρ' H'->RH K ρ' H' hd'->RD K ρ' H' d v->Q v H')->t σ H Q
def RT(t:TT)(m:MT):Prop:=∀(ρ:List Addr) (σ:St) (H:Hp) (hd:Hd) (ls:Ls) (Q:Bool->Hp->Prop) (d:Bool) (hd':Hd),RH K ρ H hd->RL K ρ H ls σ->m ls hd=some (d,hd') ->
 (∀ρ' H',Ext ρ H ρ' H'->RH K ρ' H' hd'->Q d H')->t σ H Q
def RA(t:TA)(m:MA):Prop:=∀(ρ:List Addr) (σ:St) (H:Hp) (hd:Hd) (ls:Ls) (Q:List V->Hp->Prop) (d:List D) (hd':Hd),RH K ρ H hd->RL K ρ H ls σ->m ls hd=some (d,hd') ->
 (∀ρ' H' v,Ext ρ H ρ' H'->RH K ρ' H' hd'->RDs K ρ' H' d v->Q v H')->t σ H Q
def RN(t:TE)(m:MA):Prop:=∀(ρ:List Addr) (σ:St) (H:Hp) (hd:Hd) (ls:Ls) (Q:VK) (d:List D) (hd':Hd),RH K ρ H hd->RL K ρ H ls σ->m ls hd=some (d,hd') ->
 (∀ρ' H' a xs,Ext ρ H ρ' H'->RH K ρ' H' hd'->H a=none->a∉ρ'->H' a=some (.lst xs)->RDs K ρ' H' d xs->Q (.ref a) H')->t σ H Q
def V5(E:Ends)(ρ:List Addr)(H:Hp):Fl->Prop
 |.nx ls=>∀σ,RL K ρ H ls σ->E.nx σ H
 |.bk ls=>∀σ,RL K ρ H ls σ->E.bk σ H
 |.ct ls=>∀σ,RL K ρ H ls σ->E.ct σ H
 |.rt d=>∀v,RD K ρ H d v->E.rt v H
def RS(t:TS)(m:MS):Prop:=∀(ρ:List Addr) (σ:St) (H:Hp) (hd:Hd) (ls:Ls) (E:Ends) (f:Fl) (hd':Hd),RH K ρ H hd->RL K ρ H ls σ->m ls hd=some (f,hd') ->
 (∀ρ' H',Ext ρ H ρ' H'->RH K ρ' H' hd'->V5 K E ρ' H' f)->t E σ H
def RB(r:R2)(f:D->D->Hd->Option (D×Hd)):Prop:=∀(ρ:List Addr) (H:Hp) (hd:Hd) (d e:D) (v u:V) (Q:VK) (z:D) (hd':Hd),RH K ρ H hd->RD K ρ H d v->RD K ρ H e u->f d e hd=some (z,hd') ->
 (∀ρ' H' w,Ext ρ H ρ' H'->RH K ρ' H' hd'->RD K ρ' H' z w->Q w H')->r v u H Q
def RF(r:List V->Hp->VK->Prop)(f:List D->Hd->Option (D×Hd)):Prop:=∀(ρ:List Addr) (H:Hp) (hd:Hd) (ds:List D) (vs:List V) (Q:VK) (z:D) (hd':Hd),RH K ρ H hd->RDs K ρ H ds vs->f ds hd=some (z,hd') ->
 (∀ρ' H' w,Ext ρ H ρ' H'->RH K ρ' H' hd'->RD K ρ' H' z w->Q w H')->r vs H Q
def RG(tp:Bool)(r:List V->Hp->VK->Prop)(g:List D->Option D):Prop:=∀(ρ:List Addr) (H:Hp) (hd:Hd) (a:Addr) (xs:List V) (ds:List D) (Q:VK) (z:D),RH K ρ H hd->(SqL K H a xs∨(tp=true/\SqT K H a xs))->RDs K ρ H ds xs->g ds=some z ->
 (∀H' w,Ext ρ H ρ H'->RH K ρ H' hd->RD K ρ H' z w->Q w H')->r [.ref a] H Q
end
structure QE(K:PySem.W.Frag)(X:Cx)(e:Expr)(t:TE)(m:ME):Prop where
 p:PE X e t
 r:RE K t m
structure QT(K:PySem.W.Frag)(X:Cx)(e:Expr)(t:TT)(m:MT):Prop where
 p:PT X e t
 r:RT K t m
structure QW(K:PySem.W.Frag)(X:Cx)(e:Expr)(t:TT)(m:MT):Prop where
 p:PW X e t
 r:RT K t m
structure QA(K:PySem.W.Frag)(X:Cx)(e:List Expr)(t:TA)(m:MA):Prop where
 p:PA X e t
 r:RA K t m
structure QN(K:PySem.W.Frag)(X:Cx)(e:Expr)(t:TE)(m:MA):Prop where
 p:PE X e t
 r:RN K t m
structure QS(K:PySem.W.Frag)(X:Cx)(e:Stmt)(t:TS)(m:MS):Prop where
 p:PS X e t
 r:RS K t m
structure QSs(K:PySem.W.Frag)(X:Cx)(e:List Stmt)(t:TS)(m:MS):Prop where
 p:PSs X e t
 r:RS K t m
def AH:D->Option (List D)
 |.im (.tup is)=>some (is.map .im)
 |.tm ds=>some ds
 |_=>none
def B1(hd:Hd):D->Option (List D)
 |.mu n=>match hd[n]? with
  |some (.lst ds)=>some ds
  |_=>none
 |.ro ns=>some (ns.map λn=>.im (.int n))
 |_=>none
def Ap(hd:Hd)(d:D):Option (List D):=match AH d with
 |some ds=>some ds
 |none=>B1 hd d
def B4:List D->Option (List I)
 |[]=>some []
 |.im i::r=>(B4 r).map (i::·)
 |_::_=>none
def AV(ds:List D):D:=match B4 ds with
 |some is=>.im (.tup is)
 |none=>.tm ds
def FF:List D->Option (List Int)
 |[]=>some []
 |.im (.int i)::r=>(FF r).map (i::·)
 |_::_=>none
def Kc:List D->Option (List Bool)
 |[]=>some []
 |.im (.bl i)::r=>(Kc r).map (i::·)
 |_::_=>none
section
variable{K:PySem.W.Frag}{ρ ρ':List Addr}{H H':Hp}{hd hd':Hd}
theorem Cm:∀{ds:List D} {is:List I},B4 ds=some is->ds=is.map .im
 |[],is,h=>by simp[B4]at h;subst h;rfl
 |.im i::r,is,h=>by
  simp only[B4,Option.map_eq_some_iff]at h;obtain⟨js,e,rfl⟩:=h;simp[Cm e]
 |.mu _::_,is,h=>by simp[B4]at h
 |.tm _::_,is,h=>by simp[B4]at h
 |.ro _::_,is,h=>by simp[B4]at h
 |.op _ _ _::_,is,h=>by simp[B4]at h
@[simp] theorem Lq(is:List I):B4 (is.map .im)=some is:=by induction is<;>simp_all [B4]
theorem Go:∀{ns:List Int},RDs K ρ H (ns.map λi=>.im (.int i)) (ns.map V.int)
 |[]=>by simp[RDs]
 |n::ns=>by simp only[map_cons];exact .cons (by simp[RD,RI]) Go
theorem RD.tup{d:D}{v:V}{ds:List D}(h:RD K ρ H d v)(e:AH d=some ds):∃a xs,v=.ref a/\SqT K H a xs/\RDs K ρ H ds xs:=by
 cases d with
 |im i=>
  cases i with
  |tup is=>
   simp only[AH,Option.some.injEq]at e;subst e;simp only[RD,RI]at h;obtain⟨a,xs,rfl,q,r⟩:=h;exact⟨a,xs,rfl,q,r.ds⟩
  |_=>simp[AH]at e
 |tm es=>
  simp only[AH,Option.some.injEq]at e;subst e;simpa only[RD]using h
 |_=>simp[AH]at e
theorem RD.lst{d:D}{v:V}{ds:List D}(hR:RH K ρ H hd)(h:RD K ρ H d v)(e:B1 hd d=some ds):∃a xs,v=.ref a/\SqL K H a xs/\RDs K ρ H ds xs:=by
 cases d with
 |mu n=>
  simp only[B1]at e;simp only[RD]at h;obtain⟨a,hn,rfl⟩:=h;split at e
  .next q=>
   cases e;obtain⟨xs,e1,e2⟩:=hR.lst hn q;exact⟨a,xs,rfl,SqL.of e1,e2⟩
  .cases e
 |ro ns=>
  simp only[B1,Option.some.injEq]at e;subst e;simp only[RD]at h;obtain⟨a,rfl,q⟩:=h;exact⟨a,_,rfl,q.sq,Go⟩
 |_=>simp[B1]at e
def RD.seq{d:D}{v:V}{ds:List D}(hR:RH K ρ H hd)(h:RD K ρ H d v)(e:Ap hd d=some ds):∃a xs,v=.ref a/\(SqL K H a xs∨SqT K H a xs)/\RDs K ρ H ds xs:=by
 unfold Ap at e;split at e
 .next q=>
  cases e;obtain⟨a,xs,e1,e2,e3⟩:=h.tup q;exact⟨a,xs,e1,.inr e2,e3⟩
 .obtain⟨a,xs,e1,e2,e3⟩:=h.lst hR e;exact⟨a,xs,e1,.inl e2,e3⟩
def Bz{ds:List D}{a:Addr}{xs:List V}(q:SqT K H a xs)(r:RDs K ρ H ds xs):RD K ρ H (AV ds) (.ref a):=by
 unfold AV;split
 .next e=>
  rw[Cm e]at r;simp only[RD,RI];exact⟨a,xs,rfl,q,r.is⟩
 .simp only[RD];exact⟨a,xs,rfl,q,r⟩
@[simp] theorem AN(ds:List D):AH (AV ds)=some ds:=by
 unfold AV;split
 .next e=>simp[AH,Cm e]
 .rfl
def A2(i:Nat):ME:=λls hd=>match ls[i]? with
 |some (some d)=>some (d,hd)
 |_=>none
def Ri{i:Nat}:RE K (Jv i) (A2 i):=by
 and_intros;unfold A2 at hm;split at hm
 .next e=>
  cases hm;obtain⟨v,e1,e2⟩:=hL.ob i _ e;exact⟨v,e1,hQ ρ H v .refl hR e2⟩
 .cases hm
def mC(i:I):ME:=λ_ hd=>some (.im i,hd)
def K9{v:V}{i:I}(h:∀H,RI K H i v):RE K (tC v) (mC i):=by
 and_intros;cases hm;exact hQ ρ H v .refl hR (by simpa only[RD]using h H)
def mOp(f:D->D->Hd->Option (D×Hd))(ma mb:ME):ME:=λls hd=>(ma ls hd).bind λp=>(mb ls p.2).bind λq=>f p.1 q.1 q.2
def Hh{r:R2}{f:D->D->Hd->Option (D×Hd)}{ta tb:TE}{ma mb:ME}(hr:RB K r f)(ha:RE K ta ma)(hb:RE K tb mb):RE K (tOp r ta tb) (mOp f ma mb):=by
 and_intros;obtain⟨⟨d1,h1⟩,e1,hm⟩:=XG hm;obtain⟨⟨d2,h2⟩,e2,hm⟩:=XG hm;refine ha ρ σ H hd ls _ d1 h1 hR hL e1 λρ1 H1 v1 x1 R1 r1=>?_;refine hb ρ1 σ H1 h1 ls _ d2 h2 R1 (hL.ext hR x1) e2 λρ2 H2 v2 x2 R2 r2=>?_;exact hr ρ2 H2 h2 d1 d2 v1 v2 Q d hd' R2 (r1.ext R1 x2) r2 hm λρ' H' w x3 R3 r3=>hQ ρ' H' w ((x1.trans R1 x2).trans R2 x3) R3 r3
def DV(ta tb:MT):MT:=λls hd=>(ta ls hd).bind λp=>if p.1=true then tb ls p.2 else some (false,p.2)
def mOr(ta tb:MT):MT:=λls hd=>(ta ls hd).bind λp=>if p.1=true then some (true,p.2)else tb ls p.2
def CA(ta:MT):MT:=λls hd=>(ta ls hd).bind λp=>some (!p.1,p.2)
def RO{ta tb:TT}{ma mb:MT}(ha:RT K ta ma)(hb:RT K tb mb):RT K (M9 ta tb) (DV ma mb):=by
 and_intros;obtain⟨⟨d1,h1⟩,e1,hm⟩:=XG hm;refine ha ρ σ H hd ls _ d1 h1 hR hL e1 λρ1 H1 x1 R1=>?_;cases d1 with
 |true=>
  rw[if_pos rfl]at hm ⊢;exact hb ρ1 σ H1 h1 ls Q d hd' R1 (hL.ext hR x1) hm λρ2 H2 x2 R2=>hQ ρ2 H2 (x1.trans R1 x2) R2
 |false=>
  rw[if_neg Bool.false_ne_true]at hm ⊢;cases hm;exact hQ ρ1 H1 x1 R1
def UL{ta tb:TT}{ma mb:MT}(ha:RT K ta ma)(hb:RT K tb mb):RT K (tOr ta tb) (mOr ma mb):=by
 and_intros;obtain⟨⟨d1,h1⟩,e1,hm⟩:=XG hm;refine ha ρ σ H hd ls _ d1 h1 hR hL e1 λρ1 H1 x1 R1=>?_;cases d1 with
 |true=>
  rw[if_pos rfl]at hm ⊢;cases hm;exact hQ ρ1 H1 x1 R1
 |false=>
  rw[if_neg Bool.false_ne_true]at hm ⊢;exact hb ρ1 σ H1 h1 ls Q d hd' R1 (hL.ext hR x1) hm λρ2 H2 x2 R2=>hQ ρ2 H2 (x1.trans R1 x2) R2
def RK{ta:TT}{ma:MT}(ha:RT K ta ma):RT K (M2 ta) (CA ma):=by
 and_intros;obtain⟨⟨d1,h1⟩,e1,hm⟩:=XG hm;cases hm;exact ha ρ σ H hd ls _ d1 h1 hR hL e1 λρ1 H1 x1 R1=>hQ ρ1 H1 x1 R1
open Classical in
def Ci(hd:Hd):D->Option Bool
 |.im .non=>some false
 |.im (.bl b)=>some b
 |.im (.int i)=>some (i != 0)
 |.im (.str x)=>if BW x.length then some ((x.length:Int) != 0)else none
 |.im (.tup is)=>some (!is.isEmpty)
 |.tm is=>some (!is.isEmpty)
 |.ro ns=>some (!ns.isEmpty)
 |.op _ _ _=>none
 |.mu n=>match hd[n]? with
  |some (.lst ds)=>some (!ds.isEmpty)
  |some (.dic ds)=>some (!ds.isEmpty)
  |none=>none
def CD{α β:Type}{xs:List α}{ys:List β}(h:xs.length=ys.length):xs.isEmpty=ys.isEmpty:=by
 cases xs<;>cases ys<;>simp_all
theorem RKs.len:∀{ds:List (Key×D)} {xs:List (Key×V)},RKs K ρ H ds xs->xs.length=ds.length
 |[],xs,h=>by simp only[RKs]at h;rw[h];rfl
 |d::ds,xs,h=>by
  simp only[RKs]at h;obtain⟨x,r,rfl,_,_,z⟩:=h;simp[RKs.len z]
def OE{d:D}{v:V}{b:Bool}(hR:RH K ρ H hd)(h:RD K ρ H d v)(e:Ci hd d=some b):J8 K v H b:=by
 cases d with
 |im i=>
  cases i with
  |non=>simp only[RD,RI]at h;subst h;simp only[Ci,Option.some.injEq]at e;subst e;exact rfl
  |bl c=>simp only[RD,RI]at h;subst h;simp only[Ci,Option.some.injEq]at e;subst e;exact rfl
  |int c=>simp only[RD,RI]at h;subst h;simp only[Ci,Option.some.injEq]at e;subst e;exact rfl
  |str c=>
   simp only[RD,RI]at h;subst h;simp only[Ci]at e;split at e
   .next z=>cases e;exact⟨z,rfl⟩
   .cases e
  |tup is=>
   obtain⟨a,xs,rfl,q,r⟩:=h.tup (ds:=is.map .im) rfl;simp only[Ci,Option.some.injEq]at e;subst e;exact .inr (.inl ⟨xs,q,by rw[CD (show xs.length=is.length by simpa using r.len)]⟩)
 |tm ds=>
  obtain⟨a,xs,rfl,q,r⟩:=h.tup (ds:=ds) rfl;simp only[Ci,Option.some.injEq]at e;subst e;exact .inr (.inl ⟨xs,q,by rw[CD r.len]⟩)
 |ro ns=>
  obtain⟨a,xs,rfl,q,r⟩:=h.lst hR (hd:=hd) (ds:=ns.map λn=>.im (.int n)) rfl;simp only[Ci,Option.some.injEq]at e;subst e;exact .inl ⟨xs,q,by rw[CD (show xs.length=ns.length by simpa using r.len)]⟩
 |op _ _ _=>simp[Ci]at e
 |mu n=>
  simp only[RD]at h;obtain⟨a,hn,rfl⟩:=h;simp only[Ci]at e;split at e
  .next q=>
   cases e;obtain⟨xs,e1,e2⟩:=hR.lst hn q;exact .inl ⟨xs,SqL.of e1,by rw[CD e2.len]⟩
  .next q=>
   cases e;obtain⟨xs,e1,e2⟩:=hR.dic hn q;exact .inr (.inr ⟨xs,e1,by rw[CD e2.len]⟩)
  .cases e
def BR(ma:ME):MT:=λls hd=>(ma ls hd).bind λp=>(Ci p.2 p.1).map (·,p.2)
def MJ{ta:TE}{ma:ME}(ha:RE K ta ma):RT K (λσ H Q=>ta σ H λx H'=>∃k,J8 K x H' k/\Q k H') (BR ma):=by
 and_intros;obtain⟨⟨d1,h1⟩,e1,hm⟩:=XG hm;obtain⟨b,e2,e3⟩:=XH hm;cases e3;exact ha ρ σ H hd ls _ d1 h1 hR hL e1 λρ1 H1 v x1 R1 r1=>⟨_,OE R1 r1 e2,hQ ρ1 H1 x1 R1⟩
def AE(ma:ME):MT:=λls hd=>(ma ls hd).bind λp=>match p.1 with
 |.im (.bl b)=>some (b,p.2)
 |_=>none
def DG{ta:TE}{ma:ME}(ha:RE K ta ma):RT K (Fs ta) (AE ma):=by
 and_intros;obtain⟨⟨d1,h1⟩,e1,hm⟩:=XG hm;dsimp only at hm;split at hm
 .cases hm;exact ha ρ σ H hd ls _ _ _ hR hL e1 λρ1 H1 v x1 R1 r1=>⟨_,by simpa only[RD,RI]using r1,hQ ρ1 H1 x1 R1⟩
 .cases hm
def VH{ta:TE}{ma:ME}(ha:RE K ta ma):RT K (tB ta) (AE ma):=DG ha
def mIf(c:MT)(ma mb:ME):ME:=λls hd=>(c ls hd).bind λp=>if p.1=true then ma ls p.2 else mb ls p.2
def UP{tc:TT}{c:MT}{ta tb:TE}{ma mb:ME}(hc:RT K tc c)(ha:RE K ta ma)(hb:RE K tb mb):RE K (tIf tc ta tb) (mIf c ma mb):=by
 and_intros;obtain⟨⟨d1,h1⟩,e1,hm⟩:=XG hm;refine hc ρ σ H hd ls _ d1 h1 hR hL e1 λρ1 H1 x1 R1=>?_;cases d1 with
 |true=>
  rw[if_pos rfl]at hm ⊢;exact ha ρ1 σ H1 h1 ls Q d hd' R1 (hL.ext hR x1) hm λρ2 H2 v x2 R2 r2=>hQ ρ2 H2 v (x1.trans R1 x2) R2 r2
 |false=>
  rw[if_neg Bool.false_ne_true]at hm ⊢;exact hb ρ1 σ H1 h1 ls Q d hd' R1 (hL.ext hR x1) hm λρ2 H2 v x2 R2 r2=>hQ ρ2 H2 v (x1.trans R1 x2) R2 r2
def C4(ma mb:ME):ME:=λls hd=>(AE ma ls hd).bind λp=>if p.1=true then mb ls p.2 else some (.im (.bl false),p.2)
def VR(ma mb:ME):ME:=λls hd=>(AE ma ls hd).bind λp=>if p.1=true then some (.im (.bl true),p.2)else mb ls p.2
def D6(ma:ME):ME:=λls hd=>(AE ma ls hd).bind λp=>some (.im (.bl (!p.1)),p.2)
def Op{ta tb:TE}{ma mb:ME}(ha:RE K ta ma)(hb:RE K tb mb):RE K (K4 ta tb) (C4 ma mb):=by
 and_intros;obtain⟨⟨d1,h1⟩,e1,hm⟩:=XG hm;refine DG ha ρ σ H hd ls (λc H1=>if c=true then tb σ H1 Q else Q (.bl false) H1) d1 h1 hR hL e1 λρ1 H1 x1 R1=>?_;cases d1 with
 |true=>
  rw[if_pos rfl]at hm ⊢;exact hb ρ1 σ H1 h1 ls Q d hd' R1 (hL.ext hR x1) hm λρ2 H2 v x2 R2 r2=>hQ ρ2 H2 v (x1.trans R1 x2) R2 r2
 |false=>
  rw[if_neg Bool.false_ne_true]at hm ⊢;cases hm;exact hQ ρ1 H1 _ x1 R1 (by simp[RD,RI])
def Ol{ta:TE}{ma:ME}(ha:RE K ta ma):RE K (K0 ta) (D6 ma):=by
 and_intros;obtain⟨⟨d1,h1⟩,e1,hm⟩:=XG hm;cases hm;exact DG ha ρ σ H hd ls (λc H1=>Q (.bl (!c)) H1) d1 h1 hR hL e1 λρ1 H1 x1 R1=>hQ ρ1 H1 _ x1 R1 (by simp[RD,RI])
def A7:MA:=λ_ hd=>some ([],hd)
def A1(ma:ME)(mr:MA):MA:=λls hd=>(ma ls hd).bind λp=>(mr ls p.2).bind λq=>some (p.1::q.1,q.2)
def L9:RA K DM A7:=by
 and_intros;cases hm;exact hQ ρ H [] .refl hR .nil
def Ov{ta:TE}{tr:TA}{ma:ME}{mr:MA}(ha:RE K ta ma)(hr:RA K tr mr):RA K (EK ta tr) (A1 ma mr):=by
 and_intros;obtain⟨⟨d1,h1⟩,e1,hm⟩:=XG hm;obtain⟨⟨d2,h2⟩,e2,hm⟩:=XG hm;cases hm;refine ha ρ σ H hd ls _ d1 h1 hR hL e1 λρ1 H1 v1 x1 R1 r1=>?_;exact hr ρ1 σ H1 h1 ls _ d2 _ R1 (hL.ext hR x1) e2 λρ2 H2 v2 x2 R2 r2=>hQ ρ2 H2 _ (x1.trans R1 x2) R2 (.cons (r1.ext R1 x2) r2)
open Classical in
def AG(ma:MA):ME:=λls hd=>(ma ls hd).bind λp=>if BW p.1.length then some (AV p.1,p.2)else none
def Rk{t:TA}{m:MA}(h:RA K t m):RE K (Ly t) (AG m):=by
 and_intros;obtain⟨⟨d1,h1⟩,e1,hm⟩:=XG hm;dsimp only at hm;split at hm
 .next z=>
  cases hm;refine h ρ σ H hd ls _ d1 _ hR hL e1 λρ1 H1 v1 x1 R1 r1=>⟨by rw[r1.len];exact z,λp hp=>?_⟩
  obtain⟨R2,x2⟩:=R1.hid (ho:=.tup v1) hp;exact hQ ρ1 _ _ (x1.trans R1 x2) R2 (Bz (SqT.of Ae) (r1.ext R1 x2))
 .cases hm
open Classical in
def Ak(ma:MA):MA:=λls hd=>(ma ls hd).bind λp=>if BW p.1.length then some (p.1,p.2)else none
def RH.out(hR:RH K ρ H hd){a:Addr}(h:H a=none):a∉ρ:=λm=>by rcases hR.mut m with⟨y,z⟩|⟨y,z⟩<;>(rw[h]at z;cases z)
theorem Ext.none(e:Ext ρ H ρ' H')(hR:RH K ρ H hd){a:Addr}(h:H' a=none)(hR':RH K ρ' H' hd'):H a=none:=by
 cases q:H a with
 |none=>rfl
 |some o=>
  by_cases m:a∈ρ
  .obtain⟨r,rfl,_⟩:=e.pre;exact absurd (List.mem_append_left r m) (hR'.out h)
  .by_cases t:∃ps,o=.tbl ps
   .obtain⟨ps,rfl⟩:=t;obtain⟨ps',this⟩:=e.tab a ps q;rw[h]at this;cases this
   .rw[e.keep a o q m λps y=>t ⟨ps,y⟩]at h;cases h
def RZ{t:TA}{m:MA}(h:RA K t m):RN K (M3 t) (Ak m):=by
 and_intros;obtain⟨⟨d1,h1⟩,e1,hm⟩:=XG hm;dsimp only at hm;split at hm
 .next z=>
  cases hm;refine h ρ σ H hd ls _ _ _ hR hL e1 λρ1 H1 v1 x1 R1 r1=>⟨by rw[r1.len];exact z,λp hp=>?_⟩
  obtain⟨R2,x2⟩:=R1.hid (ho:=.lst v1) hp;exact hQ ρ1 _ p v1 (x1.trans R1 x2) R2 (x1.none hR hp R1) (R1.out hp) Ae (r1.ext R1 x2)
 .cases hm
def Ah(ml:MA):ME:=λls hd=>(ml ls hd).bind λp=>some (.mu p.2.length,p.2++[.lst p.1])
def RH.name(hR:RH K ρ H hd){a:Addr}{xs:List V}{ds:List D}(out:a∉ρ)(e:H a=some (.lst xs))(r:RDs K ρ H ds xs):RH K (ρ++[a]) H (hd++[.lst ds]):=by
 have mono:∀{o:MO} {ho:HO},RC K ρ H o ho->RC K (ρ++[a]) H o ho:=λc=>c.mono Grow.refl [a];refine⟨by simp[hR.len],?_,hR.tabs,λn o' b e1 e2=>?_⟩
 .rw[List.nodup_append];refine⟨hR.nd,by simp,λx hx y hy z=>?_⟩;simp at hy;subst hy;subst z;exact out hx
 .by_cases hn:n<ρ.length
  .rw[List.getElem?_append_left hn]at e2;rw[List.getElem?_append_left (by rw[<- hR.len];exact hn)]at e1;obtain⟨ho',q1,q2⟩:=hR.ob n o' b e1 e2;exact⟨ho',q1,mono q2⟩
  .have hn':n=ρ.length:=by
    have:=(List.getElem?_eq_some_iff.mp e2).1;simp at this;omega
   subst hn';simp at e2;rw[hR.len]at e1;simp at e1;subst e1;subst e2;exact⟨_,e,mono ⟨xs,rfl,r⟩⟩
def Ext.name(e:Ext ρ H ρ' H'){a:Addr}(h:H a=Option.none):Ext ρ H (ρ'++[a]) H':=by
 obtain⟨r,rfl,f⟩:=e.pre;refine⟨⟨r++[a],by simp,λb m=>?_⟩,e.keep,e.tab⟩;rcases mem_append.mp m with m|m
 .exact f b m
 .simp at m;subst m;exact h
def L0{t:TE}{m:MA}(h:RN K t m):RE K t (Ah m):=by
 and_intros;obtain⟨⟨d1,h1⟩,e1,hm⟩:=XG hm;cases hm;refine h ρ σ H hd ls Q d1 h1 hR hL e1 λρ1 H1 a xs x1 R1 na oa ea r1=>?_;refine hQ (ρ1++[a]) H1 _ (x1.name na) (R1.name oa ea r1) ?_;simp only[RD];exact⟨a,by rw[<- R1.len];simp,rfl⟩
end
section
variable{K:PySem.W.Frag}{ρ ρ':List Addr}{H H':Hp}{hd hd':Hd}
def fI(g:Int->Int->Option I):D->D->Hd->Option (D×Hd)
 |.im (.int i),.im (.int j),hd=>(g i j).map (.im ·,hd)
 |_,_,_=>none
def GY{C:Int->Int->Prop}{g:Int->Int->V}{f:Int->Int->Option I}(h:∀i j z,f i j=some z->C i j/\∀H,RI K H z (g i j)):RB K (rI C g) (fI f):=by
 intro ρ H hd d e v u Q z hd' hR h1 h2 hf hQ;unfold fI at hf;split at hf
 .simp only[RD,RI]at h1 h2;subst h1 h2;obtain⟨w,e1,e2⟩:=XH hf;cases e2;obtain⟨c,r⟩:=h _ _ _ e1;exact⟨_,_,rfl,rfl,c,hQ ρ H _ .refl hR (by simpa only[RD]using r H)⟩
 .cases hf
def Fz{g:Int->Int->V}{f:Int->Int->I}(h:∀i j H,RI K H (f i j) (g i j)):RB K (rI0 g) (fI λi j=>some (f i j)):=by
 intro ρ H hd d e v u Q z hd' hR h1 h2 hf hQ;unfold fI at hf;split at hf
 .simp only[RD,RI]at h1 h2;subst h1 h2;cases hf;exact⟨_,_,rfl,rfl,hQ ρ H _ .refl hR (by simpa only[RD]using h _ _ H)⟩
 .cases hf
def Bh(f g:D->D->Hd->Option (D×Hd)):D->D->Hd->Option (D×Hd):=λd e hd=>match f d e hd with
 |some z=>some z
 |none=>g d e hd
def DH{r r':R2}{f g:D->D->Hd->Option (D×Hd)}(h:RB K r f)(h':RB K r' g):RB K (λx y H Q=>r x y H Q∨r' x y H Q) (Bh f g):=by
 intro ρ H hd d e v u Q z hd' hR h1 h2 hf hQ;unfold Bh at hf;split at hf
 .next q=>cases hf;exact .inl (h ρ H hd d e v u Q z hd' hR h1 h2 q hQ)
 .exact .inr (h' ρ H hd d e v u Q z hd' hR h1 h2 hf hQ)
abbrev Ik:D->D->Hd->Option (D×Hd):=fI λi j=>some (.int (i+j))
abbrev B3:D->D->Hd->Option (D×Hd):=fI λi j=>some (.int (i-j))
def L8:RB K (rI0 λi j=>.int (i+j)) Ik:=Fz λ_ _ _=>by simp[RI]
def Rs:RB K (rI0 λi j=>.int (i-j)) B3:=Fz λ_ _ _=>by simp[RI]
open Classical in
abbrev BI:D->D->Hd->Option (D×Hd):=fI λi j=>if BK i j then some (.int (i*j))else none
def Ry:RB K (rI CMul λi j=>.int (i*j)) BI:=GY λi j z h=>by
 split at h
 .next q=>cases h;exact⟨q,λ_=>by simp[RI]⟩
 .cases h
open Classical in
abbrev BE:D->D->Hd->Option (D×Hd):=fI λi j=>if BG j then some (.int (i%j))else none
def Rz:RB K (rI (λ_ j=>0<j) λi j=>.int (i%j)) BE:=GY λi j z h=>by
 split at h
 .next q=>cases h;exact⟨q,λ_=>by simp[RI]⟩
 .cases h
open Classical in
abbrev Bg:D->D->Hd->Option (D×Hd):=fI λi j=>if FI j then some (.int (i/j))else none
def Os:RB K (rI UC λi j=>.int (i/j)) Bg:=GY λi j z h=>by
 split at h
 .next q=>cases h;exact⟨q,λ_=>by simp[RI]⟩
 .cases h
open Classical in
abbrev Ev:D->D->Hd->Option (D×Hd):=fI λi j=>if Hk i j then some (.int (i^j.toNat))else none
def Rt:RB K (rI UB λi j=>.int (i^j.toNat)) Ev:=GY λi j z h=>by
 split at h
 .next q=>cases h;exact⟨q,λ_=>by simp[RI]⟩
 .cases h
abbrev gLt:D->D->Hd->Option (D×Hd):=fI λi j=>some (.bl (decide (i<j)))
abbrev gGt:D->D->Hd->Option (D×Hd):=fI λi j=>some (.bl (decide (j<i)))
abbrev gGe:D->D->Hd->Option (D×Hd):=fI λi j=>some (.bl (decide (j<=i)))
def Nd:RB K (rI0 λi j=>.bl (decide (i<j))) gLt:=Fz λ_ _ _=>by simp[RI]
def US:RB K (rI0 λi j=>.bl (decide (j<i))) gGt:=Fz λ_ _ _=>by simp[RI]
def Nf:RB K (rI0 λi j=>.bl (decide (j<=i))) gGe:=Fz λ_ _ _=>by simp[RI]
def scI:I->Option V
 |.non=>some .non
 |.bl b=>some (.bl b)
 |.int i=>some (.int i)
 |.str x=>some (.str x)
 |.tup _=>none
def Fw{i:I}{v w:V}(e:scI i=some w)(h:RI K H i v):v=w:=by
 cases i with
 |tup _=>simp[scI]at e
 |_=>simp only[scI,Option.some.injEq]at e;subst e;simpa only[RI]using h
def Ds(neg:Bool):D->D->Hd->Option (D×Hd)
 |.im i,.im j,hd=>match scI i,scI j with
  |some x,some y=>if IJ x y=true then some (.im (.bl (if neg then !decide (x=y)else decide (x=y))),hd)else none
  |_,_=>none
 |_,_,_=>none
def L3:RB K rEq (Ds false):=by
 intro ρ H hd d e v u Q z hd' hR h1 h2 hf hQ;unfold Ds at hf;split at hf
 .split at hf
  .next x y e1 e2=>
   split at hf
   .next s=>
    cases hf;simp only[RD]at h1 h2;rw[Fw e1 h1,Fw e2 h2];exact⟨s,hQ ρ H _ .refl hR (by simp[RD,RI])⟩
   .cases hf
  .cases hf
 .cases hf
def Ru:RB K rNe (Ds true):=by
 intro ρ H hd d e v u Q z hd' hR h1 h2 hf hQ;unfold Ds at hf;split at hf
 .split at hf
  .next x y e1 e2=>
   split at hf
   .next s=>
    cases hf;simp only[RD]at h1 h2;rw[Fw e1 h1,Fw e2 h2];exact⟨s,hQ ρ H _ .refl hR (by simp[RD,RI])⟩
   .cases hf
  .cases hf
 .cases hf
mutual
def I.py:I->PyData
 |.non=>.none
 |.bl b=>.bool b
 |.int i=>.int i
 |.str x=>.str x
 |.tup ds=>.tuple (I.pys ds)
def I.pys:List I->List PyData
 |[]=>[]
 |d::ds=>I.py d::I.pys ds
end
mutual
theorem RI.rep:∀{i:I} {v:V},RI K H i v->Rep K H i.py v
 |.non,v,h=>by simpa only[RI,I.py,Rep]using h
 |.bl _,v,h=>by simpa only[RI,I.py,Rep]using h
 |.int _,v,h=>by simpa only[RI,I.py,Rep]using h
 |.str _,v,h=>by simpa only[RI,I.py,Rep]using h
 |.tup ds,v,h=>by
  simp only[RI]at h;obtain⟨a,xs,e,q,r⟩:=h;simp only[I.py,Rep];exact⟨a,xs,e,q,RIs.rep r⟩
theorem RIs.rep:∀{i:List I} {v:List V},RIs K H i v->BS K H (I.pys i) v
 |[],v,h=>by simpa only[RIs,I.pys,BS]using h
 |d::ds,v,h=>by
  simp only[RIs]at h;obtain⟨x,r,e,q,z⟩:=h;simp only[I.pys,BS];exact⟨x,r,e,q.rep,RIs.rep z⟩
end
def pyD(hd:Hd):D->Option PyData
 |.im i=>some i.py
 |.mu n=>match hd[n]? with
  |some (.lst ds)=>(B4 ds).map λis=>.list (I.pys is)
  |_=>none
 |.ro ns=>some (.list (I.pys (ns.map I.int)))
 |_=>none
def Cj{d:D}{v:V}{p:PyData}(hR:RH K ρ H hd)(h:RD K ρ H d v)(e:pyD hd d=some p):Rep K H p v:=by
 cases d with
 |im i=>simp only[pyD,Option.some.injEq]at e;subst e;simp only[RD]at h;exact h.rep
 |mu n=>
  simp only[pyD]at e;simp only[RD]at h;obtain⟨a,hn,rfl⟩:=h;split at e
  .next q=>
   obtain⟨is,e1,rfl⟩:=XH e;obtain⟨xs,e2,e3⟩:=hR.lst hn q;rw[Cm e1]at e3;simp only[Rep];exact⟨a,xs,rfl,SqL.of e2,e3.is.rep⟩
  .cases e
 |ro ns=>
  simp only[pyD,Option.some.injEq]at e;subst e;obtain⟨a,xs,rfl,q,r⟩:=h.lst hR (hd:=hd) (ds:=ns.map λn=>.im (.int n)) rfl;simp only[Rep];refine⟨a,xs,rfl,q,RIs.rep (RDs.is (ρ:=ρ) ?_)⟩;rw[List.map_map];exact r
 |tm _=>simp[pyD]at e
 |op _ _ _=>simp[pyD]at e
def Gs(neg:Bool):D->D->Hd->Option (D×Hd):=λd e hd=>match pyD hd d,pyD hd e with
 |some x,some y=>if x.canLay0=true/\y.canLay0=true/\min x.depth y.depth<=60 then some (.im (.bl (if neg then !PyData.eqv x y else PyData.eqv x y)),hd)else none
 |_,_=>none
def L7:RB K (Mb K) (Gs false):=by
 intro ρ H hd d e v u Q z hd' hR h1 h2 hf hQ;unfold Gs at hf;split at hf
 .next e1 e2=>
  split at hf
  .next c=>cases hf;exact⟨_,_,Cj hR h1 e1,Cj hR h2 e2,c.1,c.2.1,c.2.2,hQ ρ H _ .refl hR (by simp[RD,RI])⟩
  .cases hf
 .cases hf
def Rv:RB K (KC K) (Gs true):=by
 intro ρ H hd d e v u Q z hd' hR h1 h2 hf hQ;unfold Gs at hf;split at hf
 .next e1 e2=>
  split at hf
  .next c=>cases hf;exact⟨_,_,Cj hR h1 e1,Cj hR h2 e2,c.1,c.2.1,c.2.2,hQ ρ H _ .refl hR (by simp[RD,RI])⟩
  .cases hf
 .cases hf
abbrev gEq:=Bh (Ds false) (Gs false)
abbrev gNe:=Bh (Ds true) (Gs true)
def gIx:D->D->Hd->Option (D×Hd)
 |d,.im (.int i),hd=>(Ap hd d).bind λds=>(atI ds i).map (·,hd)
 |_,_,_=>none
def Jn{α β:Type}{xs:List α}{ys:List β}{i:Int}{y:β}(h:xs.length=ys.length)(e:atI ys i=some y):∃(j:Nat),ys[j]?=some y/\∀x,xs[j]?=some x->atI xs i=some x:=by
 unfold atI at e;obtain⟨j,e1,e2⟩:=XG e;exact⟨j,e2,λx q=>by unfold atI;rw[h,e1];exact q⟩
def Hj(K:PySem.W.Frag):R2:=λx y H Q=>Ma K x y H Q∨MZ K x y H Q
def UR:RB K (Hj K) gIx:=by
 intro ρ H hd d e v u Q z hd' hR h1 h2 hf hQ;unfold gIx at hf;split at hf
 .obtain⟨ds,e1,hf⟩:=XG hf;obtain⟨w,e2,e3⟩:=XH hf;cases e3;obtain⟨a,xs,rfl,q,r⟩:=h1.seq hR e1;simp only[RD,RI]at h2;subst h2;obtain⟨j,j1,j2⟩:=Jn r.len e2;obtain⟨x,x1,x2⟩:=r.get j1;rcases q with q|q
  .exact .inl ⟨a,xs,_,x,rfl,rfl,q,j2 x x1,hQ ρ H x .refl hR x2⟩
  .exact .inr ⟨a,xs,_,x,rfl,rfl,q,j2 x x1,hQ ρ H x .refl hR x2⟩
 .cases hf
def Bv(xs:List D)(lo hi:Option Int):List D:=(xs.drop (HT.sIx xs.length 0 lo)).take (HT.sIx xs.length xs.length hi-HT.sIx xs.length 0 lo)
def Ji{ds:List D}{xs:List V}{lo hi:Option Int}(r:RDs K ρ H ds xs):RDs K ρ H (Bv ds lo hi) (Du xs lo hi):=by
 unfold Bv Du;rw[r.len];exact(r.drop _).take _
abbrev MO1:=Ls->Hd->Option (Option Int×Hd)
def RO1(K:PySem.W.Frag)(t:TO)(m:MO1):Prop:=∀(ρ:List Addr) (σ:St) (H:Hp) (hd:Hd) (ls:Ls) (Q:Option Int->Hp->Prop) (d:Option Int) (hd':Hd),RH K ρ H hd->RL K ρ H ls σ->m ls hd=some (d,hd') ->
 (∀ρ' H',Ext ρ H ρ' H'->RH K ρ' H' hd'->Q d H')->t σ H Q
def AT:MO1:=λ_ hd=>some (none,hd)
def Aa(m:ME):MO1:=λls hd=>(m ls hd).bind λp=>match p.1 with
 |.im (.int i)=>some (some i,p.2)
 |_=>none
def Oa:RO1 K GS AT:=by
 and_intros;cases hm;exact hQ ρ H .refl hR
def OZ{t:TE}{m:ME}(h:RE K t m):RO1 K (Jy t) (Aa m):=by
 and_intros;obtain⟨⟨d1,h1⟩,e1,hm⟩:=XG hm;dsimp only at hm;split at hm
 .cases hm;exact h ρ σ H hd ls _ _ _ hR hL e1 λρ1 H1 v x1 R1 r1=>⟨_,by simpa only[RD,RI]using r1,hQ ρ1 H1 x1 R1⟩
 .cases hm
def VQ(m:ME)(ml mh:MO1):ME:=λls hd=>(m ls hd).bind λp=>(ml ls p.2).bind λl=>(mh ls l.2).bind λh=>(AH p.1).bind λds=>
 if ¬ (HT.sIx ds.length 0 l.1=0/\HT.sIx ds.length ds.length h.1=ds.length)then some (AV (Bv ds l.1 h.1),h.2)else none
def Gh(m:ME)(ml mh:MO1):MA:=λls hd=>(m ls hd).bind λp=>(ml ls p.2).bind λl=>(mh ls l.2).bind λh=>(B1 h.2 p.1).bind λds=>some (Bv ds l.1 h.1,h.2)
def RY{t:TE}{tl th:TO}{m:ME}{ml mh:MO1}(h:RE K t m)(hl:RO1 K tl ml)(hh:RO1 K th mh):RN K (tSl (KB K) t tl th) (Gh m ml mh):=by
 and_intros;obtain⟨⟨d1,h1⟩,e1,hm⟩:=XG hm;obtain⟨⟨d2,h2⟩,e2,hm⟩:=XG hm;obtain⟨⟨d3,h3⟩,e3,hm⟩:=XG hm;obtain⟨ds,e4,hm⟩:=XG hm;dsimp only at e2 e3 e4 hm;cases hm;refine h ρ σ H hd ls _ d1 h1 hR hL e1 λρ1 H1 v1 x1 R1 r1=>?_;refine hl ρ1 σ H1 h1 ls _ d2 h2 R1 (hL.ext hR x1) e2 λρ2 H2 x2 R2=>?_;refine hh ρ2 σ H2 h2 ls _ d3 _ R2 (hL.ext hR (x1.trans R1 x2)) e3 λρ3 H3 x3 R3=>?_;obtain⟨a,xs,rfl,q,r⟩:=RD.lst R3 ((r1.ext R1 x2).ext R2 x3) e4;refine⟨a,xs,rfl,q,λp hp=>?_⟩;obtain⟨R4,x4⟩:=R3.hid (ho:=.lst (Du xs d2 d3)) hp;have x123:=(x1.trans R1 x2).trans R2 x3;exact hQ ρ3 _ p _ (x123.trans R3 x4) R4 (x123.none hR hp R3) (R3.out hp) Ae ((Ji r).ext R3 x4)
def mCB(f:List D->Hd->Option (D×Hd))(ma:MA):ME:=λls hd=>(ma ls hd).bind λp=>f p.1 p.2
def Nb{r:List V->Hp->VK->Prop}{f:List D->Hd->Option (D×Hd)}{t:TA}{m:MA}(hr:RF K r f)(h:RA K t m):RE K (tCB r t) (mCB f m):=by
 and_intros;obtain⟨⟨d1,h1⟩,e1,hm⟩:=XG hm;refine h ρ σ H hd ls _ d1 h1 hR hL e1 λρ1 H1 v1 x1 R1 r1=>?_;exact hr ρ1 H1 h1 d1 v1 Q d hd' R1 r1 hm λρ' H' w x2 R2 r2=>hQ ρ' H' w (x1.trans R1 x2) R2 r2
def f1(tp:Bool)(g:List D->Option D):List D->Hd->Option (D×Hd)
 |[d],hd=>((if tp then Ap hd d else B1 hd d)).bind λds=>(g ds).map (·,hd)
 |_,_=>none
def VI{tp:Bool}{r:List V->Hp->VK->Prop}{g:List D->Option D}(h:RG K tp r g):RF K r (f1 tp g):=by
 intro ρ H hd ds vs Q z hd' hR h1 hf hQ;unfold f1 at hf;split at hf
 .next d hd'=>
  obtain⟨es,e1,hf⟩:=XG hf;obtain⟨w,e2,e3⟩:=XH hf;cases e3;simp only[RDs]at h1;obtain⟨x,r,rfl,rx,rfl⟩:=h1;cases tp with
  |true=>
   rw[if_pos rfl]at e1;obtain⟨a,xs,rfl,q,rr⟩:=rx.seq hR e1;exact h ρ H hd a xs es Q z hR (q.imp id λq=>⟨rfl,q⟩) rr e2 λH' w x R r=>hQ ρ H' w x R r
  |false=>
   rw[if_neg Bool.false_ne_true]at e1;obtain⟨a,xs,rfl,q,rr⟩:=rx.lst hR e1;exact h ρ H hd a xs es Q z hR (.inl q) rr e2 λH' w x R r=>hQ ρ H' w x R r
 .cases hf
def VT(g:List D->Option D)(ml:MA):ME:=λls hd=>(ml ls hd).bind λp=>(g p.1).map (·,p.2)
def CQ(ds:List D):Option D:=some (.im (.int ds.length))
def Re:RG K true (S2 K) CQ:=by
 intro ρ H hd a xs ds Q z hR q r e hQ;cases e;refine⟨a,xs,rfl,q.imp id λq=>q.2,?_⟩;rw[r.len];exact hQ H _ .refl hR (by simp[RD,RI])
def Gm{α:Type}{xs:List α}(h:xs≠[]):0<xs.length:=by cases xs<;>simp_all
def Us:List D->Hd->Option (D×Hd)
 |[.im (.int i),.im (.int j)],hd=>some (.im (.int (if j>i then j else i)),hd)
 |_,_=>none
def EW:List D->Hd->Option (D×Hd)
 |[.im (.int i),.im (.int j)],hd=>some (.im (.int (if j<i then j else i)),hd)
 |_,_=>none
def Of:RF K (λxs H Q=>∃i j,xs=[.int i,.int j]/\Q (.int (if j<i then j else i)) H) EW:=by
 intro ρ H hd ds vs Q z hd' hR h1 hf hQ;unfold EW at hf;split at hf
 .cases hf;simp only[RDs,RD,RI]at h1;obtain⟨x,r,rfl,rfl,y,r2,rfl,rfl,rfl⟩:=h1;exact⟨_,_,rfl,hQ ρ H _ .refl hR (by simp[RD,RI])⟩
 .cases hf
def Cl:List D->Hd->Option (D×Hd)
 |[.im (.int i)],hd=>some (.im (.int (if i<0 then -i else i)),hd)
 |_,_=>none
def Rh:RF K (λxs H Q=>∃i,xs=[.int i]/\Q (.int (if i<0 then -i else i)) H) Cl:=by
 intro ρ H hd ds vs Q z hd' hR h1 hf hQ;unfold Cl at hf;split at hf
 .cases hf;simp only[RDs,RD,RI]at h1;obtain⟨x,r,rfl,rfl,rfl⟩:=h1;exact⟨_,rfl,hQ ρ H _ .refl hR (by simp[RD,RI])⟩
 .cases hf
def De(ma:ME):MA:=λls hd=>(ma ls hd).bind λp=>(Ap p.2 p.1).map (·,p.2)
def Ob{t:TE}{m:ME}(h:RE K t m):RN K (tCB (E2 K) (EK t DM)) (De m):=by
 and_intros;obtain⟨⟨d1,h1⟩,e1,hm⟩:=XG hm;obtain⟨w,e2,e3⟩:=XH hm;cases e3;refine h ρ σ H hd ls _ d1 _ hR hL e1 λρ1 H1 v x1 R1 r1=>?_;obtain⟨a,xs,rfl,q,rr⟩:=r1.seq R1 e2;refine⟨a,xs,rfl,q,λl hl=>?_⟩;obtain⟨R2,x2⟩:=R1.hid (ho:=.lst xs) hl;exact hQ ρ1 _ l xs (x1.trans R1 x2) R2 (x1.none hR hl R1) (R1.out hl) Ae (rr.ext R1 x2)
def E9(ml:MA):MA:=ml
def ML{t:TE}{m:MA}(h:RN K t m):RN K (tCB (E2 K) (EK t DM)) (E9 m):=by
 and_intros;refine h ρ σ H hd ls _ d _ hR hL hm λρ1 H1 a xs x1 R1 na oa ea r1=>?_;refine⟨a,xs,rfl,.inl (SqL.of ea),λl hl=>?_⟩;obtain⟨R2,x2⟩:=R1.hid (ho:=.lst xs) hl;exact hQ ρ1 _ l xs (x1.trans R1 x2) R2 (x1.none hR hl R1) (R1.out hl) Ae (r1.ext R1 x2)
def G6(d:PyData):Prop:=d.showable=true/\d.hasDict=false/\isDisplay d=true/\d.depth<=30/\d.shown.length<=sizeLine
open Classical in
def Ex:List D->Hd->Option (D×Hd)
 |[.im (.int i)],hd=>if VG i.natAbs.log2 then some (.im (.str (toString i)),hd)else none
 |_,_=>none
def MP:RF K (λxs H Q=>∃i,xs=[.int i]/\i.natAbs.log2<1920/\Q (.str (toString i)) H) Ex:=by
 intro ρ H hd ds vs Q z hd' hR h1 hf hQ;unfold Ex at hf;split at hf
 .split at hf
  .next c=>
   cases hf;simp only[RDs,RD,RI]at h1;obtain⟨x,r,rfl,rfl,rfl⟩:=h1;exact⟨_,rfl,c,hQ ρ H _ .refl hR (by simp[RD,RI])⟩
  .cases hf
 .cases hf
def EU:I->Option V
 |.non=>some .non
 |.bl b=>some (.bl b)
 |.int i=>some (.int i)
 |.str x=>some (.str x)
 |.tup _=>none
def Bn:List D->Option (List V)
 |[]=>some []
 |.im i::r=>(EU i).bind λv=>(Bn r).map (v::·)
 |_::_=>none
def Io{i:I}{v w:V}(e:EU i=some w)(h:RI K H i v):v=w/\Ct w=true:=by
 cases i with
 |tup _=>simp[EU]at e
 |_=>simp only[EU,Option.some.injEq]at e;subst e;exact⟨by simpa only[RI]using h,rfl⟩
theorem HL:∀{ds:List D} {vs ws:List V},Bn ds=some ws->RDs K ρ H ds vs->vs=ws/\ws.all Ct=true
 |[],vs,ws,e,h=>by simp[Bn]at e;subst e;simp only[RDs]at h;subst h;exact⟨rfl,rfl⟩
 |.im i::r,vs,ws,e,h=>by
  simp only[Bn]at e;obtain⟨v,e1,e⟩:=XG e;obtain⟨us,e2,rfl⟩:=XH e;simp only[RDs,RD]at h;obtain⟨x,y,rfl,h1,h2⟩:=h;obtain⟨rfl,f1⟩:=Io e1 h1;obtain⟨rfl,f2⟩:=HL e2 h2;exact⟨rfl,by simp[f1,f2]⟩
 |.mu _::_,_,_,e,_=>by simp[Bn]at e
 |.tm _::_,_,_,e,_=>by simp[Bn]at e
 |.ro _::_,_,_,e,_=>by simp[Bn]at e
 |.op _ _ _::_,_,_,e,_=>by simp[Bn]at e
def mMt(f:D->List D->Hd->Option (D×Hd))(mo:ME)(ma:MA):ME:=λls hd=>(mo ls hd).bind λp=>match B1 p.2 p.1 with
 |some _=>(ma ls p.2).bind λq=>f p.1 q.1 q.2
 |none=>none
def RM(K:PySem.W.Frag)(r:V->List V->Hp->VK->Prop)(f:D->List D->Hd->Option (D×Hd)):Prop:=∀(ρ:List Addr) (H:Hp) (hd:Hd) (d:D) (v:V) (ds:List D) (vs:List V) (Q:VK) (z:D) (hd':Hd),RH K ρ H hd->RD K ρ H d v->RDs K ρ H ds vs->f d ds hd=some (z,hd') ->
 (∀ρ' H' w,Ext ρ H ρ' H'->RH K ρ' H' hd'->RD K ρ' H' z w->Q w H')->r v vs H Q
def UO{r:V->List V->Hp->VK->Prop}{f:D->List D->Hd->Option (D×Hd)}{to:TE}{t:TA}{mo:ME}{ma:MA}(hr:RM K r f)(ho:RE K to mo)(ha:RA K t ma):RE K (tBM K "list" r to t) (mMt f mo ma):=by
 and_intros;obtain⟨⟨d1,h1⟩,e1,hm⟩:=XG hm;dsimp only at hm;split at hm
 .next e=>
  obtain⟨⟨d2,h2⟩,e2,hm⟩:=XG hm;refine ho ρ σ H hd ls _ d1 h1 hR hL e1 λρ1 H1 v x1 R1 r1=>⟨?_,?_⟩
  .obtain⟨a,xs,rfl,q,_⟩:=r1.lst R1 e;exact .inl ⟨rfl,xs,q⟩
  .exact ha ρ1 σ H1 h1 ls _ d2 h2 R1 (hL.ext hR x1) e2 λρ2 H2 vs x2 R2 r2=>hr ρ2 H2 h2 d1 v d2 vs Q d hd' R2 (r1.ext R1 x2) r2 hm λρ' H' w x3 R3 r3=>hQ ρ' H' w ((x1.trans R1 x2).trans R2 x3) R3 r3
 .cases hm
open Classical in
def CV:D->List D->Hd->Option (D×Hd)
 |.mu n,[x],hd=>match hd[n]? with
  |some (.lst ds)=>if EV ds.length then some (.im .non,hd.set n (.lst (ds++[x])))else none
  |_=>none
 |_,_,_=>none
def Kz:RM K JX CV:=by
 intro ρ H hd d v ds vs Q z hd' hR h1 h2 hf hQ;unfold CV at hf;split at hf
 .split at hf
  .next q=>
   split at hf
   .next c=>
    cases hf;simp only[RD]at h1;obtain⟨a,hn,rfl⟩:=h1;simp only[RDs]at h2;obtain⟨x,r,rfl,rx,rfl⟩:=h2;obtain⟨xs,e1,e2⟩:=hR.lst hn q;obtain⟨R2,x2⟩:=hR.put hn (o:=.lst (_++[_])) (ho:=.lst (xs++[x])) ⟨_,rfl,e2.app (.cons rx .nil)⟩;exact⟨a,xs,x,rfl,rfl,e1,by rw[e2.len];exact c,hQ ρ _ _ x2 R2 (by simp[RD,RI])⟩
   .cases hf
  .cases hf
 .cases hf
end
end L2
namespace L2
open PySem PySem.Spec PyProof.Rows
section
variable{K:PySem.W.Frag}{ρ ρ':List Addr}{H H':Hp}{hd hd':Hd}
def Ab:MS:=λls hd=>some (.nx ls,hd)
def JS:RS K Ft Ab:=by
 intro ρ σ H hd ls E f hd' hR hL hm hQ;cases hm;exact hQ ρ H .refl hR σ hL
def AB(a b:MS):MS:=λls hd=>(a ls hd).bind λp=>match p.1 with
 |.nx ls1=>b ls1 p.2
 |f=>some (f,p.2)
def RP{t u:TS}{a b:MS}(ha:RS K t a)(hb:RS K u b):RS K (Lz t u) (AB a b):=by
 intro ρ σ H hd ls E f hd' hR hL hm hQ;obtain⟨⟨f1,h1⟩,e1,hm⟩:=XG hm;refine ha ρ σ H hd ls { E with nx:=u E } f1 h1 hR hL e1 λρ1 H1 x1 R1=>?_;cases f1 with
 |nx ls1=>
  intro σ1 L1;exact hb ρ1 σ1 H1 h1 ls1 E f hd' R1 L1 hm λρ2 H2 x2 R2=>hQ ρ2 H2 (x1.trans R1 x2) R2
 |bk ls1=>cases hm;exact hQ ρ1 H1 x1 R1
 |ct ls1=>cases hm;exact hQ ρ1 H1 x1 R1
 |rt d=>cases hm;exact hQ ρ1 H1 x1 R1
def TW:MS:=λls hd=>some (.bk ls,hd)
def Up:MS:=λls hd=>some (.ct ls,hd)
def FC(m:ME):MS:=λls hd=>(m ls hd).bind λp=>some (.nx ls,p.2)
def OU{t:TE}{m:ME}(h:RE K t m):RS K (K1 t) (FC m):=by
 intro ρ σ H hd ls E f hd' hR hL hm hQ;obtain⟨⟨d1,h1⟩,e1,hm⟩:=XG hm;cases hm;exact h ρ σ H hd ls _ d1 _ hR hL e1 λρ1 H1 v x1 R1 r1=>hQ ρ1 H1 x1 R1 σ (hL.ext hR x1)
def AJ(m:ME):MS:=λls hd=>(m ls hd).bind λp=>some (.rt p.1,p.2)
def RQ{t:TE}{m:ME}(h:RE K t m):RS K (M0 t) (AJ m):=by
 intro ρ σ H hd ls E f hd' hR hL hm hQ;obtain⟨⟨d1,h1⟩,e1,hm⟩:=XG hm;cases hm;exact h ρ σ H hd ls _ d1 _ hR hL e1 λρ1 H1 v x1 R1 r1=>hQ ρ1 H1 x1 R1 v r1
def Ul:MS:=λ_ hd=>some (.rt (.im .non),hd)
def Ai(c:MT)(a b:MS):MS:=λls hd=>(c ls hd).bind λp=>if p.1=true then a ls p.2 else b ls p.2
def UM{tc:TT}{t u:TS}{c:MT}{a b:MS}(hc:RT K tc c)(ha:RS K t a)(hb:RS K u b):RS K (M6 tc t u) (Ai c a b):=by
 intro ρ σ H hd ls E f hd' hR hL hm hQ;obtain⟨⟨d1,h1⟩,e1,hm⟩:=XG hm;refine hc ρ σ H hd ls _ d1 h1 hR hL e1 λρ1 H1 x1 R1=>?_;cases d1 with
 |true=>
  rw[if_pos rfl]at hm ⊢;exact ha ρ1 σ H1 h1 ls E f hd' R1 (hL.ext hR x1) hm λρ2 H2 x2 R2=>hQ ρ2 H2 (x1.trans R1 x2) R2
 |false=>
  rw[if_neg Bool.false_ne_true]at hm ⊢;exact hb ρ1 σ H1 h1 ls E f hd' R1 (hL.ext hR x1) hm λρ2 H2 x2 R2=>hQ ρ2 H2 (x1.trans R1 x2) R2
abbrev MG:=D->Ls->Hd->Option Ls
abbrev MGs:=List D->Ls->Hd->Option Ls
def RGt(K:PySem.W.Frag)(t:TG)(m:MG):Prop:=∀(ρ:List Addr) (σ:St) (H:Hp) (hd:Hd) (ls ls':Ls) (d:D) (v:V) (Q:St->Hp->Prop),RH K ρ H hd->RL K ρ H ls σ->RD K ρ H d v->m d ls hd=some ls' ->
 (∀σ',RL K ρ H ls' σ'->Q σ' H)->t v σ H Q
def J9(K:PySem.W.Frag)(t:TGs)(m:MGs):Prop:=∀(ρ:List Addr) (σ:St) (H:Hp) (hd:Hd) (ls ls':Ls) (d:List D) (v:List V) (Q:St->Hp->Prop),RH K ρ H hd->RL K ρ H ls σ->RDs K ρ H d v->m d ls hd=some ls' ->
 (∀σ',RL K ρ H ls' σ'->Q σ' H)->t v σ H Q
theorem RL.set{ls:Ls}{σ:St}{d:D}{v:V}(h:RL K ρ H ls σ)(i:Nat)(r:RD K ρ H d v):RL K ρ H (ls.set i (some d)) (σ.set i (some v)):=by
 refine⟨by simp[h.len],λj e q=>?_⟩;by_cases hij:i=j
 .subst hij;have hl:i<ls.length:=by
   have:=(List.getElem?_eq_some_iff.mp q).1;simpa using this
  rw[List.getElem?_set_self hl]at q;cases q;exact⟨v,by rw[List.getElem?_set_self (by rw[<- h.len];exact hl)],r⟩
 .rw[List.getElem?_set_ne hij]at q;obtain⟨w,e1,e2⟩:=h.ob j e q;exact⟨w,by rw[List.getElem?_set_ne hij];exact e1,e2⟩
def Au(i:Nat):MG:=λd ls _=>some (ls.set i (some d))
def GX{i:Nat}:RGt K (Cs i) (Au i):=by
 intro ρ σ H hd ls ls' d v Q hR hL hd hm hQ;cases hm;exact hQ _ (hL.set i hd)
def Do:MGs:=λds ls _=>match ds with
 |[]=>some ls
 |_=>none
def BY(m:MG)(r:MGs):MGs:=λds ls hd=>match ds with
 |d::es=>(m d ls hd).bind λls1=>r es ls1 hd
 |[]=>none
def Oe:J9 K NA Do:=by
 intro ρ σ H hd ls ls' d v Q hR hL hd hm hQ;cases d with
 |nil=>
  simp only[RDs]at hd;subst hd;cases hm;exact⟨rfl,hQ _ hL⟩
 |cons a b=>cases hm
def MN{t:TG}{u:TGs}{m:MG}{r:MGs}(h:RGt K t m)(h':J9 K u r):J9 K (KR t u) (BY m r):=by
 intro ρ σ H hd ls ls' d v Q hR hL hd hm hQ;cases d with
 |nil=>cases hm
 |cons a b=>
  simp only[RDs]at hd;obtain⟨x,y,rfl,h1,h2⟩:=hd;obtain⟨ls1,e1,e2⟩:=XG hm;exact⟨x,y,rfl,h ρ σ H _ ls ls1 a x _ hR hL h1 e1 λσ1 L1=>h' ρ σ1 H _ ls1 ls' b y Q hR L1 h2 e2 hQ⟩
def DU(n:Nat)(r:MGs):MG:=λd ls hd=>(AH d).bind λds=>if ds.length=n then r ds ls hd else none
def Rc{n:Nat}{u:TGs}{r:MGs}(h':J9 K u r):RGt K (KQ K n u) (DU n r):=by
 intro ρ σ H hd ls ls' d v Q hR hL hd hm hQ;obtain⟨ds,e1,hm⟩:=XG hm;split at hm
 .next c=>
  obtain⟨a,xs,rfl,q,rr⟩:=hd.tup e1;exact⟨a,xs,rfl,q,by rw[rr.len];exact c,h' ρ σ H _ ls ls' ds xs Q hR hL rr hm hQ⟩
 .cases hm
def Es(m:ME)(g:MG):MS:=λls hd=>(m ls hd).bind λp=>(g p.1 ls p.2).map λls'=>(.nx ls',p.2)
def IN{t:TE}{m:ME}{g:TG}{n:MG}(h:RE K t m)(hg:RGt K g n):RS K (EM t g) (Es m n):=by
 intro ρ σ H hd ls E f hd' hR hL hm hQ;obtain⟨⟨d1,h1⟩,e1,hm⟩:=XG hm;obtain⟨ls',e2,e3⟩:=XH hm;cases e3;exact h ρ σ H hd ls _ d1 _ hR hL e1 λρ1 H1 v x1 R1 r1=>hg ρ1 σ H1 _ ls ls' d1 v _ R1 (hL.ext hR x1) r1 e2 λσ' L'=>hQ ρ1 H1 x1 R1 σ' L'
abbrev AR(i:Nat)(m:ME):MS:=Es m (Au i)
def C9(ix:List Nat)(ma:MA):MS:=λls hd=>(ma ls hd).bind λp=>if p.1.length=ix.length then some (.nx ((ix.zip p.1).foldl (λl q=>l.set q.1 (some q.2)) ls),p.2)else none
def RU{i j:Nat}{t:TA}{m:MA}(h:RA K t m):RS K (M1 i j t) (C9 [i,j] m):=by
 intro ρ σ H hd ls E f hd' hR hL hm hQ;obtain⟨⟨d1,h1⟩,e1,hm⟩:=XG hm;dsimp only at hm;split at hm
 .next c=>
  cases hm;refine h ρ σ H hd ls _ d1 _ hR hL e1 λρ1 H1 v x1 R1 r1=>?_
  match d1,c,r1,hQ with
  |[a,b],_,r1,hQ=>
   simp only[RDs]at r1;obtain⟨x,r,rfl,ra,y,r2,rfl,rb,rfl⟩:=r1;exact⟨x,y,rfl,hQ ρ1 H1 x1 R1 _ (((hL.ext hR x1).set i ra).set j rb)⟩
 .cases hm
def Dd(i j k:Nat)(ma:MA):MS:=C9 [k,j,i] (λls hd=>(ma ls hd).map λp=>(p.1.reverse,p.2))
def OT{i j k:Nat}{t:TA}{m:MA}(h:RA K t m):RS K (Jz i j k t) (Dd i j k m):=by
 intro ρ σ H hd ls E f hd' hR hL hm hQ;obtain⟨⟨d1,h1⟩,e1,hm⟩:=XG hm;obtain⟨⟨d2,h2⟩,e2,e3⟩:=XH e1;cases e3;dsimp only at hm;split at hm
 .next c=>
  cases hm;refine h ρ σ H hd ls _ d2 _ hR hL e2 λρ1 H1 v x1 R1 r1=>?_;have c:d2.length=3:=by simpa using c
  match d2,c,r1,hQ with
  |[a,b,e],_,r1,hQ=>
   simp only[RDs]at r1;obtain⟨x,r,rfl,ra,y,r2,rfl,rb,z,r3,rfl,rc,rfl⟩:=r1;exact⟨x,y,z,rfl,hQ ρ1 H1 x1 R1 _ ((((hL.ext hR x1).set k rc).set j rb).set i ra)⟩
 .cases hm
abbrev Gd:=List (Nat×List D)
abbrev MI:=Ls->Hd->Option ((List D×Gd)×Hd)
def GOk(hd:Hd)(g:Gd):Prop:=∀p∈g,hd[p.1]?=some (.lst p.2)
@[simp] theorem Bc(hd:Hd):GOk hd []:=λp h=>by cases h
def J7(K:PySem.W.Frag)(ρ:List Addr)(H:Hp)(J:It)(ds:List D)(g:Gd):Prop:=∀(ρ2:List Addr) (H2:Hp) (hd2:Hd),Ext ρ H ρ2 H2->RH K ρ2 H2 hd2->GOk hd2 g ->
 ∀i:Nat,(i<ds.length->J.go i H2/\∀x H3,J.yld i H2 x H3->∃ρ3 d,Ext ρ2 H2 ρ3 H3/\ρ3=ρ2/\RH K ρ3 H3 hd2/\ds[i]?=some d/\RD K ρ3 H3 d x)/\(i=ds.length->J.stop i H2)
def RIt(K:PySem.W.Frag)(t:TI)(m:MI):Prop:=∀(ρ:List Addr) (σ:St) (H:Hp) (hd:Hd) (ls:Ls) (Q:It->Hp->Prop) (d:List D) (g:Gd) (hd':Hd),RH K ρ H hd->RL K ρ H ls σ->m ls hd=some ((d,g),hd') ->
 (∀ρ' H' J,Ext ρ H ρ' H'->RH K ρ' H' hd'->GOk hd' g->J7 K ρ' H' J d g->Q J H')->t σ H Q
def Jp{a:Addr}{xs:List V}{ds:List D}(hR:RH K ρ H hd)(q:SqT K H a xs)(r:RDs K ρ H ds xs)(g:Gd):J7 K ρ H (Itt K a) ds g:=by
 intro ρ2 H2 hd2 x2 R2 _ i;have q2:=(x2.grow hR).sq q;have r2:=r.ext hR x2;have uniq:∀ys,SqT K H2 a ys->True:=λ_ _=>trivial;refine⟨λhi=>?_,λhi=>⟨xs,q2,by rw[r2.len,hi];exact le_refl _⟩⟩;have e:ds[i]?=some ds[i]:=by simp[hi]
 obtain⟨x,x1,x3⟩:=r2.get e;refine⟨⟨xs,x,q2,x1⟩,λy H3 ⟨e3,hy⟩=>?_⟩;subst e3;have:=hy xs q2;rw[x1]at this;cases this;exact⟨ρ2,_,.refl,rfl,R2,e,x3⟩
def Er(m:ME):MI:=λls hd=>(m ls hd).bind λp=>(AH p.1).map λds=>((ds,[]),p.2)
def Rb{t:TE}{m:ME}(h:RE K t m):RIt K (KN K t) (Er m):=by
 intro ρ σ H hd ls Q d g hd' hR hL hm hQ;obtain⟨⟨d1,h1⟩,e1,hm⟩:=XG hm;obtain⟨ds,e2,e3⟩:=XH hm;cases e3;refine h ρ σ H hd ls _ d1 _ hR hL e1 λρ1 H1 v x1 R1 r1=>?_;obtain⟨a,xs,rfl,q,r⟩:=r1.tup e2;exact⟨a,rfl,⟨xs,q⟩,hQ ρ1 H1 _ x1 R1 (Bc _) (Jp R1 q r [])⟩
def Gi(m:ME):MI:=λls hd=>(m ls hd).bind λp=>match p.1 with
 |.mu n=>match p.2[n]? with
  |some (.lst ds)=>some ((ds,[(n,ds)]),p.2)
  |_=>none
 |.ro ns=>some ((ns.map λn=>.im (.int n),[]),p.2)
 |_=>none
def Od{t:TE}{m:ME}(h:RE K t m):RIt K (Hr K t) (Gi m):=by
 intro ρ σ H hd ls Q d g hd' hR hL hm hQ;obtain⟨⟨d1,h1⟩,e1,hm⟩:=XG hm;dsimp only at hm;split at hm
 .next n=>
  split at hm
  .next ds q=>
   cases hm;refine h ρ σ H hd ls _ _ _ hR hL e1 λρ1 H1 v x1 R1 r1=>?_;simp only[RD]at r1;obtain⟨a,hn,rfl⟩:=r1;obtain⟨xs,e2,e3⟩:=R1.lst hn q;refine⟨a,rfl,⟨xs,SqL.of e2⟩,hQ ρ1 H1 _ x1 R1 (λp z=>by simp at z;subst z;exact q) ?_⟩;intro ρ2 H2 hd2 x2 R2 G2 i;have q2:=G2 (n,d) (by simp);have hn2:ρ2[n]?=some a:=by
    obtain⟨r,rfl,_⟩:=x2.pre;rw[List.getElem?_append_left (List.getElem?_eq_some_iff.mp hn).1];exact hn
   obtain⟨ys,e4,e5⟩:=R2.lst hn2 q2;refine⟨λhi=>?_,λhi=>⟨ys,SqL.of e4,by rw[e5.len,hi];exact le_refl _⟩⟩;have e:d[i]?=some d[i]:=by simp[hi]
   obtain⟨x,y1,y2⟩:=e5.get e;refine⟨⟨ys,x,SqL.of e4,y1⟩,λy H3 ⟨e6,hy⟩=>?_⟩;subst e6;have:=hy ys (SqL.of e4);rw[y1]at this;cases this;exact⟨ρ2,_,.refl,rfl,R2,e,y2⟩
  .cases hm
 .next ns=>
  cases hm;refine h ρ σ H hd ls _ _ _ hR hL e1 λρ1 H1 v x1 R1 r1=>?_;simp only[RD]at r1;obtain⟨a,rfl,q⟩:=r1;refine⟨a,rfl,⟨_,q.sq⟩,hQ ρ1 H1 _ x1 R1 (Bc _) ?_⟩;intro ρ2 H2 hd2 x2 R2 G2 i;have q2:=(q.grow (x2.grow R1)).sq;have e5:RDs K ρ2 H2 (ns.map λn=>.im (.int n)) (ns.map V.int):=Go;refine⟨λhi=>?_,λhi=>⟨_,q2,by rw[e5.len,hi];exact le_refl _⟩⟩;have e:(ns.map λn=>D.im (.int n))[i]?=some ((ns.map λn=>D.im (.int n))[i]):=by simp[hi]
  obtain⟨x,y1,y2⟩:=e5.get e;refine⟨⟨_,x,q2,y1⟩,λy H3 ⟨e6,hy⟩=>?_⟩;subst e6;have:=hy _ q2;rw[y1]at this;cases this;exact⟨ρ2,_,.refl,rfl,R2,e,y2⟩
 .cases hm
def VS(ml:MA):MI:=λls hd=>(ml ls hd).map λp=>((p.1,[]),p.2)
def AY(lo:Int):Nat->List D
 |0=>[]
 |n+1=>.im (.int lo)::AY (lo+1) n
@[simp] theorem G3(lo:Int)(n:Nat):(AY lo n).length=n:=by
 induction n generalizing lo with
 |zero=>rfl
 |succ n ih=>simp[AY,ih]
def KA{n:Nat}:∀{lo:Int} {i:Nat},i<n->(AY lo n)[i]?=some (.im (.int (lo+i))):=by
 induction n with
 |zero=>intro lo i h;omega
 |succ n ih=>
  intro lo i h;cases i with
  |zero=>simp[AY]
  |succ i=>
   simp only[AY,List.getElem?_cons_succ];rw[ih (by omega)]
   congr 3
   push_cast
   omega
def Jq{lo:Int}{n:Nat}{g:Gd}:J7 K ρ H (Itr lo n) (AY lo n) g:=by
 intro ρ2 H2 hd2 x2 R2 G2 i;refine⟨λhi=>?_,λhi=>by rw[hi,G3];exact le_refl _⟩;rw[G3]at hi;refine⟨hi,λx H3 ⟨e1,e2⟩=>?_⟩;subst e1 e2;exact⟨ρ2,_,.refl,rfl,R2,KA hi,by simp[RD,RI]⟩
open Classical in
def Dp(m:MA):MI:=λls hd=>(m ls hd).bind λp=>match p.1 with
 |[.im (.int j)]=>if GW j then some ((AY 0 j.toNat,[]),p.2)else none
 |_=>none
def Oc{t:TA}{m:MA}(h:RA K t m):RIt K (KO t) (Dp m):=by
 intro ρ σ H hd ls Q d g hd' hR hL hm hQ;obtain⟨⟨d1,h1⟩,e1,hm⟩:=XG hm;dsimp only at hm;split at hm
 .next j=>
  split at hm
  .next c=>
   cases hm;refine h ρ σ H hd ls _ _ _ hR hL e1 λρ1 H1 v x1 R1 r1=>?_;simp only[RDs,RD,RI]at r1;obtain⟨x,r,rfl,rfl,rfl⟩:=r1;exact⟨j,rfl,c.1,c.2,hQ ρ1 H1 _ x1 R1 (Bc _) Jq⟩
  .cases hm
 .cases hm
open Classical in
def Uo(m:MA):MI:=λls hd=>(m ls hd).bind λp=>match p.1 with
 |[.im (.int i),.im (.int j)]=>if RX i j then some ((AY i (j-i).toNat,[]),p.2)else none
 |_=>none
open Classical in
def Cb(n:MG)(b:MS)(g:Gd):List D->Ls->Hd->Option (Fl×Hd)
 |[],ls,hd=>some (.nx ls,hd)
 |d::r,ls,hd=>(n d ls hd).bind λls1=>(b ls1 hd).bind λp=>match p.1 with
  |.nx ls2=>if GOk p.2 g then Cb n b g r ls2 p.2 else none
  |.ct ls2=>if GOk p.2 g then Cb n b g r ls2 p.2 else none
  |.bk ls2=>some (.nx ls2,p.2)
  |.rt d=>some (.rt d,p.2)
def D0(mi:MI)(n:MG)(b:MS):MS:=λls hd=>(mi ls hd).bind λp=>Cb n b p.1.2 p.1.1 ls p.2
def RV{wi:TI}{g:TG}{tb:TS}{mi:MI}{n:MG}{b:MS}(hi:RIt K wi mi)(hg:RGt K g n)(hb:RS K tb b):RS K (M7 wi g tb) (D0 mi n b):=by
 intro ρ σ H hd ls E f hd' hR hL hm hQ;obtain⟨⟨⟨ds,gd⟩,h1⟩,e1,hm⟩:=XG hm;refine hi ρ σ H hd ls _ ds gd h1 hR hL e1 λρ1 H1 J x1 R1 G1 Y=>?_;dsimp only at hm;refine⟨λi m σ2 H2=>m=ds.length-i/\i<=ds.length/\∃ρ2 ls2 hd2,Ext ρ1 H1 ρ2 H2/\RH K ρ2 H2 hd2/\RL K ρ2 H2 ls2 σ2/\GOk hd2 gd/\Cb n b gd (ds.drop i) ls2 hd2=some (f,hd'),
  ⟨ds.length,by simp,zero_le _,ρ1,ls,h1,.refl,R1,hL.ext hR x1,G1,by simpa using hm⟩,?_⟩
 rintro i m σ2 H2 ⟨rfl,hi,ρ2,ls2,hd2,x2,R2,L2',G2,hm2⟩;obtain⟨Y1,Y2⟩:=Y ρ2 H2 hd2 x2 R2 G2 i;by_cases hlt:i<ds.length
 .obtain⟨go,Y1⟩:=Y1 hlt;have ed:ds.drop i=ds[i]::ds.drop (i+1):=List.drop_eq_getElem_cons hlt;rw[ed]at hm2;unfold Cb at hm2;obtain⟨ls3,e3,hm2⟩:=XG hm2;obtain⟨⟨fl,hd4⟩,e4,hm2⟩:=XG hm2;refine .inr ⟨go,λσ' H'=>∃ρ2 ls2 hd2,Ext ρ1 H1 ρ2 H'/\RH K ρ2 H' hd2/\RL K ρ2 H' ls2 σ'/\GOk hd2 gd/\Cb n b gd (ds.drop (i+1)) ls2 hd2=some (f,hd'),λσ' H' z=>⟨ds.length-(i+1),by omega,rfl,hlt,z⟩,λx H3 y=>?_⟩;obtain⟨ρ3,d3,x3,rfl,R3,e5,r3⟩:=Y1 x H3 y;have e6:d3=ds[i]:=by
   have:ds[i]?=some ds[i]:=by simp[hlt]
   rw[this]at e5;exact(Option.some.inj e5).symm
  subst e6;refine hg ρ3 σ2 H3 hd2 ls2 ls3 _ x _ R3 (L2'.ext R2 x3) r3 e3 λσ4 L4=>?_;refine hb ρ3 σ4 H3 hd2 ls3 _ fl hd4 R3 L4 e4 λρ5 H5 x5 R5=>?_;have x15:=(x2.trans R2 x3).trans R3 x5;cases fl with
  |nx ls5=>
   intro σ5 L5;dsimp only at hm2;split at hm2
   .next c=>exact⟨ρ5,ls5,hd4,x15,R5,L5,c,hm2⟩
   .cases hm2
  |ct ls5=>
   intro σ5 L5;dsimp only at hm2;split at hm2
   .next c=>exact⟨ρ5,ls5,hd4,x15,R5,L5,c,hm2⟩
   .cases hm2
  |bk ls5=>
   intro σ5 L5;cases hm2;exact hQ ρ5 H5 (x1.trans R1 x15) R5 σ5 L5
  |rt d5=>
   intro v5 r5;cases hm2;exact hQ ρ5 H5 (x1.trans R1 x15) R5 v5 r5
 .have e:i=ds.length:=by omega
  subst e;rw[List.drop_length]at hm2;unfold Cb at hm2;cases hm2;exact .inl ⟨Y2 rfl,hQ ρ2 H2 (x1.trans R1 x2) R2 σ2 L2'⟩
open Classical in
def B7(n:MG)(c:MT)(m:ME)(g:Gd):List D->Ls->Hd->Option (List D×Hd)
 |[],_,hd=>some ([],hd)
 |d::r,ls,hd=>(n d ls hd).bind λls1=>(c ls1 hd).bind λp=>if p.1=true then(m ls1 p.2).bind λq=>if GOk q.2 g then(B7 n c m g r ls1 q.2).map λz=>(q.1::z.1,z.2)else none else if GOk p.2 g then B7 n c m g r ls1 p.2 else none
def Di(k:Nat)(ix:List Nat)(ls:Ls):Ls:=List.replicate k none++ix.map λi=>(ls[i]?).join
open Classical in
def Cr(k:Nat)(ix:List Nat)(mi:MI)(n:MG)(c:MT)(m:ME):MA:=λls hd=>(mi ls hd).bind λp=>if BW p.1.1.length then B7 n c m p.1.2 p.1.1 (Di k ix ls) p.2 else none
def QY{k:Nat}{ix:List Nat}{ls:Ls}{σ:St}(h:RL K ρ H ls σ):RL K ρ H (Di k ix ls) (F2 k ix σ):=by
 refine⟨by simp[Di,F2],λi d e=>?_⟩;unfold Di at e;unfold F2;by_cases hi:i<k
 .rw[List.getElem?_append_left (by simpa using hi),List.getElem?_replicate]at e;split at e<;>cases e
 .have hi':k<=i:=Nat.not_lt.mp hi;rw[List.getElem?_append_right (by simpa using hi'),List.length_replicate,List.getElem?_map]at e ⊢;cases q:ix[i-k]? with
  |none=>rw[q]at e;cases e
  |some j=>
   rw[q]at e;simp only[map_some,Option.some.injEq]at e ⊢;have e5:ls[j]?=some (some d):=by
    cases w:ls[j]? with
    |none=>rw[w]at e;cases e
    |some z=>rw[w]at e;simpa using e
   obtain⟨v,e6,e7⟩:=h.ob j d e5;exact⟨v,by rw[e6];rfl,e7⟩
def JT{k:Nat}{ix:List Nat}{wi:TI}{g:TG}{tf:TT}{te:TE}{mi:MI}{n:MG}{c:MT}{m:ME}(hi:RIt K wi mi)(hg:RGt K g n)(hf:RT K tf c)(he:RE K te m):RN K (EL k ix wi g tf te) (Cr k ix mi n c m):=by
 intro ρ σ H hd ls Q out hd' hR hL hm hQ;obtain⟨⟨⟨ds,gd⟩,h1⟩,e1,hm⟩:=XG hm;dsimp only at hm;split at hm
 .next hlen=>
  have hlen:ds.length<=sizeLine:=hlen;refine hi ρ σ H hd ls _ ds gd h1 hR hL e1 λρ1 H1 J x1 R1 G1 Y=>?_;intro Da hDa;obtain⟨R1',x1'⟩:=R1.hid (ho:=.lst []) hDa;have oD:Da∉ρ1:=R1.out hDa;have nD:H Da=none:=x1.none hR hDa R1;refine⟨λi mm σ2 ys H2=>mm=ds.length-i/\i<=ds.length/\∃ρ2 ls2 hd2 es rest,Ext ρ1 (upd H1 Da (.lst ys)) ρ2 H2/\Ext ρ1 H1 ρ2 H2/\Da∉ρ2/\H2 Da=some (.lst ys)/\RH K ρ2 H2 hd2/\RL K ρ2 H2 ls2 σ2/\RDs K ρ2 H2 es ys/\es.length<=i/\GOk hd2 gd/\B7 n c m gd (ds.drop i) ls2 hd2=some (rest,hd')/\out=es++rest,
   ⟨ds.length,by simp,zero_le _,ρ1,_,h1,[],out,.refl,x1',oD,Ae,R1',(QY ((hL.ext hR x1).ext R1 x1')),.nil,le_refl _,G1,by simpa using hm,rfl⟩,?_⟩
  rintro i mm σ2 ys H2 ⟨rfl,hi,ρ2,ls2,hd2,es,rest,x2',x2,oD2,hD2,R2,L2',r2,hle,G2,hm2,rfl⟩;refine⟨hD2,?_⟩;obtain⟨Y1,Y2⟩:=Y ρ2 H2 hd2 x2 R2 G2 i;by_cases hlt:i<ds.length
  .obtain⟨go,Y1⟩:=Y1 hlt;have ed:ds.drop i=ds[i]::ds.drop (i+1):=List.drop_eq_getElem_cons hlt;rw[ed]at hm2;unfold B7 at hm2;obtain⟨ls3,e3,hm2⟩:=XG hm2;obtain⟨⟨bb,hd4⟩,e4,hm2⟩:=XG hm2;refine .inr ⟨go,lt_of_le_of_lt (by rw[r2.len];exact hle) (by omega),λσ' ys' H'=>∃ρ2 ls2 hd2 es' rest',Ext ρ1 (upd H1 Da (.lst ys')) ρ2 H'/\Ext ρ1 H1 ρ2 H'/\Da∉ρ2/\H' Da=some (.lst ys')/\RH K ρ2 H' hd2/\RL K ρ2 H' ls2 σ'/\RDs K ρ2 H' es' ys'/\es'.length<=i+1/\GOk hd2 gd/\B7 n c m gd (ds.drop (i+1)) ls2 hd2=some (rest',hd')/\es++rest=es'++rest',λσ' ys' H' z=>⟨ds.length-(i+1),by omega,rfl,hlt,z⟩,λx H3 y=>?_⟩;obtain⟨ρ3,d3,x3,rfl,R3,e5,r3⟩:=Y1 x H3 y;have e6:d3=ds[i]:=by
    have:ds[i]?=some ds[i]:=by simp[hlt]
    rw[this]at e5;exact(Option.some.inj e5).symm
   subst e6;refine hg ρ3 σ2 H3 hd2 ls2 ls3 _ x _ R3 (L2'.ext R2 x3) r3 e3 λσ4 L4=>?_;refine hf ρ3 σ4 H3 hd2 ls3 _ bb hd4 R3 L4 e4 λρ5 H5 x5 R5=>?_;have hD5:H5 Da=some (.lst ys):=x5.keep Da _ (x3.keep Da _ hD2 oD2 nt) oD2 nt;have out5:Da∉ρ5:=by
    obtain⟨r,rfl,fr⟩:=x5.pre;intro z;rcases mem_append.mp z with z|z
    .exact oD2 z
    .have:=fr _ z;rw[x3.keep Da _ hD2 oD2 nt]at this;cases this
   cases bb with
   |false=>
    rw[if_neg Bool.false_ne_true]at hm2 ⊢;have y25:=x3.trans R3 x5;split at hm2
    .next g5=>exact⟨ρ5,ls3,hd4,es,rest,x2'.trans R2 y25,(x2.trans R2 y25),out5,hD5,R5,L4.ext R3 x5,(r2.ext R2 y25),by omega,g5,hm2,rfl⟩
    .cases hm2
   |true=>
    rw[if_pos rfl]at hm2 ⊢;obtain⟨⟨z,hd6⟩,e6,hm2⟩:=XG hm2;obtain⟨g6,hm2⟩:GOk hd6 gd/\((B7 n c m gd (ds.drop (i+1)) ls3 hd6).map λq=>(z::q.1,q.2))=some (rest,hd'):=by
     dsimp only at hm2;split at hm2
     .next g6=>exact⟨g6,hm2⟩
     .cases hm2
    obtain⟨⟨zs,hd7⟩,e7,e8⟩:=XH hm2;cases e8;refine he ρ5 σ4 H5 hd4 ls3 _ z hd6 R5 (L4.ext R3 x5) e6 λρ6 H6 v6 x6 R6 r6=>?_;have hD6:H6 Da=some (.lst ys):=x6.keep Da _ hD5 out5 nt;have out6:Da∉ρ6:=by
     obtain⟨r,rfl,fr⟩:=x6.pre;intro z;rcases mem_append.mp z with z|z
     .exact out5 z
     .have:=fr _ z;rw[hD5]at this;cases this
    refine⟨hD6,?_⟩;have y26:=(x3.trans R3 x5).trans R5 x6;have gr:Grow H6 (upd H6 Da (.lst (ys++[v6]))):=Grow.refl.put (.lst hD6);have R7:=R6.hput (ho:=.lst (ys++[v6])) out6 hD6;have x12:=x2.trans R2 y26;have ext7:Ext ρ1 H1 ρ6 (upd H6 Da (.lst (ys++[v6]))):=⟨x12.pre,λb o q nb t=>by
     have:b≠Da:=As q hDa;rw[AU this];exact x12.keep b o q nb t,λb ps q=>by
     have:b≠Da:=As q hDa;rw[AU this];exact x12.tab b ps q⟩
    have ext8:Ext ρ1 (upd H1 Da (.lst (ys++[v6]))) ρ6 (upd H6 Da (.lst (ys++[v6]))):=by
     obtain⟨r,er,fr⟩:=x12.pre;refine⟨⟨r,er,λb hb=>?_⟩,λb o q nb t=>?_,λb ps q=>?_⟩
     .have:b≠Da:=λz=>out6 (by rw[er,<- z];exact mem_append_right _ hb);rw[AU this];exact fr b hb
     .by_cases hb:b=Da
      .subst hb;rw[Ae]at q ⊢;exact q
      .rw[AU hb]at q ⊢;exact x12.keep b o q nb t
     .by_cases hb:b=Da
      .subst hb;rw[Ae]at q;cases q
      .rw[AU hb]at q ⊢;exact x12.tab b ps q
    refine⟨ρ6,ls3,hd6,es++[z],zs,ext8,ext7,out6,Ae,R7,?_,?_,by simp;omega,g6,e7,by simp⟩
    .have L6:=(L4.ext R3 x5).ext R5 x6;exact⟨L6.len,λi d e=>let ⟨v,a,b⟩:=L6.ob i d e;⟨v,a,by simpa using b.mono gr []⟩⟩
    .have:=((r2.ext R2 y26).app (.cons r6 .nil)).mono gr [];simpa using this
  .have e:i=ds.length:=by omega
   subst e;rw[List.drop_length]at hm2;unfold B7 at hm2;cases hm2;refine .inl ⟨Y2 rfl,?_⟩;exact hQ ρ2 H2 Da ys (x1.trans R1 x2) R2 nD oD2 hD2 (by simpa using r2)
 .cases hm
end
mutual
def clD(w:Nat):D->Bool
 |.im _=>true
 |.mu n=>decide (n<w)
 |.tm ds=>BJ w ds
 |.ro _=>true
 |.op _ _ ds=>BJ w ds
def BJ(w:Nat):List D->Bool
 |[]=>true
 |d::ds=>clD w d&&BJ w ds
end
def Dv(w:Nat):List (Key×D)->Bool
 |[]=>true
 |d::ds=>clD w d.2&&Dv w ds
def clO(w:Nat):MO->Bool
 |.lst ds=>BJ w ds
 |.dic ds=>Dv w ds
section
variable{K:PySem.W.Frag}{ρ ρ' ρ1:List Addr}{H H' H1:Hp}{hd hd' h1 h2:Hd}
mutual
theorem RD.take(w:Nat):∀{d:D} {v:V},RD K ρ H d v->clD w d=true->RD K (ρ.take w) H d v
 |.im i,v,h,_=>by simp only[RD]at h ⊢;exact h
 |.mu n,v,h,c=>by
  simp only[RD]at h ⊢;obtain⟨a,e,q⟩:=h;exact⟨a,by rw[List.getElem?_take_of_lt (by simpa [clD]using c)];exact e,q⟩
 |.tm ds,v,h,c=>by
  simp only[RD]at h ⊢;obtain⟨a,xs,e,q,z⟩:=h;exact⟨a,xs,e,q,RDs.take' w z (by simpa [clD]using c)⟩
 |.ro ns,v,h,c=>by simp only[RD]at h ⊢;exact h
 |.op nm fs ds,v,h,c=>by
  simp only[RD]at h ⊢;obtain⟨a,xs,e,q,z⟩:=h;exact⟨a,xs,e,q,RDs.take' w z (by simpa [clD]using c)⟩
theorem RDs.take'(w:Nat):∀{d:List D} {v:List V},RDs K ρ H d v->BJ w d=true->RDs K (ρ.take w) H d v
 |[],v,h,_=>by simpa only[RDs]using h
 |d::ds,v,h,c=>by
  simp only[RDs]at h ⊢;obtain⟨x,r',e,q,z⟩:=h;have c:clD w d=true/\BJ w ds=true:=by simpa [BJ]using c
  exact⟨x,r',e,q.take w c.1,RDs.take' w z c.2⟩
end
theorem RKs.take(w:Nat):∀{d:List (Key×D)} {v:List (Key×V)},RKs K ρ H d v->Dv w d=true->RKs K (ρ.take w) H d v
 |[],v,h,_=>by simpa only[RKs]using h
 |d::ds,v,h,c=>by
  simp only[RKs]at h ⊢;obtain⟨x,r',e,q1,q,z⟩:=h;have c:clD w d.2=true/\Dv w ds=true:=by simpa [Dv]using c
  exact⟨x,r',e,q1,q.take w c.1,RKs.take w z c.2⟩
theorem RC.take(w:Nat){o:MO}{ho:HO}(h:RC K ρ H o ho)(c:clO w o=true):RC K (ρ.take w) H o ho:=by
 cases o with
 |lst ds=>obtain⟨xs,e,q⟩:=h;exact⟨xs,e,q.take' w c⟩
 |dic ds=>obtain⟨xs,e,q⟩:=h;exact⟨xs,e,q.take w c⟩
theorem RH.take(h:RH K ρ H hd)(w:Nat)(c:(hd.take w).all (clO w)=true):RH K (ρ.take w) H (hd.take w):=by
 refine⟨by simp[h.len],h.nd.sublist (List.take_sublist _ _),h.tabs,λn o a e1 e2=>?_⟩;have co:=all_eq_true.mp c o (mem_of_getElem? e1);have hn:n<w:=by
  have:=(List.getElem?_eq_some_iff.mp e1).1;simp at this;omega
 rw[List.getElem?_take_of_lt hn]at e1 e2;obtain⟨ho,q1,q2⟩:=h.ob n o a e1 e2;exact⟨ho,q1,q2.take w co⟩
def RH.back(R1:RH K ρ1 H1 h1){w:Nat}(hw:w<=h1.length)(c1:(h1.take w).all (clO w)=true)(x:Ext (ρ1.take w) H1 ρ' H')(R':RH K ρ' H' h2)(c:(h2.take w).all (clO w)=true):
 RH K ρ1 H' (h2.take w++h1.drop w)/\Ext ρ1 H1 ρ1 H'/\ρ'.take w=ρ1.take w:=by
 obtain⟨r,rfl,fr⟩:=x.pre;have lw:(ρ1.take w).length=w:=by rw[length_take,R1.len];omega
 have l2:w<=h2.length:=by rw[<- R'.len];simp[lw]
 have tk:(ρ1.take w++r).take w=ρ1.take w:=by rw[List.take_append_of_le_length (by omega),List.take_take];simp
 refine⟨⟨?_,R1.nd,R'.tabs,λn o a e1 e2=>?_⟩,⟨⟨[],by simp,by simp⟩,λb o q nb t=>x.keep b o q (λm=>nb (mem_of_mem_take m)) t,x.tab⟩,tk⟩
 .rw[length_append,length_take,length_drop,R1.len];omega
 .by_cases hn:n<w
  .rw[List.getElem?_append_left (by rw[length_take];omega),List.getElem?_take_of_lt hn]at e1;have e3:(ρ1.take w++r)[n]?=some a:=by
    rw[List.getElem?_append_left (by omega),List.getElem?_take_of_lt hn];exact e2
   obtain⟨ho,q1,q2⟩:=R'.ob n o a e1 e3;have co:=all_eq_true.mp c o (by
    have:(h2.take w)[n]?=some o:=by rw[List.getElem?_take_of_lt hn];exact e1
    exact mem_of_getElem? this)
   have q3:=q2.take w co;rw[tk]at q3;have q4:=q3.mono (Grow.refl (H:=H')) (ρ1.drop w);rw[List.take_append_drop]at q4;exact⟨ho,q1,q4⟩
  .rw[List.getElem?_append_right (by rw[length_take];omega),length_take,List.getElem?_drop]at e1;have e1:h1[n]?=some o:=by
    have:w+(n-min w h2.length)=n:=by omega
    rw[this]at e1;exact e1
   obtain⟨ho,q1,q2⟩:=R1.ob n o a e1 e2;have out:a∉ρ1.take w:=λm=>by
    obtain⟨k,hk⟩:=List.mem_iff_getElem?.mp m;have kw:k<w:=by
     have:=(List.getElem?_eq_some_iff.mp hk).1;rw[lw]at this;exact this
    rw[List.getElem?_take_of_lt kw]at hk;have:=(List.getElem?_inj (List.getElem?_eq_some_iff.mp e2).1 R1.nd).mp (e2.trans hk.symm);omega
   have gr:=x.grow (R1.take w c1);exact⟨ho,x.keep a ho q1 out (λps z=>by rcases R1.mut (mem_of_getElem? e2)with⟨y,w⟩|⟨y,w⟩<;>(rw[q1,z]at w;cases w)),by simpa using q2.mono gr []⟩
def spF(K:PySem.W.Frag)(k:Nat)(F:List D->Hd->Option (D×Hd)):Sp:=λvs H Q _=>vs.length=k/\∃(ρ:List Addr) (hd:Hd) (ds:List D) (d:D) (hd':Hd),RH K ρ H hd/\RDs K ρ H ds vs/\F ds hd=some (d,hd')/\
 ∀ρ' H' v,Ext ρ H ρ' H'->RH K ρ' H' hd'->RD K ρ' H' d v->Q v H'
def mkF(k n:Nat)(m:MS):List D->Hd->Option (D×Hd):=λds hd=>if ds.length=k then(match m (ds.map some++List.replicate (n-k) none) hd with
 |some (.rt d,hd')=>some (d,hd')
 |some (.nx _,hd')=>some (.im .non,hd')
 | _=>none)else none
def IP{N:List Str}:∀{ds:List D} {vs:List V},RDs K ρ H ds vs->RL K ρ H (ds.map some++List.replicate (N.length-ds.length) none) (CJ N vs):=by
 intro ds vs r;have hl:=r.len;refine⟨by simp[CJ,hl],λi d e=>?_⟩;unfold CJ;by_cases hi:i<ds.length
 .rw[List.getElem?_append_left (by simpa using hi),List.getElem?_map]at e;have e':ds[i]?=some d:=by
   cases q:ds[i]? with
   |none=>rw[q]at e;cases e
   |some z=>rw[q]at e;simpa using e
  obtain⟨x,x1,x2⟩:=r.get e';exact⟨x,by rw[List.getElem?_append_left (by rw[length_map,hl];exact hi),List.getElem?_map,x1];rfl,x2⟩
 .rw[List.getElem?_append_right (by simpa using Nat.not_lt.mp hi),List.getElem?_replicate]at e;split at e<;>cases e
def OI{k:Nat}{N:List Str}{m:MS}{t:TS}(h:RS K t m){vs:List V}{H:Hp}{Q:VK}{E:XK}(s:spF K k (mkF k N.length m) vs H Q E):t { nx:=λ_ H'=>Q .non H',rt:=Q } (CJ N vs) H:=by
 obtain⟨hk,ρ,hd,ds,d,hd',hR,hr,hF,hQ⟩:=s;unfold mkF at hF;split at hF
 .next hl=>
  subst hl;split at hF
  .next q=>
   cases hF;exact h ρ _ H hd _ _ _ _ hR (IP hr) q λρ' H' x R v r=>hQ ρ' H' v x R r
  .next q=>
   cases hF;exact h ρ _ H hd _ _ _ _ hR (IP hr) q λρ' H' x R σ L=>hQ ρ' H' .non x R (by simp[RD,RI])
  .cases hF
 .cases hF
def Ag(F:List D->Hd->Option (D×Hd))(ma:MA):ME:=λls hd=>(ma ls hd).bind λp=>F p.1 p.2
def MR{k:Nat}{F:List D->Hd->Option (D×Hd)}{t:TA}{m:MA}(h:RA K t m)(hk:∀ds hd z,F ds hd=some z->ds.length=k):RE K (CI (spF K k F) [] E0 t) (Ag F m):=by
 and_intros;obtain⟨⟨d1,h1⟩,e1,hm⟩:=XG hm;refine h ρ σ H hd ls _ d1 h1 hR hL e1 λρ1 H1 v1 x1 R1 r1=>?_;rw[append_nil];exact⟨by rw[r1.len];exact hk _ _ _ hm,ρ1,h1,d1,d,hd',R1,r1,hm,λρ' H' w x2 R2 r2=>hQ ρ' H' w (x1.trans R1 x2) R2 r2⟩
def Q3{k n:Nat}{m:MS}:∀ds hd z,mkF k n m ds hd=some z->ds.length=k:=λds hd z h=>by
 unfold mkF at h;split at h
 .next e=>exact e
 .cases h
def fin(w:Nat)(d:D)(h2 rest:Hd):Option (D×Hd):=if(h2.take w).all (clO w)=true then(match d with
 | .mu k=>if k<w then some (.mu k,h2.take w++rest)else(match h2[k]? with
  |some (.lst ds)=>if BJ w ds=true then some (.mu (w+rest.length),h2.take w++rest++[.lst ds])else none
  | _=>none)
 | d=>if clD w d=true then some (d,h2.take w++rest)else none)else none
def AA(w:Nat)(F:List D->Hd->Option (D×Hd))(ma:MA):ME:=λls hd=>(ma ls hd).bind λp=>
 if w<=p.2.length/\BJ w p.1=true/\(p.2.take w).all (clO w)=true then(F p.1 (p.2.take w)).bind λr=>fin w r.1 r.2 (p.2.drop w)else none
def IS{w k:Nat}{F:List D->Hd->Option (D×Hd)}{t:TA}{m:MA}(h:RA K t m)(hk:∀ds hd z,F ds hd=some z->ds.length=k):RE K (CI (spF K k F) [] E0 t) (AA w F m):=by
 and_intros;obtain⟨⟨d1,h1⟩,e1,hm⟩:=XG hm;dsimp only at hm;split at hm
 .next c=>
  obtain⟨c0,c1,c2⟩:=c;obtain⟨⟨d2,h2⟩,e2,hm⟩:=XG hm;refine h ρ σ H hd ls _ d1 h1 hR hL e1 λρ1 H1 v1 x1 R1 r1=>?_;rw[append_nil];refine⟨by rw[r1.len];exact hk _ _ _ e2,ρ1.take w,h1.take w,d1,d2,h2,R1.take w c2,r1.take' w c1,e2,λρ' H' v x2 R2 r2=>?_⟩;unfold fin at hm;dsimp only at hm;split at hm
  .next c3=>
   obtain⟨R3,x3,tk⟩:=R1.back c0 c2 x2 R2 c3;have up:∀{d:D} {v:V},RD K ρ' H' d v->clD w d=true->RD K ρ1 H' d v:=λr c=>by
    have q:=r.take w c;rw[tk]at q;have q:=q.mono (Grow.refl (H:=H')) (ρ1.drop w);rw[List.take_append_drop]at q;exact q
   have ups:∀{d:List D} {v:List V},RDs K ρ' H' d v->BJ w d=true->RDs K ρ1 H' d v:=λr c=>by
    have q:=r.take' w c;rw[tk]at q;have q:=q.mono (Grow.refl (H:=H')) (ρ1.drop w);rw[List.take_append_drop]at q;exact q
   split at hm
   .next k'=>
    split at hm
    .next hk'=>
     cases hm;exact hQ ρ1 H' v (x1.trans R1 x3) R3 (up r2 (by simpa [clD]using hk'))
    .next hk'=>
     split at hm
     .next ds q=>
      split at hm
      .next c4=>
       cases hm;simp only[RD]at r2;obtain⟨a,ea,rfl⟩:=r2;obtain⟨xs,l1,l2⟩:=R2.lst ea q;have len3:=R3.len;have out:a∉ρ1:=λm=>by
        -- a is one of those made behind the first w
        obtain⟨r,er,fr⟩:=x2.pre;have lw:(ρ1.take w).length=w:=by rw[length_take,R1.len];omega
        have ma:a∈r:=by
         rw[er,List.getElem?_append_right (by rw[lw];omega)]at ea;exact mem_of_getElem? ea
        exact R1.out (fr a ma) m
       have na:H1 a=none:=by
        obtain⟨r,er,fr⟩:=x2.pre;have lw:(ρ1.take w).length=w:=by rw[length_take,R1.len];omega
        have ma:a∈r:=by
         rw[er,List.getElem?_append_right (by rw[lw];omega)]at ea;exact mem_of_getElem? ea
        exact fr a ma
       refine hQ (ρ1++[a]) H' _ (x1.trans R1 (x3.name na)) (R3.name out l1 (ups l2 c4)) ?_;simp only[RD];refine⟨a,?_,rfl⟩;have:w+(List.drop w h1).length=ρ1.length:=by rw[length_drop,R1.len];omega
       rw[this];simp
      .cases hm
     .cases hm
   .next d' nd=>
    split at hm
    .next c4=>cases hm;exact hQ ρ1 H' v (x1.trans R1 x3) R3 (up r2 c4)
    .cases hm
  .cases hm
 .cases hm
def B6(c:MT)(b:MS):Nat->Ls->Hd->Option (Fl×Hd)
 |0,_,_=>none
 | k+1,ls,hd=>(c ls hd).bind λp=>if p.1=true then(b ls p.2).bind λq=>(match q.1 with
  |.nx ls2=>B6 c b k ls2 q.2
  |.ct ls2=>B6 c b k ls2 q.2
  |.bk ls2=>some (.nx ls2,q.2)
  | .rt d=>some (.rt d,q.2))else some (.nx ls,p.2)
open Classical in
def BZ(c:MT)(b:MS):MS:=λls hd=>if h:∃r k,B6 c b k ls hd=some r then some h.choose else none
theorem Cp{c:MT}{b:MS}:∀{k j:Nat} {ls:Ls} {hd:Hd} {r:Fl×Hd},B6 c b k ls hd=some r->k<=j->B6 c b j ls hd=some r
 |0,_,_,_,_,h,_=>by cases h
 |k+1,0,_,_,_,_,hj=>by omega
 |k+1,j+1,ls,hd,r,h,hj=>by
  unfold B6 at h ⊢;obtain⟨p,e1,h⟩:=XG h;rw[e1];show(if p.1=true then _ else _)=_;split at h
  .next c=>
   rw[if_pos c];obtain⟨q,e2,h⟩:=XG h;rw[e2];obtain⟨f,hd2⟩:=q;cases f with
   |nx ls2=>exact Cp h (by omega)
   |ct ls2=>exact Cp h (by omega)
   |bk ls2=>exact h
   |rt d=>exact h
  .next c=>rw[if_neg c];exact h
def LO{c:MT}{b:MS}{k:Nat}{ls:Ls}{hd:Hd}{r:Fl×Hd}(h:B6 c b k ls hd=some r):BZ c b ls hd=some r:=by
 unfold BZ;have ex:∃r k,B6 c b k ls hd=some r:=⟨r,k,h⟩
 rw[dif_pos ex];obtain⟨j,e⟩:=ex.choose_spec;have e1:=Cp e (Nat.le_max_left j k);have e2:=Cp h (Nat.le_max_right j k);rw[e1]at e2;exact e2
def MK{tc:TT}{tb:TS}{c:MT}{b:MS}(hc:RT K tc c)(hb:RS K tb b):RS K (IE tc tb) (BZ c b):=by
 intro ρ σ H hd ls E f hd' hR hL hm hQ;obtain⟨k,hk⟩:∃k,B6 c b k ls hd=some (f,hd'):=by
  unfold BZ at hm;split at hm
  .next ex=>
   obtain⟨j,e⟩:=ex.choose_spec;exact⟨j,by rw[e];exact hm⟩
  .cases hm
 refine⟨λm σ2 H2=>∃ρ2 ls2 hd2,Ext ρ H ρ2 H2/\RH K ρ2 H2 hd2/\RL K ρ2 H2 ls2 σ2/\B6 c b m ls2 hd2=some (f,hd'),⟨k,ρ,ls,hd,.refl,hR,hL,hk⟩,?_⟩;rintro m σ2 H2 ⟨ρ2,ls2,hd2,x2,R2,L2',hm2⟩;cases m with
 |zero=>cases hm2
 |succ m=>
  unfold B6 at hm2;obtain⟨⟨bb,hd3⟩,e1,hm2⟩:=XG hm2;refine hc ρ2 σ2 H2 hd2 ls2 _ bb hd3 R2 L2' e1 λρ3 H3 x3 R3=>?_;cases bb with
  |false=>
   rw[if_neg Bool.false_ne_true]at hm2 ⊢;cases hm2;exact hQ ρ3 H3 (x2.trans R2 x3) R3 σ2 (L2'.ext R2 x3)
  |true=>
   rw[if_pos rfl]at hm2 ⊢;obtain⟨⟨fl,hd4⟩,e2,hm2⟩:=XG hm2;refine⟨λσ' H'=>∃ρ2 ls2 hd2,Ext ρ H ρ2 H'/\RH K ρ2 H' hd2/\RL K ρ2 H' ls2 σ'/\B6 c b m ls2 hd2=some (f,hd'),λσ' H' z=>⟨m,Nat.lt_succ_self m,z⟩,?_⟩;refine hb ρ3 σ2 H3 hd3 ls2 _ fl hd4 R3 (L2'.ext R2 x3) e2 λρ5 H5 x5 R5=>?_;have x15:=(x2.trans R2 x3).trans R3 x5;cases fl with
   |nx ls5=>intro σ5 L5;exact⟨ρ5,ls5,hd4,x15,R5,L5,hm2⟩
   |ct ls5=>intro σ5 L5;exact⟨ρ5,ls5,hd4,x15,R5,L5,hm2⟩
   |bk ls5=>intro σ5 L5;cases hm2;exact hQ ρ5 H5 x15 R5 σ5 L5
   |rt d5=>intro v5 r5;cases hm2;exact hQ ρ5 H5 x15 R5 v5 r5
def By(kvs:List (Key×D))(k:Key):Option D:=(kvs.find? λkv=>decide (kv.1=k)).map (·.2)
def Ca(kvs:List (Key×D))(k:Key)(v:D):List (Key×D):=
 if(kvs.any λkv=>decide (kv.1=k))=true then kvs.map (λkv=>if kv.1=k then(kv.1,v)else kv)else kvs++[(k,v)]
theorem RKs.val:∀{kvs:List (Key×D)} {xs:List (Key×V)} {k:Key} {d:D},RKs K ρ H kvs xs->By kvs k=some d->∃v,Ch xs k=some v/\RD K ρ H d v
 |[],xs,k,d,h,e=>by simp[By]at e
 |p::kvs,xs,k,d,h,e=>by
  simp only[RKs]at h;obtain⟨x,r,rfl,e1,r1,r2⟩:=h;by_cases hk:p.1=k
  .rw[DK (e1.trans hk)];simp[By,find?_cons,hk]at e;subst e;exact⟨_,rfl,r1⟩
  .rw[DL (by rw[e1];exact hk)];simp only[By,find?_cons,hk,decide_false]at e;exact RKs.val r2 e
theorem RKs.valN:∀{kvs:List (Key×D)} {xs:List (Key×V)} {k:Key},RKs K ρ H kvs xs->(Ch xs k).isSome=(By kvs k).isSome
 |[],xs,k,h=>by simp only[RKs]at h;subst h;rfl
 |p::kvs,xs,k,h=>by
  simp only[RKs]at h;obtain⟨x,r,rfl,e1,r1,r2⟩:=h;by_cases hk:p.1=k
  .rw[DK (e1.trans hk)];simp[By,find?_cons,hk]
  .rw[DL (by rw[e1];exact hk)];simp only[By,find?_cons,hk,decide_false];exact RKs.valN r2
theorem RKs.any:∀{kvs:List (Key×D)} {xs:List (Key×V)} {k:Key},RKs K ρ H kvs xs->(xs.any λkv=>decide (kv.1=k))=(kvs.any λkv=>decide (kv.1=k))
 |[],xs,k,h=>by simp only[RKs]at h;subst h;rfl
 |p::kvs,xs,k,h=>by
  simp only[RKs]at h;obtain⟨x,r,rfl,e1,r1,r2⟩:=h;simp only[any_cons,e1,RKs.any r2]
theorem RKs.upd:∀{kvs:List (Key×D)} {xs:List (Key×V)} {k:Key} {d:D} {v:V},RKs K ρ H kvs xs->RD K ρ H d v->RKs K ρ H (kvs.map (λkv=>if kv.1=k then(kv.1,d)else kv)) (xs.map (λkv=>if kv.1=k then(kv.1,v)else kv))
 |[],xs,k,d,v,h,_=>by simp only[RKs]at h;subst h;simp[RKs]
 |p::kvs,xs,k,d,v,h,q=>by
  simp only[RKs]at h;obtain⟨x,r,rfl,e1,r1,r2⟩:=h;simp only[map_cons,RKs];refine⟨_,_,rfl,?_,?_,RKs.upd r2 q⟩
  .rw[e1];split<;>simp[e1]
  .rw[e1];split
   .exact q
   .exact r1
theorem RKs.app:∀{kvs ks:List (Key×D)} {xs ys:List (Key×V)},RKs K ρ H kvs xs->RKs K ρ H ks ys->RKs K ρ H (kvs++ks) (xs++ys)
 |[],ks,xs,ys,h,t=>by simp only[RKs]at h;subst h;simpa using t
 |d::ds,ks,xs,ys,h,t=>by
  simp only[RKs]at h;obtain⟨x,r,rfl,e,z,q⟩:=h;simp only[cons_append,RKs];exact⟨_,_,rfl,e,z,q.app t⟩
def RKs.put{kvs:List (Key×D)}{xs:List (Key×V)}{k:Key}{d:D}{v:V}(h:RKs K ρ H kvs xs)(q:RD K ρ H d v):RKs K ρ H (Ca kvs k d) (Bf xs k v):=by
 unfold Ca Bf;rw[h.any];split
 .exact h.upd q
 .exact h.app (by simp only[RKs];exact⟨_,_,rfl,rfl,q,rfl⟩)
def Ck:D->Option Key
 |.im (.int i)=>some (.inl i)
 |.im (.str x)=>some (.inr x)
 |_=>none
def Gn{d:D}{v:V}{k:Key}(h:RD K ρ H d v)(e:Ck d=some k):v=kV k:=by
 cases d with
 |im i=>
  cases i with
  |int i=>simp only[Ck,Option.some.injEq]at e;subst e;simp only[RD,RI]at h;exact h
  |str i=>simp only[Ck,Option.some.injEq]at e;subst e;simp only[RD,RI]at h;exact h
  |_=>simp[Ck]at e
 |_=>simp[Ck]at e
def DI(hd:Hd):D->Option (List (Key×D))
 |.mu n=>match hd[n]? with
  |some (.dic kvs)=>some kvs
  |_=>none
 |_=>none
theorem RD.dic{d:D}{v:V}{kvs:List (Key×D)}(hR:RH K ρ H hd)(h:RD K ρ H d v)(e:DI hd d=some kvs):∃n a xs,d=.mu n/\v=.ref a/\ρ[n]?=some a/\H a=some (.dK xs)/\RKs K ρ H kvs xs:=by
 cases d with
 |mu n=>
  simp only[DI]at e;simp only[RD]at h;obtain⟨a,hn,rfl⟩:=h;split at e
  .next q=>
   cases e;obtain⟨xs,e1,e2⟩:=hR.dic hn q;exact⟨n,a,xs,rfl,rfl,hn,e1,e2⟩
  .cases e
 |_=>simp[DI]at e
def BV:D->D->Hd->Option (D×Hd):=λd e hd=>(DI hd d).bind λkvs=>(Ck e).bind λk=>(By kvs k).map (·,hd)
def Oo{td ty:TE}{md my:ME}(hd:RE K td md)(hy:RE K ty my):RE K (K3 td ty) (mOp BV md my):=by
 intro ρ σ H hd0 ls Q d hd' hR hL hm hQ;obtain⟨⟨d1,h1⟩,e1,hm⟩:=XG hm;obtain⟨⟨d2,h2⟩,e2,hm⟩:=XG hm;obtain⟨kvs,e3,hm⟩:=XG hm;obtain⟨k,e4,hm⟩:=XG hm;obtain⟨w,e5,e6⟩:=XH hm;cases e6;refine hd ρ σ H hd0 ls _ d1 h1 hR hL e1 λρ1 H1 v1 x1 R1 r1=>?_;refine hy ρ1 σ H1 h1 ls _ d2 _ R1 (hL.ext hR x1) e2 λρ2 H2 v2 x2 R2 r2=>?_;obtain⟨n,a,xs,rfl,rfl,hn,l1,l2⟩:=RD.dic R2 (r1.ext R1 x2) e3;have:=Gn r2 e4;subst this;obtain⟨v,v1,v2⟩:=l2.val e5;exact⟨a,v,rfl,v1 ▸ DGet.k l1,hQ ρ2 H2 v (x1.trans R1 x2) R2 v2⟩
open Classical in
def CL(md my mv:ME):MS:=λls hd=>(mv ls hd).bind λp=>(md ls p.2).bind λq=>(my ls q.2).bind λr=>(Ck r.1).bind λk=>match q.1 with
 |.mu n=>match r.2[n]? with
  |some (.dic kvs)=>if EV kvs.length then some (.nx ls,r.2.set n (.dic (Ca kvs k p.1)))else none
  |_=>none
 |_=>none
def OV{td ty tv:TE}{md my mv:ME}(hd:RE K td md)(hy:RE K ty my)(hv:RE K tv mv):RS K (K7 td ty tv) (CL md my mv):=by
 intro ρ σ H hd0 ls E f hd' hR hL hm hQ;obtain⟨⟨d1,h1⟩,e1,hm⟩:=XG hm;obtain⟨⟨d2,h2⟩,e2,hm⟩:=XG hm;obtain⟨⟨d3,h3⟩,e3,hm⟩:=XG hm;obtain⟨k,e4,hm⟩:=XG hm;dsimp only at hm;split at hm
 .split at hm
  .next q=>
   split at hm
   .next c=>
    cases hm;refine hv ρ σ H hd0 ls _ d1 h1 hR hL e1 λρ1 H1 v1 x1 R1 r1=>?_;refine hd ρ1 σ H1 h1 ls _ _ h2 R1 (hL.ext hR x1) e2 λρ2 H2 v2 x2 R2 r2=>?_;refine hy ρ2 σ H2 h2 ls _ d3 _ R2 (hL.ext hR (x1.trans R1 x2)) e3 λρ3 H3 v3 x3 R3 r3=>?_;have r2:=r2.ext R2 x3;simp only[RD]at r2;obtain⟨a,hn,rfl⟩:=r2;obtain⟨xs,l1,l2⟩:=R3.dic hn q;have:=Gn r3 e4;subst this;obtain⟨R4,x4⟩:=R3.put hn (o:=.dic (Ca _ k d1)) (ho:=.dK (Bf xs k v1)) ⟨_,rfl,l2.put ((r1.ext R1 x2).ext R2 x3)⟩;have x13:=(x1.trans R1 x2).trans R2 x3;exact⟨a,_,rfl,DPut.k l1 (by rw[l2.len];exact c),hQ ρ3 _ (x13.trans R3 x4) R4 σ ((hL.ext hR x13).ext R3 x4)⟩
   .cases hm
  .cases hm
 .cases hm
def Cz:List (ME×ME)->Ls->Hd->Option (List (Key×D)×Hd)
 |[],_,hd=>some ([],hd)
 |(mk,mv)::r,ls,hd=>(mk ls hd).bind λp=>(mv ls p.2).bind λq=>(Cz r ls q.2).bind λz=>(Ck p.1).map λk=>((k,q.1)::z.1,z.2)
def E8(kvs more:List (Key×D)):List (Key×D):=more.foldl (λacc kv=>Ca acc kv.1 kv.2) kvs
theorem RKs.merge:∀{more kvs:List (Key×D)} {ms xs:List (Key×V)},RKs K ρ H more ms->RKs K ρ H kvs xs->RKs K ρ H (E8 kvs more) (Cy xs ms)
 |[],kvs,ms,xs,h,t=>by simp only[RKs]at h;subst h;exact t
 |d::ds,kvs,ms,xs,h,t=>by
  simp only[RKs]at h;obtain⟨x,r,rfl,e,z,q⟩:=h;show RKs K ρ H (E8 (Ca kvs d.1 d.2) ds) (Cy (Bf xs x.1 x.2) r);rw[e];exact q.merge (t.put z)
def RPs(K:PySem.W.Frag):List (TE×TE)->List (ME×ME)->Prop
 |[],[]=>True
 |t::ts,m::ms=>RE K t.1 m.1/\RE K t.2 m.2/\RPs K ts ms
 |_,_=>False
theorem IV:∀{trs:List (TE×TE)} {ms:List (ME×ME)},RPs K trs ms->∀(ρ:List Addr) (σ:St) (H:Hp) (hd:Hd) (ls:Ls) (Q:List (V×V)->Hp->Prop) (kvs:List (Key×D)) (hd':Hd),RH K ρ H hd->RL K ρ H ls σ->Cz ms ls hd=some (kvs,hd') ->
 (∀ρ' H' xs,Ext ρ H ρ' H'->RH K ρ' H' hd'->RKs K ρ' H' kvs xs->Q (xs.map λkv=>(kV kv.1,kv.2)) H')->Eh trs σ H Q
 |[],[],_,ρ,σ,H,hd,ls,Q,kvs,hd',hR,hL,hm,hQ=>by
  cases hm;exact hQ ρ H [] .refl hR (by simp[RKs])
 |(tk,tv)::ts,(mk,mv)::ms,⟨a,b,c⟩,ρ,σ,H,hd,ls,Q,kvs,hd',hR,hL,hm,hQ=>by
   unfold Cz at hm;obtain⟨⟨d1,h1⟩,e1,hm⟩:=XG hm;obtain⟨⟨d2,h2⟩,e2,hm⟩:=XG hm;obtain⟨⟨d3,h3⟩,e3,hm⟩:=XG hm;obtain⟨k,e4,e5⟩:=XH hm;cases e5;unfold Eh;refine a ρ σ H hd ls _ d1 h1 hR hL e1 λρ1 H1 v1 x1 R1 r1=>?_;refine b ρ1 σ H1 h1 ls _ d2 h2 R1 (hL.ext hR x1) e2 λρ2 H2 v2 x2 R2 r2=>?_;refine IV c ρ2 σ H2 h2 ls _ d3 _ R2 (hL.ext hR (x1.trans R1 x2)) e3 λρ3 H3 xs x3 R3 r3=>?_;have:=Gn r1 e4;subst this;exact hQ ρ3 H3 ((k,v2)::xs) ((x1.trans R1 x2).trans R2 x3) R3 (by simp only[RKs];exact⟨_,_,rfl,rfl,r2.ext R2 x3,r3⟩)
 |[],_::_,h,_,_,_,_,_,_,_,_,_,_,_,_=>h.elim
 |_::_,[],h,_,_,_,_,_,_,_,_,_,_,_,_=>h.elim
def G9(ms:List (ME×ME)):ME:=λls hd=>(Cz ms ls hd).bind λp=>if p.1.length<=15 then some (.mu p.2.length,p.2++[.dic (E8 [] p.1)])else none
def RH.nameD(hR:RH K ρ H hd){a:Addr}{xs:List (Key×V)}{kvs:List (Key×D)}(out:a∉ρ){o:HO}(e:H a=some o)(hs:¬ Stb o)(r:RKs K ρ H kvs xs)(h1:∀ps,o≠.tbl ps:=by intro _ z;cases z)(h2:∀φ,o≠.ext φ:=by intro _ z;cases z):RH K (ρ++[a]) (upd H a (.dK xs)) (hd++[.dic kvs]):=by
 have gr:Grow H (upd H a (.dK xs)):=Grow.refl.put λu st z=>hs (by rw[e]at z;cases z;exact st);refine⟨by simp[hR.len],?_,hR.tabs.upd (λps z=>h1 ps (Option.some.inj (e.symm.trans z))) (λps z=>h2 ps (Option.some.inj (e.symm.trans z))),λn o' b e1 e2=>?_⟩
 .rw[List.nodup_append];refine⟨hR.nd,by simp,λx hx y hy z=>?_⟩;simp at hy;subst hy;subst z;exact out hx
 .by_cases hn:n<ρ.length
  .rw[List.getElem?_append_left hn]at e2;rw[List.getElem?_append_left (by rw[<- hR.len];exact hn)]at e1;obtain⟨ho',q1,q2⟩:=hR.ob n o' b e1 e2;have:b≠a:=λz=>out (by rw[<- z];exact mem_of_getElem? e2);exact⟨ho',by rw[AU this];exact q1,q2.mono gr [a]⟩
  .have hn':n=ρ.length:=by
    have:=(List.getElem?_eq_some_iff.mp e2).1;simp at this;omega
   subst hn';simp at e2;rw[hR.len]at e1;simp at e1;subst e1;subst e2;exact⟨_,Ae,⟨xs,rfl,r.mono gr [_]⟩⟩
def On{trs:List (TE×TE)}{ms:List (ME×ME)}(h:RPs K trs ms):RE K (K2 trs) (G9 ms):=by
 and_intros;obtain⟨⟨kvs,h1⟩,e1,hm⟩:=XG hm;dsimp only at hm;split at hm
 .next c=>
  cases hm;intro p hp;obtain⟨R0,x0⟩:=hR.hid (ho:=.dK []) hp;refine IV h ρ σ _ hd ls _ kvs h1 R0 (hL.ext hR x0) e1 λρ1 H1 xs x1 R1 r1=>?_;have hp1:H1 p=some (.dK []):=x1.keep p _ Ae (hR.out hp) nt;have op:p∉ρ1:=by
   obtain⟨r,rfl,fr⟩:=x1.pre;intro z;rcases mem_append.mp z with z|z
   .exact hR.out hp z
   .have:=fr _ z;rw[Ae]at this;cases this
  refine⟨hp1,xs,rfl,by rw[r1.len];exact c,?_⟩;have mm:RKs K ρ1 H1 (E8 [] kvs) (Cy [] xs):=r1.merge (by simp[RKs]);have R2:=R1.nameD op hp1 (λz=>z) mm;have x01:=x0.trans R0 x1;refine hQ (ρ1++[p]) _ _ ?_ R2 ?_
  .obtain⟨r,er,fr⟩:=x01.pre;refine⟨⟨r++[p],by rw[er];simp,λb m=>?_⟩,λb o q nb t=>?_,λb ps q=>?_⟩
   .rcases mem_append.mp m with m|m
    .exact fr b m
    .simp at m;subst m;exact hp
   .have:b≠p:=As q hp;rw[AU this];exact x01.keep b o q nb t
   .have:b≠p:=As q hp;rw[AU this];exact x01.tab b ps q
  .simp only[RD];exact⟨p,by rw[<- R1.len];simp,rfl⟩
 .cases hm
def Um(mo mi mv:ME):MS:=λls hd=>(mv ls hd).bind λp=>(mo ls p.2).bind λq=>(mi ls q.2).bind λr=>match q.1,r.1 with
 |.mu n,.im (.int i)=>match r.2[n]? with
  |some (.lst ds)=>(ixN ds.length i).map λj=>(.nx ls,r.2.set n (.lst (ds.set j p.1)))
  |_=>none
 |_,_=>none
end
end L2
namespace L2
open PySem PySem.Spec PyProof.Rows
structure QG(K:PySem.W.Frag)(X:Cx)(e:Expr)(t:TG)(m:MG):Prop where
 p:PG X e t
 r:RGt K t m
structure QGs(K:PySem.W.Frag)(X:Cx)(e:List Expr)(t:TGs)(m:MGs):Prop where
 p:PGs X e t
 r:J9 K t m
structure QI(K:PySem.W.Frag)(X:Cx)(tg e:Expr)(t:TI)(m:MI):Prop where
 p:PI X tg e t
 r:RIt K t m
structure QF(K:PySem.W.Frag)(X:Cx)(e:List Expr)(t:TT)(m:MT):Prop where
 p:PF X e t
 r:RT K t m
structure QO(K:PySem.W.Frag)(X:Cx)(e:Option Expr)(t:TO)(m:MO1):Prop where
 p:PO X e t
 r:RO1 K t m
structure QPs(K:PySem.W.Frag)(X:Cx)(pos:Pos)(keys:List (Option Expr))(values:List Expr)(t:List (TE×TE))(m:List (ME×ME)):Prop where
 p:PPs X pos keys values t
 r:RPs K t m
def V0(a b:List D):Prop:=a≠[]/\BW (a.length+b.length)
open Classical in
def D8:D->D->Hd->Option (D×Hd):=λd e hd=>(AH d).bind λa=>(AH e).bind λb=>if V0 a b then some (AV (a++b),hd)else none
def JV{K:PySem.W.Frag}:RB K (KD K) D8:=by
 intro ρ H hd d e v u Q z hd' hR h1 h2 hf hQ;unfold D8 at hf;obtain⟨a,e1,hf⟩:=XG hf;obtain⟨b,e2,hf⟩:=XG hf;split at hf
 .next c=>
  cases hf;obtain⟨p,xs,rfl,q1,r1⟩:=h1.tup e1;obtain⟨p2,ys,rfl,q2,r2⟩:=h2.tup e2;have l1:=r1.len;have l2:=r2.len;refine⟨p,p2,xs,ys,rfl,rfl,q1,q2,λz=>c.1 (by rw[z]at l1;simpa using l1.symm),by rw[l1,l2];exact c.2,λz=>?_,λ_ p3 hp=>?_⟩
  .have:b=[]:=by rw[z]at l2;simpa using l2.symm
   subst this;exact hQ ρ H _ .refl hR (by rw[append_nil];exact Bz q1 r1)
  .obtain⟨R2,x2⟩:=hR.hid (ho:=.tup (xs++ys)) hp;exact hQ ρ _ _ x2 R2 (Bz (SqT.of Ae) ((r1.app r2).ext hR x2))
 .cases hf
abbrev AL:=Bh Ik D8
def Gj(neg:Bool)(m:ME):ME:=λls hd=>(m ls hd).bind λp=>some (.im (.bl (match p.1 with
 |.im .non=>!neg
 | _=>neg)),p.2)
def VM{K:PySem.W.Frag}{ρ:List Addr}{H:Hp}{d:D}{v:V}(h:RD K ρ H d v):decide (v=.non)=(match d with|.im .non=>true|_=>false):=by
 cases d with
 |im i=>
  cases i with
  |non=>simp only[RD,RI]at h;subst h;rfl
  |tup is=>simp only[RD,RI]at h;obtain⟨a,xs,rfl,_⟩:=h;rfl
  |_=>simp only[RD,RI]at h;subst h;rfl
 |mu n=>simp only[RD]at h;obtain⟨a,_,rfl⟩:=h;rfl
 |tm ds=>simp only[RD]at h;obtain⟨a,xs,rfl,_⟩:=h;rfl
 |ro ns=>simp only[RD]at h;obtain⟨a,rfl,_⟩:=h;rfl
 |op nm fs ds=>simp only[RD]at h;obtain⟨a,xs,rfl,_⟩:=h;rfl
def Rq{K:PySem.W.Frag}{t:TE}{m:ME}(h:RE K t m):RE K (M5 t) (Gj false m):=by
 and_intros;obtain⟨⟨d1,h1⟩,e1,hm⟩:=XG hm;cases hm;refine h ρ σ H hd ls _ d1 _ hR hL e1 λρ1 H1 v x1 R1 r1=>?_;rw[VM r1];refine hQ ρ1 H1 _ x1 R1 ?_;simp only[RD,RI];cases d1 with
 |im i=>cases i<;>rfl
 |_=>rfl
def BD(m:ME):ME:=λls hd=>(m ls hd).bind λp=>match p.1 with
 |.im (.int i)=>some (.im (.int (-i)),p.2)
 |_=>none
def Rn{K:PySem.W.Frag}{t:TE}{m:ME}(h:RE K t m):RE K (tUn (rU λi=>.int (-i)) t) (BD m):=by
 and_intros;obtain⟨⟨d1,h1⟩,e1,hm⟩:=XG hm;dsimp only at hm;split at hm
 .cases hm;exact h ρ σ H hd ls _ _ _ hR hL e1 λρ1 H1 v x1 R1 r1=>⟨_,by simpa only[RD,RI]using r1,hQ ρ1 H1 _ x1 R1 (by simp[RD,RI])⟩
 .cases hm
def Gg:MT:=λ_ hd=>some (true,hd)
def RJ{K:PySem.W.Frag}:RT K Lx Gg:=by
 and_intros;cases hm;exact hQ ρ H .refl hR
section
variable(K:PySem.W.Frag){X:Cx}{a b c e:Expr}{es:List Expr}{ta tb tc te:TE}{ma mb mc me:ME}{tA tB':TT}{nA nB:MT}{t:TA}{m:MA}{pos:Pos}{x:Str}
def qv(i:Nat){x:Str}{pos:Pos}(hN:X.N[i]?=some x:=by rfl)(hv:Vis X.env.scope x:=by first|exact Or.inl rfl|exact Or.inr (Or.inl rfl)|exact Or.inr (Or.inr rfl))(hd:(x==("__debug__":Str))=false:=by decide)
 (hcd:(x==("__classdict__":Str))=false:=by decide):QE K X (.Name x pos) (Jv i) (A2 i):=⟨LG hN hv hd hcd,Ri⟩
def SX{i:Int}{j pos}:QE K X (.Constant (.int i) j pos) (tC (.int i)) (mC (.int i)):=⟨Sy,K9 λ_=>by simp[RI]⟩
def UX{i:Bool}{j pos}:QE K X (.Constant (.bool i) j pos) (tC (.bl i)) (mC (.bl i)):=⟨Ud,K9 λ_=>by simp[RI]⟩
def SS{j pos}:QE K X (.Constant .none j pos) (tC .non) (mC .non):=⟨Sv,K9 λ_=>by simp[RI]⟩
def SM{x:Str}{j pos}:QE K X (.Constant (.str x) j pos) (tC (.str x)) (mC (.str x)):=⟨Sr,K9 λ_=>by simp[RI]⟩
def Cq{op:Operator}{r:R2}{f:D->D->Hd->Option (D×Hd)}(ho:OpR X (binaryOp op) r)(hr:RB K r f)(ha:QE K X a ta ma)(hb:QE K X b tb mb):QE K X (.BinOp a op b pos) (tOp r ta tb) (mOp f ma mb):=⟨Nj ho ha.p hb.p,Hh hr ha.r hb.r⟩
def SV(ha:QE K X a ta ma):QE K X (.UnaryOp .USub a pos) (tUn (rU λi=>.int (-i)) ta) (BD ma):=⟨Ub Qn ha.p,Rn ha.r⟩
def IU{op:CmpOp}{r:R2}{f:D->D->Hd->Option (D×Hd)}(ho:OpR X (compareOp op) r)(hr:RB K r f)(ha:QE K X a ta ma)(hb:QE K X b tb mb)(hm:behindInMarks op b=false:=by first|exact G8 _|rfl):QE K X (.Compare a [op] [b] pos) (tOp r ta tb) (mOp f ma mb):=⟨Pt ho ha.p hb.p hm,Hh hr ha.r hb.r⟩
def E3{op:CmpOp}{r:R2}{f:D->D->Hd->Option (D×Hd)}(ho:OpR X (compareOp op) r)(hr:RB K r f)(ha:QE K X a ta ma)(hb:QE K X b tb mb)(hm:behindInMarks op b=false:=by first|exact G8 _|rfl):QT K X (.Compare a [op] [b] pos) (Fs (tOp r ta tb)) (AE (mOp f ma mb)):=⟨Ga ho ha.p hb.p hm,DG (Hh hr ha.r hb.r)⟩
def S6{j pos'}(ha:QE K X a ta ma):QT K X (.Compare a [.Is] [.Constant .none j pos'] pos) (tB (M5 ta)) (AE (Gj false ma)):=⟨Sd (T3 ha.p),VH (Rq ha.r)⟩
def Md(ha:QE K X a ta ma)(he:∀whole,isTrue a X.env whole=(do let v <- whole;standAt a.pos;holding [v] (truthy v)):=by intro _;rfl)(hK:X.K=K:=by rfl):
 QT K X a (λσ H Q=>ta σ H λx H'=>∃k,J8 K x H' k/\Q k H') (BR ma):=by
 subst hK;exact⟨Mm ha.p he,MJ ha.r⟩
def S5(ha:QT K X a tA nA):QT K X (.UnaryOp .Not a pos) (M2 tA) (CA nA):=⟨Sc ha.p,RK ha.r⟩
def Ox(ha:QT K X a tA nA):QW K X (.BoolOp .And [a] pos) tA nA:=⟨PV ha.p,ha.r⟩
def S3(ha:QT K X a tA nA):QW K X (.BoolOp .Or [a] pos) tA nA:=⟨Sa ha.p,ha.r⟩
def S4{rest:List Expr}(ha:QT K X a tA nA)(hb:QW K X (.BoolOp .And (b::rest) pos) tB' nB):QW K X (.BoolOp .And (a::b::rest) pos) (M9 tA tB') (DV nA nB):=⟨Sb ha.p hb.p,RO ha.r hb.r⟩
def UT{rest:List Expr}(ha:QT K X a tA nA)(hb:QW K X (.BoolOp .Or (b::rest) pos) tB' nB):QW K X (.BoolOp .Or (a::b::rest) pos) (tOr tA tB') (mOr nA nB):=⟨UY ha.p hb.p,UL ha.r hb.r⟩
def QW.toT{K:PySem.W.Frag}{X:Cx}{e:Expr}{t:TT}{m:MT}(h:QW K X e t m):QT K X e t m:=⟨h.p.pt,h.r⟩
def SQ{op}(ha:QE K X a ta ma):QE K X (.BoolOp op [a] pos) ta ma:=⟨Ss ha.p,ha.r⟩
def SY{rest:List Expr}(ha:QE K X a ta ma)(hb:QE K X (.BoolOp .And (b::rest) pos) tb mb):QE K X (.BoolOp .And (a::b::rest) pos) (K4 ta tb) (C4 ma mb):=⟨T1 ha.p hb.p,Op ha.r hb.r⟩
def SR(ha:QE K X a ta ma):QE K X (.UnaryOp .Not a pos) (K0 ta) (D6 ma):=⟨Su ha.p,Ol ha.r⟩
def Mj(hc:QT K X c tA nA)(ha:QE K X a ta ma)(hb:QE K X b tb mb):QE K X (.IfExp c a b pos) (tIf tA ta tb) (mIf nA ma mb):=⟨Mt hc.p ha.p hb.p,UP hc.r ha.r hb.r⟩
def SZ:QA K X [] DM A7:=⟨IX,L9⟩
def PU(ha:QE K X e te me)(hr:QA K X es t m)(hs:starEach (e::es) X.env=(false,eval e X.env)::starEach es X.env:=by rfl):QA K X (e::es) (EK te t) (A1 me m):=⟨Gb ha.p hr.p hs,Ov ha.r hr.r⟩
def SL{x1}(h:QA K X es t m):QE K X (.Tuple es x1 pos) (Ly t) (AG m):=⟨Sq h.p,Rk h.r⟩
def SE(h:QA K X es t m):QN K X (.List es pos) (M3 t) (Ak m):=⟨Sw h.p,RZ h.r⟩
def SU(h:QN K X e te m):QE K X e te (Ah m):=⟨h.p,L0 h.r⟩
def UW(ha:QE K X a ta ma)(hb:QE K X b tb mb)(hs:HB b:=by exact λ_ _=>rfl)(hK:X.K=K:=by rfl):QE K X (.Subscript a b pos) (tOp (Hj K) ta tb) (mOp gIx ma mb):=⟨Nk ((Ie K hK).or (Jd K hK)) ha.p hb.p hs,Hh UR ha.r hb.r⟩
def PR(hu:X.A.units+1<cLine)(ha:QE K X a ta ma)(hb:QE K X b tb mb)(hs:NK b:=by exact λ_ _=>rfl):QE K X (.Subscript a b pos) (K3 ta tb) (mOp BV ma mb):=⟨Pr hu ha.p hb.p hs,Oo ha.r hb.r⟩
def P9:QO K X none GS AT:=⟨Ph,Oa⟩
def P8(h:QE K X e te me):QO K X (some e) (Jy te) (Aa me):=⟨Pf h.p,OZ h.r⟩
def SD{lo hi:Option Expr}{tl th:TO}{ml mh:MO1}{p2:Pos}(h:QE K X e te me)(hl:QO K X lo tl ml)(hh:QO K X hi th mh)(hK:X.K=K:=by rfl):QN K X (.Subscript e (.Slice lo hi none p2) pos) (tSl (KB K) te tl th) (Gh me ml mh):=⟨FY (MB K hK) h.p hl.p hh.p,RY h.r hl.r hh.r⟩
def FB{id:String}{p:Pos}{r:List V->Hp->VK->Prop}{f:List D->Hd->Option (D×Hd)}(hc:Ba X (.builtin id) r)(hr:RF K r f)(hm:X.mg x=none)(hv:bootBuiltins x=some (.builtin id))(ha:QA K X (e::es) t m)(hg:Gl X x:=by rfl)(hn:x≠"__name__":=by decide)(hdb:(x==("__debug__":Str))=false:=by decide)
 (he:starEach (e::es) X.env=(false,eval e X.env)::starEach es X.env:=by rfl) (hpl:(backTo pos (starEach es X.env)).any (·.1)=false:=by rfl):QE K X (.Call (.Name x p) (e::es) [] pos) (tCB r t) (mCB f m):=⟨Mu hc hg hm hv ha.p hn hdb he hpl,Nb hr ha.r⟩
def Ni{id:String}{p:Pos}{r:List V->Hp->VK->Prop}{f:List D->Hd->Option (D×Hd)}(hc:Ba X (.type id) r)(hr:RF K r f)(hm:X.mg x=none)(hv:bootBuiltins x=some (.type id))(ha:QA K X (e::es) t m)(hg:Gl X x:=by rfl)(hn:x≠"__name__":=by decide)(hdb:(x==("__debug__":Str))=false:=by decide)
 (he:starEach (e::es) X.env=(false,eval e X.env)::starEach es X.env:=by rfl) (hpl:(backTo pos (starEach es X.env)).any (·.1)=false:=by rfl):QE K X (.Call (.Name x p) (e::es) [] pos) (tCB r t) (mCB f m):=⟨En hc hg hm hv ha.p hn hdb he hpl,Nb hr ha.r⟩
def PD{p:Pos}(hm:X.mg "list"=none)(ha:QE K X e te me)(hg:Gl X "list":=by rfl)(he:starEach [e] X.env=[(false,eval e X.env)]:=by rfl)(hK:X.K=K:=by rfl):QN K X (.Call (.Name "list" p) [e] [] pos) (tCB (E2 K) (EK te DM)) (De me):=⟨En (GG K hK) hg hm Jk (Gb ha.p IX he) (by decide) (by decide) he rfl,Ob ha.r⟩
def Mh{p:Pos}(hm:X.mg "list"=none)(ha:QN K X e te m)(hg:Gl X "list":=by rfl)(he:starEach [e] X.env=[(false,eval e X.env)]:=by rfl)(hK:X.K=K:=by rfl):QN K X (.Call (.Name "list" p) [e] [] pos) (tCB (E2 K) (EK te DM)) (E9 m):=⟨En (GG K hK) hg hm Jk (Gb ha.p IX he) (by decide) (by decide) he rfl,ML ha.r⟩
def UV{id:String}{r:V->List V->Hp->VK->Prop}{f:D->List D->Hd->Option (D×Hd)}{name:Str}{apos cpos:Pos}{o:Expr}{to:TE}{mo:ME}(slot:Slot "list" name id)(hty:typeOf (.builtin id)=pure (.type "method_descriptor"))(hm:MtM X id r)(hr:RM K r f)(ho:QE K X o to mo)(ha:QA K X (e::es) t m)
 (hbase:attributeBase o name X.env (eval o X.env)=eval o X.env:=by rfl)
 (hfew:((backTo cpos (starEach (e::es) X.env)).all (λx=>!x.1)&&(backToKw cpos (keywordEach [] X.env)).all (λx=>x.1.isSome)
  && decide ((e::es).length+([]:List Keyword).length+(if([]:List Keyword).isEmpty then 0 else 1)<30))=true:=by rfl)
 (hline:(apos.endLine==cpos.line)=true:=by rfl) (hs:starEach (e::es) X.env=(false,eval e X.env)::starEach es X.env:=by rfl) (hplain:(backTo cpos (starEach es X.env)).any (·.1)=false:=by rfl) (hK:X.K=K:=by rfl):
 QE K X (.Call (.Attribute o name apos) (e::es) [] cpos) (tBM K "list" r to t) (mMt f mo m):=by
 subst hK;exact⟨Uc PySem.F.plainAttrs_list slot hty hm ho.p ha.p hbase hfew hline hs hplain,UO hr ho.r ha.r⟩
def Mk(w:Nat){j k:Nat}{f:Addr}{fd:FuncData}{ps:List Str}{n:Nat}{F:List D->Hd->Option (D×Hd)}{st:Stmt}{p:Pos}(G:FnOk X.prog X.w X.K X.mg X.base CX0 j f fd ps (spF K n F))(hr:Room k X.A)(DA:DefAt X.K X.mg x st f fd ps)(ha:QA K X (e::es) t m)(hF:∀ds hd z,F ds hd=some z->ds.length=n)
 (hjk:j<=k:=by decide) (hg:Gl X x:=by rfl) (hdb:(x==("__debug__":Str))=false:=by decide) (he:starEach (e::es) X.env=(false,eval e X.env)::starEach es X.env:=by rfl) (hpl:(backTo pos (starEach es X.env)).any (·.1)=false:=by rfl):
 QE K X (.Call (.Name x p) (e::es) [] pos) (CI (spF K n F) [] E0 t) (AA w F m):=⟨Nl G hr DA ha.p hjk hg hdb he hpl,IS ha.r hF⟩
def Ml{j k:Nat}{f:Addr}{fd:FuncData}{ps:List Str}{n:Nat}{F:List D->Hd->Option (D×Hd)}{st:Stmt}{p:Pos}(G:FnOk X.prog X.w X.K X.mg X.base CX0 j f fd ps (spF K n F))(hr:Room k X.A)(DA:DefAt X.K X.mg x st f fd ps)(ha:QA K X (e::es) t m)(hF:∀ds hd z,F ds hd=some z->ds.length=n)
 (hjk:j<=k:=by decide) (hg:Gl X x:=by rfl) (hdb:(x==("__debug__":Str))=false:=by decide) (he:starEach (e::es) X.env=(false,eval e X.env)::starEach es X.env:=by rfl) (hpl:(backTo pos (starEach es X.env)).any (·.1)=false:=by rfl):
 QE K X (.Call (.Name x p) (e::es) [] pos) (CI (spF K n F) [] E0 t) (Ag F m):=⟨Nl G hr DA ha.p hjk hg hdb he hpl,MR ha.r hF⟩
def P7{pos:Pos}:QPs K X pos [] [] [] []:=⟨Pe,trivial⟩
def Mg{pos:Pos}{k v:Expr}{ks:List (Option Expr)}{vs:List Expr}{tk tv:TE}{mk mv:ME}{trs:List (TE×TE)}{ms:List (ME×ME)}(hk:QE K X k tk mk)(hv:QE K X v tv mv)(hr:QPs K X pos ks vs trs ms):QPs K X pos (some k::ks) (v::vs) ((tk,tv)::trs) ((mk,mv)::ms):=⟨Mp hk.p hv.p hr.p,hk.r,hv.r,hr.r⟩
def PQ{pos:Pos}{keys:List (Option Expr)}{values:List Expr}{trs:List (TE×TE)}{ms:List (ME×ME)}(h:QPs K X pos keys values trs ms)(hall:keys.all (·.isSome)=true:=by rfl)(hl:keys.length=values.length:=by rfl)(h0:keys≠[]:=by simp)
 (h15:keys.length<=15:=by decide):QE K X (.Dict keys values pos) (K2 trs) (G9 ms):=⟨Pq h.p hall hl h0 h15,On h.r⟩
def PM{i:Nat}(hN:X.N.Nodup)(hi:X.N[i]?=some x)(hx:Loc X.env.scope x)(hf:X.fn x=true∨X.env.scope.names.lookup x=some .local:=by first|exact .inl rfl|exact .inr rfl|assumption):QG K X (.Name x pos) (Cs i) (Au i):=⟨Pn hN hi hx hf,GX⟩
def PL:QGs K X [] NA Do:=⟨Pl,Oe⟩
def Mi{tg:TG}{tgs:TGs}{n:MG}{ns:MGs}(h1:QG K X e tg n)(h2:QGs K X es tgs ns)(hs:(assignEach (e::es) X.env).map (·.2)=assign e X.env::(assignEach es X.env).map (·.2):=by rfl):QGs K X (e::es) (KR tg tgs) (BY n ns):=⟨Ms h1.p h2.p hs,MN h1.r h2.r⟩
def SH{k n:Nat}{tgs:TGs}{ns:MGs}(hc:X.calm=true)(h:QGs K X es tgs ns)(hK:X.K=K:=by rfl)(hn:(assignEach es X.env).length=n:=by rfl)(hst:(assignEach es X.env).findIdx? (·.1)=none:=by rfl):QG K X (.Tuple es k pos) (KQ K n tgs) (DU n ns):=⟨Pm K hc h.p hK hn hst,Rc h.r⟩
def SG{tg:Expr}(h:QE K X e te me)(hK:X.K=K:=by rfl):QI K X tg e (KN K te) (Er me):=⟨Pj K h.p hK,Rb h.r⟩
def PK{tg:Expr}(h:QE K X e te me)(hK:X.K=K:=by rfl):QI K X tg e (Hr K te) (Gi me):=⟨Mr K h.p hK,Od h.r⟩
def PJ{tg:Expr}{p:Pos}(hm:X.mg "range"=none)(ha:QA K X [a] t m)(hg:Gl X "range":=by rfl)(hs:starEach [a] X.env=[(false,eval a X.env)]:=by rfl):QI K X tg (.Call (.Name "range" p) [a] [] pos) (KO t) (Dp m):=⟨LF hg hm ha.p hs,Oc ha.r⟩
def SJ:QF K X [] Lx Gg:=⟨So,RJ⟩
def SI(h:QT K X c tA nA):QF K X [c] tA nA:=⟨Sn h.p,h.r⟩
def PH{elt tg iter:Expr}{ifs:List Expr}{scope:Scope}{loc fr:List Str}{ix:List Nat}{wi:TI}{g:TG}{tf:TT}{te:TE}{mi:MI}{n:MG}{mf:MT}{mm:ME}(hc:X.calm=true)(S:CSc X scope fr ix)(hi:QI K X tg iter wi mi)
 (hg:∀s H ex,QG K (cCx X (loc++fr) scope s H ex) tg g n) (hf:∀s H ex,QF K (cCx X (loc++fr) scope s H ex) ifs tf mf) (he:∀s H ex,QE K (cCx X (loc++fr) scope s H ex) elt te mm)
 (hs:∀x,foldedSetIterable iter X.env x=pure x:=by intro _;rfl):QN K X (.ListComp elt [⟨tg,iter,ifs,0⟩] scope pos) (EL loc.length ix wi g tf te) (Cr loc.length ix mi n mf mm):=
 ⟨Ps hc S hi.p (λs H ex=>(hg s H ex).p) (λs H ex=>(hf s H ex).p) (λs H ex=>(he s H ex).p) hs,JT hi.r (hg X.s₀ X.H₀ []).r (hf X.s₀ X.H₀ []).r (he X.s₀ X.H₀ []).r⟩
def P1:QSs K X [] Ft Ab:=⟨PY,JS⟩
def Me{st:Stmt}{rest:List Stmt}{u v:TS}{m1 m2:MS}(h1:QS K X st u m1)(h2:QSs K X rest v m2):QSs K X (st::rest) (Lz u v) (AB m1 m2):=⟨Mn h1.p h2.p,RP h1.r h2.r⟩
def P0{st:Stmt}{u:TS}{m1:MS}(h1:QS K X st u m1):QSs K X [st] u m1:=⟨PX h1.p,h1.r⟩
def P3:QS K X (.Pass pos) Ft Ab:=⟨Pa,JS⟩
def P5(he:QE K X e te me)(hs:swapsWith e none pos.line X.env=pure false:=by rfl):QS K X (.Expr e pos) (K1 te) (FC me):=⟨Pc he.p hs,OU he.r⟩
def S8(he:QE K X e te me):QS K X (.Return (some e) pos) (M0 te) (AJ me):=⟨Sf he.p,RQ he.r⟩
def UU{a b:List Stmt}{u v:TS}{m1 m2:MS}(hc:QT K X c tA nA)(ha:QSs K X a u m1)(hb:QSs K X b v m2):QS K X (.If c a b pos) (M6 tA u v) (Ai nA m1 m2):=⟨Ua hc.p ha.p hb.p,UM hc.r ha.r hb.r⟩
def SC{tg:Expr}{g:TG}{n:MG}(he:QE K X e te me)(hg:QG K X tg g n)(hs:swapsWithSole [tg] e pos.line X.env=pure false:=by rfl)(hw:swappedStores [tg] e X.env=pure none:=by rfl)
 (h1:(assignEach [tg] X.env).map (·.2)=[assign tg X.env]:=by rfl):QS K X (.Assign [tg] e pos) (EM te g) (Es me n):=⟨Si he.p hg.p hs hw h1,IN he.r hg.r⟩
def S7{i:Nat}{pos':Pos}(hN:X.N.Nodup)(hi:X.N[i]?=some x)(hx:Loc X.env.scope x)(he:QE K X e te me)(hs:swapsWith e (some (.Name x pos')) pos.line X.env=pure false:=by rfl)(hf:X.fn x=true∨X.env.scope.names.lookup x=some .local:=by first|exact .inl rfl|exact .inr rfl|assumption):
 QS K X (.Assign [.Name x pos'] e pos) (EM te (Cs i)) (AR i me):=⟨Se hN hi hx he.p hs hf,IN he.r GX⟩
def P2{i:Nat}{y:Str}{elt tg iter:Expr}{ifs:List Expr}{scope:Scope}{spos py:Pos}{loc fr:List Str}{ix:List Nat}{wi:TI}{g:TG}{tf:TT}{te:TE}{mi:MI}{n:MG}{mf:MT}{mm:ME}(hN:X.N.Nodup)(hiN:X.N[i]?=some y)(hy:X.env.scope.names.lookup y=some .local)
 (hc:X.calm=true) (S:CSc X scope fr ix) (hi:QI K X tg iter wi mi)
 (hg:∀s H ex,QG K (cCx X (loc++fr) scope s H ex) tg g n) (hf:∀s H ex,QF K (cCx X (loc++fr) scope s H ex) ifs tf mf) (he:∀s H ex,QE K (cCx X (loc++fr) scope s H ex) elt te mm)
 (hsw:swapsWith (.ListComp elt [⟨tg,iter,ifs,0⟩] scope pos) (some (.Name y py)) spos.line X.env=pure true:=by rfl) (hs:∀x,foldedSetIterable iter X.env x=pure x:=by intro _;rfl):
 QS K X (.Assign [.Name y py] (.ListComp elt [⟨tg,iter,ifs,0⟩] scope pos) spos) (EM (EL loc.length ix wi g tf te) (Cs i)) (AR i (Ah (Cr loc.length ix mi n mf mm))):=
 ⟨PZ hN hiN hy hc S hi.p (λs H ex=>(hg s H ex).p) (λs H ex=>(hf s H ex).p) (λs H ex=>(he s H ex).p) hsw hs,IN (L0 (JT hi.r (hg X.s₀ X.H₀ []).r (hf X.s₀ X.H₀ []).r (he X.s₀ X.H₀ []).r)) GX⟩
def S9{i j:Nat}{x y:Str}{a b:Expr}{px py pt:Pos}{kt k2 pt2}(hc:X.calm=true)(hN:X.N.Nodup)(hi:X.N[i]?=some x)(hj:X.N[j]?=some y)(hij:i≠j)
 (hx:X.env.scope.names.lookup x=some .local) (hy:X.env.scope.names.lookup y=some .local) (ha:QA K X [a,b] t m)
 (hw:swappedStores [.Tuple [.Name x px,.Name y py] kt pt] (.Tuple [a,b] k2 pt2) X.env=pure (some [x,y]):=by rfl)
 (hs:swapsWithSole [.Tuple [.Name x px,.Name y py] kt pt] (.Tuple [a,b] k2 pt2) pos.line X.env=pure false:=by rfl):
 QS K X (.Assign [.Tuple [.Name x px,.Name y py] kt pt] (.Tuple [a,b] k2 pt2) pos) (M1 i j t) (C9 [i,j] m):=⟨Sg hc hN hi hj hij hx hy ha.p hw,RU ha.r⟩
def P4{i j k:Nat}{x y z:Str}{a b c:Expr}{px py pz pt:Pos}{kt k2 pt2}(hc:X.calm=true)(hN:X.N.Nodup)(hi:X.N[i]?=some x)(hj:X.N[j]?=some y)(hk:X.N[k]?=some z)
 (hx:X.env.scope.names.lookup x=some .local) (hy:X.env.scope.names.lookup y=some .local) (hz:X.env.scope.names.lookup z=some .local) (ha:QA K X [a,b,c] t m)
 (hw:swappedStores [.Tuple [.Name x px,.Name y py,.Name z pz] kt pt] (.Tuple [a,b,c] k2 pt2) X.env=pure (some [x,y,z]):=by rfl)
 (hs:swapsWithSole [.Tuple [.Name x px,.Name y py,.Name z pz] kt pt] (.Tuple [a,b,c] k2 pt2) pos.line X.env=pure false:=by rfl):
 QS K X (.Assign [.Tuple [.Name x px,.Name y py,.Name z pz] kt pt] (.Tuple [a,b,c] k2 pt2) pos) (Jz i j k t) (Dd i j k m):=⟨Pb hc hN hi hj hk hx hy hz ha.p hw hs,OT ha.r⟩
def P6{o i value:Expr}{pos':Pos}{td ty tv:TE}{md my mv:ME}(hu:X.A.units+1<cLine)(ho:QE K X o td md)(hi:QE K X i ty my)(hv:QE K X value tv mv)(hs:swapsWith value (some (.Subscript o i pos')) pos.line X.env=pure false:=by rfl):
 QS K X (.Assign [.Subscript o i pos'] value pos) (K7 td ty tv) (CL md my mv):=⟨Pd hu ho.p hi.p hv.p hs,OV ho.r hi.r hv.r⟩
def SA{tg iter:Expr}{body:List Stmt}{wi:TI}{g:TG}{tb:TS}{mi:MI}{n:MG}{mb:MS}(hc:X.calm=true)(hi:QI K X tg iter wi mi)(hg:QG K X tg g n)(hb:QSs K X body tb mb)(hp:PassesOwn (model X.prog X.w) X.A X.env X.xe:=by exact PassesOwn.never)
 (hs:∀x,foldedSetIterable iter X.env x=pure x:=by intro _;rfl):QS K X (.For tg iter body [] pos) (M7 wi g tb) (D0 mi n mb):=⟨Sh hp hc hi.p hg.p hb.p hs,RV hi.r hg.r hb.r⟩
def Mf{body:List Stmt}{tb:TS}{mb:MS}(hc:QT K X c tA nA)(hb:QSs K X body tb mb)(hp:PassesOwn (model X.prog X.w) X.A X.env X.xe:=by exact PassesOwn.never):QS K X (.While c body [] pos) (IE tA tb) (BZ nA mb):=⟨Mo hp hc.p hb.p,MK hc.r hb.r⟩
end
def Q1{P:Program}{w:World}{K:PySem.W.Frag}{mg:Str->Option Value}{base:Heap}{x:Str}{st:Stmt}{f:Addr}{fd:FuncData}{N ps:List Str}{j:Nat}{m:MS}(DA:DefAt K mg x st f fd ps)(S:FnScope N ps (AD st))
 (h:∀(cdv:Value) (A:Around) (outer:List Env) (s:Shared) (H:Hp) (E:XK),Room j (A.deeper (envOfC x (AD st) s.heap.objs.size f cdv))->∃t,QSs K (F0 CX0 P w K mg base N x (AD st) f cdv A outer s H E).nox (BM st) t m):
 FnOk P w K mg base CX0 (j+1) f fd ps (spF K ps.length (mkF ps.length N.length m)):=by
 refine DA.fn.ok S (λvs H Q E h=>h.1) (λcdv A outer s H vs Q E hr hs=>?_);obtain⟨t,q⟩:=h cdv A outer s H E hr;exact⟨t,q.p,OI q.r hs⟩
section
variable{K:PySem.W.Frag}
def Bu(ml:MA)(mb:ME):ME:=λls hd=>(ml ls hd).bind λp=>(mb ls p.2).bind λq=>match q.1 with
 |.im (.int i)=>(atI p.1 i).map (·,q.2)
 |_=>none
def Ro{ta tb:TE}{ml:MA}{mb:ME}(ha:RN K ta ml)(hb:RE K tb mb):RE K (tOp (Hj K) ta tb) (Bu ml mb):=by
 and_intros;obtain⟨⟨d1,h1⟩,e1,hm⟩:=XG hm;obtain⟨⟨d2,h2⟩,e2,hm⟩:=XG hm;dsimp only at hm;split at hm
 .obtain⟨w,e3,e4⟩:=XH hm;cases e4;refine ha ρ σ H hd ls _ d1 h1 hR hL e1 λρ1 H1 a xs x1 R1 na oa ea r1=>?_;refine hb ρ1 σ H1 h1 ls _ _ _ R1 (hL.ext hR x1) e2 λρ2 H2 v2 x2 R2 r2=>?_;simp only[RD,RI]at r2;subst r2;have r1':=r1.ext R1 x2;obtain⟨j,j1,j2⟩:=Jn r1'.len e3;obtain⟨x,y1,y2⟩:=r1'.get j1;exact .inl ⟨a,xs,_,x,rfl,rfl,SqL.of (x2.keep a _ ea oa nt),j2 x y1,hQ ρ2 H2 x (x1.trans R1 x2) R2 y2⟩
 .cases hm
def Ip(neg:Bool)(x y:PyData)(hd:Hd):Option (D×Hd):=if x.canLay0=true/\y.canLay0=true/\min x.depth y.depth<=60 then some (.im (.bl (if neg then !PyData.eqv x y else PyData.eqv x y)),hd)else none
def D7(neg:Bool)(ma:ME)(ml:MA):ME:=λls hd=>(ma ls hd).bind λp=>(ml ls p.2).bind λq=>(pyD q.2 p.1).bind λx=>(B4 q.1).bind λis=>Ip neg x (.list (I.pys is)) q.2
def rEN(K:PySem.W.Frag)(neg:Bool):R2:=λx y H Q=>∃d e,Rep K H d x/\Rep K H e y/\d.canLay0=true/\e.canLay0=true/\min d.depth e.depth<=60/\Q (.bl (if neg then !PyData.eqv d e else PyData.eqv d e)) H
def Oh{ρ:List Addr}{H:Hp}{a:Addr}{xs:List V}{ds:List D}{is:List I}(ea:H a=some (.lst xs))(r:RDs K ρ H ds xs)(e:B4 ds=some is):Rep K H (.list (I.pys is)) (.ref a):=by
 rw[Cm e]at r;simp only[Rep];exact⟨a,xs,rfl,SqL.of ea,r.is.rep⟩
def Om{neg:Bool}{ta tb:TE}{ma:ME}{ml:MA}(ha:RE K ta ma)(hb:RN K tb ml):RE K (tOp (rEN K neg) ta tb) (D7 neg ma ml):=by
 and_intros;obtain⟨⟨d1,h1⟩,e1,hm⟩:=XG hm;obtain⟨⟨d2,h2⟩,e2,hm⟩:=XG hm;obtain⟨x,e3,hm⟩:=XG hm;obtain⟨is,e4,hm⟩:=XG hm;unfold Ip at hm;split at hm
 .next c=>
  cases hm;refine ha ρ σ H hd ls _ d1 h1 hR hL e1 λρ1 H1 v x1 R1 r1=>?_;refine hb ρ1 σ H1 h1 ls _ d2 _ R1 (hL.ext hR x1) e2 λρ2 H2 a xs x2 R2 na oa ea r2=>?_;exact⟨_,_,Cj R2 (r1.ext R1 x2) e3,Oh ea r2 e4,c.1,c.2.1,c.2.2,hQ ρ2 H2 _ (x1.trans R1 x2) R2 (by simp[RD,RI])⟩
 .cases hm
end
def T6(K:PySem.W.Frag){X:Cx}(hu:X.A.units+64<cLine)(hK:X.K=K:=by rfl):OpR X (compareOp .NotEq) (rEN K true):=Gc K hu hK
section
variable(K:PySem.W.Frag){X:Cx}{a b e:Expr}{ta tb te:TE}{ma mb me:ME}{m mk:MA}{pos:Pos}{op:CmpOp}{neg:Bool}
def SW(ha:QN K X a ta m)(hb:QE K X b tb mb)(hs:HB b:=by exact λ_ _=>rfl)(hK:X.K=K:=by rfl):QE K X (.Subscript a b pos) (tOp (Hj K) ta tb) (Bu m mb):=⟨Nk ((Ie K hK).or (Jd K hK)) ha.p hb.p hs,Ro ha.r hb.r⟩
def Oz(ho:OpR X (compareOp op) (rEN K neg))(ha:QE K X a ta ma)(hb:QN K X b tb m)(hm:behindInMarks op b=false:=by first|exact G8 _|rfl):QT K X (.Compare a [op] [b] pos) (Fs (tOp (rEN K neg) ta tb)) (AE (D7 neg ma m)):=⟨Ga ho ha.p hb.p hm,DG (Om ha.r hb.r)⟩
end
section
variable{K:PySem.W.Frag}
open Classical in
def N3(m:MA):MA:=λls hd=>(m ls hd).bind λp=>match p.1 with
 |[.im (.int j)]=>if Na j then some (AY 0 j.toNat,p.2)else none
 |[.im (.int i),.im (.int j)]=>if NZ i j then some (AY i (j-i).toNat,p.2)else none
 |_=>none
def Uk(m:MA):ME:=λls hd=>(N3 m ls hd).bind λp=>some (AV p.1,p.2)
def NU(xs:List Int):List Int:=xs.mergeSort (λa b=>decide (a<=b))
def QD(m:MI):MA:=λls hd=>(m ls hd).bind λp=>(FF p.1.1).bind λns=>if ns.length<64 then some ((NU ns).map λi=>.im (.int i),p.2)else none
end
end L2
namespace L2
structure BltA(mg:PySem.Str->Option PySem.Value):Prop where
 list:mg "list"=none
 tuple:mg "tuple"=none
 len:mg "len"=none
 range:mg "range"=none
 repr:mg "repr"=none
 sum:mg "sum"=none
 min:mg "min"=none
 max:mg "max"=none
 abs:mg "abs"=none
 all:mg "all"=none
 any:mg "any"=none
 sorted:mg "sorted"=none
 zip:mg "zip"=none
 isinstance:mg "isinstance"=none
 int:mg "int"=none
 bool:mg "bool"=none
 str:mg "str"=none
 set:mg "set"=none
 enumerate:mg "enumerate"=none
 reversed:mg "reversed"=none
 dict:mg "dict"=none
end L2
namespace L2
open PySem PySem.Spec PyProof.Rows
section
variable{ls:Ls}{hd:Hd}{a b c:MS}{ma mb mc:ME}{ta tb:MT}{m m1 m2:MA}{n:MG}{ns:MGs}{d e:D}
@[simp] theorem Ts:AB a b ls hd=(a ls hd).bind λp=>match p.1 with
 |.nx ls1=>b ls1 p.2
 |f=>some (f,p.2):=rfl
@[simp] theorem Vz:Ab ls hd=some (.nx ls,hd):=rfl
@[simp] theorem W5:FC ma ls hd=(ma ls hd).bind λp=>some (.nx ls,p.2):=rfl
@[simp] theorem WX:AJ ma ls hd=(ma ls hd).bind λp=>some (.rt p.1,p.2):=rfl
@[simp] theorem Vu:Ul ls hd=some (.rt (.im .non),hd):=rfl
@[simp] theorem Ve:TW ls hd=some (.bk ls,hd):=rfl
@[simp] theorem W9:Up ls hd=some (.ct ls,hd):=rfl
@[simp] theorem Wf:Ai ta a b ls hd=(ta ls hd).bind λp=>if p.1=true then a ls p.2 else b ls p.2:=rfl
@[simp] theorem LZ:Es ma n ls hd=(ma ls hd).bind λp=>(n p.1 ls p.2).map λls'=>(.nx ls',p.2):=rfl
@[simp] theorem QR(i:Nat):Au i d ls hd=some (ls.set i (some d)):=rfl
@[simp] theorem Vw(k:Nat):DU k ns d ls hd=(AH d).bind λds=>if ds.length=k then ns ds ls hd else none:=rfl
@[simp] theorem Va(d:D)(ds:List D):BY n ns (d::ds) ls hd=(n d ls hd).bind λls1=>ns ds ls1 hd:=rfl
@[simp] theorem Vy:Do [] ls hd=some ls:=rfl
@[simp] theorem Tt(ix:List Nat):C9 ix m ls hd=(m ls hd).bind λp=>if p.1.length=ix.length then some (.nx ((ix.zip p.1).foldl (λl q=>l.set q.1 (some q.2)) ls),p.2)else none:=rfl
@[simp] theorem Vv(i j k:Nat):Dd i j k m ls hd=C9 [k,j,i] (λls hd=>(m ls hd).map λp=>(p.1.reverse,p.2)) ls hd:=rfl
@[simp] theorem Tq(i:Nat):A2 i ls hd=match ls[i]? with
 |some (some d)=>some (d,hd)
 |_=>none:=rfl
@[simp] theorem XE(i:I):mC i ls hd=some (.im i,hd):=rfl
@[simp] theorem X2(f:D->D->Hd->Option (D×Hd)):mOp f ma mb ls hd=(ma ls hd).bind λp=>(mb ls p.2).bind λq=>f p.1 q.1 q.2:=rfl
@[simp] theorem Wk:DV ta tb ls hd=(ta ls hd).bind λp=>if p.1=true then tb ls p.2 else some (false,p.2):=rfl
@[simp] theorem X1:mOr ta tb ls hd=(ta ls hd).bind λp=>if p.1=true then some (true,p.2)else tb ls p.2:=rfl
@[simp] theorem WZ:CA ta ls hd=(ta ls hd).bind λp=>some (!p.1,p.2):=rfl
@[simp] theorem Tr:BR ma ls hd=(ma ls hd).bind λp=>(Ci p.2 p.1).map (·,p.2):=rfl
@[simp] theorem QP:AE ma ls hd=(ma ls hd).bind λp=>match p.1 with
 |.im (.bl b)=>some (b,p.2)
 |_=>none:=rfl
@[simp] theorem X3:mIf ta ma mb ls hd=(ta ls hd).bind λp=>if p.1=true then ma ls p.2 else mb ls p.2:=rfl
@[simp] theorem WD:C4 ma mb ls hd=(AE ma ls hd).bind λp=>if p.1=true then mb ls p.2 else some (.im (.bl false),p.2):=rfl
@[simp] theorem WY:VR ma mb ls hd=(AE ma ls hd).bind λp=>if p.1=true then some (.im (.bl true),p.2)else mb ls p.2:=rfl
@[simp] theorem Vx:D6 ma ls hd=(AE ma ls hd).bind λp=>some (.im (.bl (!p.1)),p.2):=rfl
@[simp] theorem Wa:A7 ls hd=some ([],hd):=rfl
@[simp] theorem WB:A1 ma m ls hd=(ma ls hd).bind λp=>(m ls p.2).bind λq=>some (p.1::q.1,q.2):=rfl
open Classical in
@[simp] theorem WR:AG m ls hd=(m ls hd).bind λp=>if BW p.1.length then some (AV p.1,p.2)else none:=rfl
open Classical in
@[simp] theorem Wc:Ak m ls hd=(m ls hd).bind λp=>if BW p.1.length then some (p.1,p.2)else none:=rfl
@[simp] theorem Wb:Ah m ls hd=(m ls hd).bind λp=>some (.mu p.2.length,p.2++[.lst p.1]):=rfl
@[simp] theorem Tu:BD ma ls hd=(ma ls hd).bind λp=>match p.1 with
 |.im (.int i)=>some (.im (.int (-i)),p.2)
 |_=>none:=rfl
@[simp] theorem We(neg:Bool):Gj neg ma ls hd=(ma ls hd).bind λp=>some (.im (.bl (match p.1 with
 |.im .non=>!neg
 | _=>neg)),p.2):=rfl
@[simp] theorem X4(g:Int->Int->Option I)(i j:Int):fI g (.im (.int i)) (.im (.int j)) hd=(g i j).map (.im ·,hd):=rfl
@[simp] theorem W4(f g:D->D->Hd->Option (D×Hd)):Bh f g d e hd=match f d e hd with
 |some z=>some z
 |none=>g d e hd:=rfl
@[simp] theorem Wj(neg:Bool)(i j:Int):Ds neg (.im (.int i)) (.im (.int j)) hd=some (.im (.bl (if neg then !decide (i=j)else decide (i=j))),hd):=by simp[Ds,scI,IJ]
@[simp] theorem Wi(neg:Bool)(i j:Str):Ds neg (.im (.str i)) (.im (.str j)) hd=some (.im (.bl (if neg then !decide (i=j)else decide (i=j))),hd):=by simp[Ds,scI,IJ]
@[simp] theorem Uv(i:Int):gIx d (.im (.int i)) hd=(Ap hd d).bind λds=>(atI ds i).map (·,hd):=rfl
@[simp] theorem W8:BV d e hd=(DI hd d).bind λkvs=>(Ck e).bind λk=>(By kvs k).map (·,hd):=rfl
@[simp] theorem X5(f:List D->Hd->Option (D×Hd)):mCB f m ls hd=(m ls hd).bind λp=>f p.1 p.2:=rfl
@[simp] theorem Uw(tp:Bool)(g:List D->Option D):f1 tp g [d] hd=((if tp then Ap hd d else B1 hd d)).bind λds=>(g ds).map (·,hd):=rfl
@[simp] theorem Wg(g:List D->Option D):VT g m ls hd=(m ls hd).bind λp=>(g p.1).map (·,p.2):=rfl
@[simp] theorem Uu(f:D->List D->Hd->Option (D×Hd)):mMt f ma m ls hd=(ma ls hd).bind λp=>match B1 p.2 p.1 with
 |some _=>(m ls p.2).bind λq=>f p.1 q.1 q.2
 |none=>none:=rfl
@[simp] theorem W1(i j:Int):Us [.im (.int i),.im (.int j)] hd=some (.im (.int (if j>i then j else i)),hd):=rfl
@[simp] theorem W0(i j:Int):EW [.im (.int i),.im (.int j)] hd=some (.im (.int (if j<i then j else i)),hd):=rfl
@[simp] theorem Wl(i:Int):Cl [.im (.int i)] hd=some (.im (.int (if i<0 then -i else i)),hd):=rfl
@[simp] theorem Tw:Bu m ma ls hd=(m ls hd).bind λp=>(ma ls p.2).bind λq=>match q.1 with
 |.im (.int i)=>(atI p.1 i).map (·,q.2)
 |_=>none:=rfl
@[simp] theorem Tx:Er ma ls hd=(ma ls hd).bind λp=>(AH p.1).map λds=>((ds,[]),p.2):=rfl
@[simp] theorem Wd:VS m ls hd=(m ls hd).map λp=>((p.1,[]),p.2):=rfl
@[simp] theorem U0:Gi ma ls hd=(ma ls hd).bind λp=>match p.1 with
 |.mu n=>match p.2[n]? with
  |some (.lst ds)=>some ((ds,[(n,ds)]),p.2)
  |_=>none
 |.ro ns=>some ((ns.map λn=>.im (.int n),[]),p.2)
 |_=>none:=rfl
open Classical in
@[simp] theorem Tz:Dp m ls hd=(m ls hd).bind λp=>match p.1 with
 |[.im (.int j)]=>if GW j then some ((AY 0 j.toNat,[]),p.2)else none
 |_=>none:=rfl
open Classical in
@[simp] theorem W3:Uo m ls hd=(m ls hd).bind λp=>match p.1 with
 |[.im (.int i),.im (.int j)]=>if RX i j then some ((AY i (j-i).toNat,[]),p.2)else none
 |_=>none:=rfl
@[simp] theorem Wh(mi:MI):D0 mi n a ls hd=(mi ls hd).bind λp=>Cb n a p.1.2 p.1.1 ls p.2:=rfl
open Classical in
@[simp] theorem WC(k:Nat)(ix:List Nat)(mi:MI):Cr k ix mi n ta ma ls hd=(mi ls hd).bind λp=>if BW p.1.1.length then B7 n ta ma p.1.2 p.1.1 (Di k ix ls) p.2 else none:=rfl
@[simp] theorem WQ:Gg ls hd=some (true,hd):=rfl
@[simp] theorem Vd(F:List D->Hd->Option (D×Hd)):Ag F m ls hd=(m ls hd).bind λp=>F p.1 p.2:=rfl
@[simp] theorem VA:AT ls hd=some (none,hd):=rfl
@[simp] theorem QQ:Aa ma ls hd=(ma ls hd).bind λp=>match p.1 with
 |.im (.int i)=>some (some i,p.2)
 |_=>none:=rfl
@[simp] theorem QU:De ma ls hd=(ma ls hd).bind λp=>(Ap p.2 p.1).map (·,p.2):=rfl
@[simp] theorem Vb:E9 m ls hd=m ls hd:=rfl
@[simp] theorem WV(ml mh:MO1):Gh ma ml mh ls hd=(ma ls hd).bind λp=>(ml ls p.2).bind λl=>(mh ls l.2).bind λh=>(B1 h.2 p.1).bind λds=>some (Bv ds l.1 h.1,h.2):=rfl
@[simp] theorem WU(ml mh:MO1):VQ ma ml mh ls hd=(ma ls hd).bind λp=>(ml ls p.2).bind λl=>(mh ls l.2).bind λh=>(AH p.1).bind λds=>if ¬ (HT.sIx ds.length 0 l.1=0/\HT.sIx ds.length ds.length h.1=ds.length)then some (AV (Bv ds l.1 h.1),h.2)else none:=rfl
@[simp] theorem Vt:Uk m ls hd=(N3 m ls hd).bind λp=>some (AV p.1,p.2):=rfl
open Classical in
@[simp] theorem WW:N3 m ls hd=(m ls hd).bind λp=>match p.1 with
 |[.im (.int j)]=>if Na j then some (AY 0 j.toNat,p.2)else none
 |[.im (.int i),.im (.int j)]=>if NZ i j then some (AY i (j-i).toNat,p.2)else none
 |_=>none:=rfl
@[simp] theorem V8(mi:MI):QD mi ls hd=(mi ls hd).bind λp=>(FF p.1.1).bind λns=>if ns.length<64 then some ((NU ns).map λi=>.im (.int i),p.2)else none:=rfl
@[simp] theorem W7(ms:List (ME×ME)):G9 ms ls hd=(Cz ms ls hd).bind λp=>if p.1.length<=15 then some (.mu p.2.length,p.2++[.dic (E8 [] p.1)])else none:=rfl
@[simp] theorem V9:Cz [] ls hd=some ([],hd):=rfl
@[simp] theorem VZ(r:List (ME×ME)):Cz ((ma,mb)::r) ls hd=(ma ls hd).bind λp=>(mb ls p.2).bind λq=>(Cz r ls q.2).bind λz=>(Ck p.1).map λk=>((k,q.1)::z.1,z.2):=rfl
open Classical in
@[simp] theorem W6:CL ma mb mc ls hd=(mc ls hd).bind λp=>(ma ls p.2).bind λq=>(mb ls q.2).bind λr=>(Ck r.1).bind λk=>match q.1 with
 |.mu n=>match r.2[n]? with
  |some (.dic kvs)=>if EV kvs.length then some (.nx ls,r.2.set n (.dic (Ca kvs k p.1)))else none
  |_=>none
 |_=>none:=rfl
@[simp] theorem W2:Um ma mb mc ls hd=(mc ls hd).bind λp=>(ma ls p.2).bind λq=>(mb ls q.2).bind λr=>match q.1,r.1 with
 |.mu n,.im (.int i)=>match r.2[n]? with
  |some (.lst ds)=>(ixN ds.length i).map λj=>(.nx ls,r.2.set n (.lst (ds.set j p.1)))
  |_=>none
 |_,_=>none:=rfl
@[simp] theorem WG(is:List I):AH (.im (.tup is))=some (is.map .im):=rfl
@[simp] theorem Wq(ds:List D):AH (.tm ds)=some ds:=rfl
@[simp] theorem Ws(k:Nat):AH (.mu k)=none:=rfl
@[simp] theorem Wr(k:List Int):AH (.ro k)=none:=rfl
@[simp] theorem WK(is:List I):Ap hd (.im (.tup is))=some (is.map .im):=rfl
@[simp] theorem Ww(ds:List D):Ap hd (.tm ds)=some ds:=rfl
@[simp] theorem NS(k:Nat):Ap hd (.mu k)=B1 hd (.mu k):=rfl
@[simp] theorem Wx(k:List Int):Ap hd (.ro k)=some (k.map λn=>.im (.int n)):=rfl
@[simp] theorem Nr(k:Nat):B1 hd (.mu k)=match hd[k]? with
 |some (.lst ds)=>some ds
 |_=>none:=rfl
@[simp] theorem Wy(k:List Int):B1 hd (.ro k)=some (k.map λn=>.im (.int n)):=rfl
@[simp] theorem X6(k:Nat):DI hd (.mu k)=match hd[k]? with
 |some (.dic ds)=>some ds
 |_=>none:=rfl
@[simp] theorem X0(i:Int):Ck (.im (.int i))=some (.inl i):=rfl
@[simp] theorem Wz(i:Str):Ck (.im (.str i))=some (.inr i):=rfl
@[simp] theorem Wp:B4 []=some []:=rfl
@[simp] theorem X8(i:I)(r:List D):B4 (.im i::r)=(B4 r).map (i::·):=rfl
@[simp] theorem WM:FF []=some []:=rfl
@[simp] theorem WN(i:Int)(r:List D):FF (.im (.int i)::r)=(FF r).map (i::·):=rfl
@[simp] theorem Wo:Kc []=some []:=rfl
@[simp] theorem X7(i:Bool)(r:List D):Kc (.im (.bl i)::r)=(Kc r).map (i::·):=rfl
@[simp] theorem N0(is:List I):AV (is.map .im)=.im (.tup is):=by simp[AV]
@[simp] theorem LK:AV []=.im (.tup []):=rfl
@[simp] theorem Vr(i:I):AV [.im i]=.im (.tup [i]):=rfl
@[simp] theorem Vq(i j:I):AV [.im i,.im j]=.im (.tup [i,j]):=rfl
@[simp] theorem Vp(i j k:I):AV [.im i,.im j,.im k]=.im (.tup [i,j,k]):=rfl
@[simp] theorem Vo(i j k l:I):AV [.im i,.im j,.im k,.im l]=.im (.tup [i,j,k,l]):=rfl
@[simp] theorem Wn(w:Nat)(i:I):clD w (.im i)=true:=by simp[clD]
@[simp] theorem Wm(w n:Nat):clD w (.mu n)=decide (n<w):=by simp[clD]
@[simp] theorem Vf(w:Nat):BJ w []=true:=by simp[BJ]
@[simp] theorem Lj(w:Nat)(d:D)(ds:List D):BJ w (d::ds)=(clD w d&&BJ w ds):=by simp[BJ]
@[simp] theorem Vh{α:Type}(x:α)(r:List α):atI (x::r) 0=some x:=Jm (j:=0) rfl
def F5{α:Type}{xs:List α}{i:Int}{k:Nat}{x:α}(hi:i=k)(h:xs[k]?=some x):atI xs i=some x:=by subst hi;exact Jm h
@[simp] theorem Ew:BW 0:=Ac (by decide)
@[simp] theorem Be:BW 1:=Ac (by decide)
@[simp] theorem AF:BW 2:=Ac (by decide)
@[simp] theorem LW:BW 3:=Ac (by decide)
@[simp] theorem Vs:EV 4:=Fi (by decide)
open Classical in
@[simp] theorem U1(k:Nat)(x:D):CV (.mu k) [x] hd=match hd[k]? with
 |some (.lst ds)=>if EV ds.length then some (.im .non,hd.set k (.lst (ds++[x])))else none
 |_=>none:=rfl
def Ln{F:List D->Hd->Option (D×Hd)}{ds:List D}{hd1 h2:Hd}{i:I}(h1:m ls hd=some (ds,hd1))(hc:BJ 0 ds=true)(hF:F ds []=some (.im i,h2)):AA 0 F m ls hd=some (.im i,hd1):=by
 simp[AA,h1,hc,hF,fin]
def J3{w:Nat}{F:List D->Hd->Option (D×Hd)}{ds:List D}{pre pre' rest g:Hd}{i:I}(hw:pre.length=w)(hw':pre'.length=w)(h1:m ls hd=some (ds,pre++rest))(hc:BJ w ds=true)(hp:pre.all (clO w)=true)(hp':pre'.all (clO w)=true)(hF:F ds pre=some (.im i,pre'++g)):AA w F m ls hd=some (.im i,pre'++rest):=by
 subst hw;have e1:(pre++rest).take pre.length=pre:=by simp
 have e2:(pre'++g).take pre.length=pre':=by rw[<- hw'];simp
 simp only[AA,h1,bind_some,e1,hc,hp,hF,fin,e2,hp'];simp
end
open Classical in
def mIn(k:Nat)(n:MG)(c:MT)(m:ME)(g:Gd):List D->Ls->Hd->Option (Ls×Hd)
 |[],ls,hd=>some (ls,hd)
 |d::r,ls,hd=>(n d ls hd).bind λls1=>(c ls1 hd).bind λp=>if p.1=true then(m ls1 p.2).bind λq=>(CV (.mu k) [q.1] q.2).bind λz=>if GOk z.2 g then mIn k n c m g r ls1 z.2 else none else if GOk p.2 g then mIn k n c m g r ls1 p.2 else none
open Classical in
def KL(k:Nat)(n:MG)(c:MT)(mi:MI)(n2:MG)(c2:MT)(m:ME)(g:Gd):List D->Ls->Hd->Option Hd
 |[],ls,hd=>some hd
 |d::r,ls,hd=>(n d ls hd).bind λls1=>(c ls1 hd).bind λp=>if p.1=true then(mi ls1 p.2).bind λq=>(mIn k n2 c2 m q.1.2 q.1.1 ls1 q.2).bind λz=>if GOk z.2 g then KL k n c mi n2 c2 m g r z.1 z.2 else none else if GOk p.2 g then KL k n c mi n2 c2 m g r ls1 p.2 else none
def TV(j:Nat)(ix:List Nat)(mi:MI)(n:MG)(c:MT)(mi2:MI)(n2:MG)(c2:MT)(m:ME):ME:=λls hd=>(mi ls hd).bind λp=>(KL p.2.length n c mi2 n2 c2 m p.1.2 p.1.1 (Di j ix ls) (p.2++[.lst []])).map λh=>(.mu p.2.length,h)
open Classical in
def D1(ma mb:ME):MA:=λls hd=>(ma ls hd).bind λp=>(mb ls p.2).bind λq=>match p.1,q.1 with
 |.mu i,.mu j=>match q.2[i]?,q.2[j]? with
  |some (.lst xs),some (.lst ys)=>if BW (xs.length+ys.length)then some (xs++ys,q.2)else none
  |_,_=>none
 |_,_=>none
def Ra{K:PySem.W.Frag}{ta tb:TE}{ma mb:ME}(ha:RE K ta ma)(hb:RE K tb mb):RN K (tOp Mc ta tb) (D1 ma mb):=by
 and_intros;obtain⟨⟨d1,h1⟩,e1,hm⟩:=XG hm;obtain⟨⟨d2,h2⟩,e2,hm⟩:=XG hm;dsimp only at hm;split at hm
 .next i j=>
  split at hm
  .next xs ys q1 q2=>
   split at hm
   .next c=>
    cases hm;refine ha ρ σ H hd ls _ _ h1 hR hL e1 λρ1 H1 v x1 R1 r1=>?_;refine hb ρ1 σ H1 h1 ls _ _ _ R1 (hL.ext hR x1) e2 λρ2 H2 u x2 R2 r2=>?_;have r1':=r1.ext R1 x2;simp only[RD]at r1' r2;obtain⟨a,ka,rfl⟩:=r1';obtain⟨b,kb,rfl⟩:=r2;obtain⟨vs,f1,f2⟩:=R2.lst ka q1;obtain⟨us,f3,f4⟩:=R2.lst kb q2;refine⟨a,b,vs,us,rfl,rfl,f1,f3,by rw[f2.len,f4.len];exact c,λp hp=>?_⟩;obtain⟨R3,x3⟩:=R2.hid (ho:=.lst (vs++us)) hp;have x12:=x1.trans R1 x2;exact hQ ρ2 _ p _ (x12.trans R2 x3) R3 (x12.none hR hp R2) (R2.out hp) Ae ((f2.app f4).ext R2 x3)
   .cases hm
  .cases hm
 .cases hm
def SF(K:PySem.W.Frag){X:Cx}{a b:Expr}{pos:Pos}{ta tb:TE}{ma mb:ME}(ha:QE K X a ta ma)(hb:QE K X b tb mb):QN K X (.BinOp a .Add b pos) (tOp Mc ta tb) (D1 ma mb):=⟨Nj TF ha.p hb.p,Ra ha.r hb.r⟩
@[simp] theorem Vc(j:Nat)(ix:List Nat)(mi mi2:MI)(n n2:MG)(c c2:MT)(m:ME)(ls:Ls)(hd:Hd):TV j ix mi n c mi2 n2 c2 m ls hd=(mi ls hd).bind λp=>(KL p.2.length n c mi2 n2 c2 m p.1.2 p.1.1 (Di j ix ls) (p.2++[.lst []])).map λh=>(.mu p.2.length,h):=rfl
end L2
namespace L2
open PySem PySem.Spec PyProof.Rows PySem.W
section
variable(r:Nat->Int)(n:Nat)
def kv(p:Array Nat)(i:Nat):Int:=r (p.getD i 0)
end
def Sk(p:Int×Int):Int:=p.1*4000000000+p.2
def pok(p:Int×Int):Prop:=-1000000000<=p.1/\p.1<=1000000000/\-1000000000<=p.2/\p.2<=1000000000
def Nn(p:Int×Int):D:=.im (.tup [.int p.1,.int p.2])
def IW:List D->Option (List (Int×Int))
 |[]=>some []
 |.im (.tup [.int a,.int b])::r=>(IW r).map ((a,b)::·)
 |_=>none
def NT(ps:List (Int×Int)):List (Int×Int):=ps.mergeSort λa b=>decide (Sk a<=Sk b)
open Classical in
def N2(m:MI):MA:=λls hd=>(m ls hd).bind λp=>(IW p.1.1).bind λps=>if ps.length<64/\∀q∈ps,pok q then some ((NT ps).map Nn,p.2)else none
section
variable{K:PySem.W.Frag}{ρ:List Addr}{H:Hp}{hd:Hd}
open Classical in
def To:D->List D->Hd->Option (D×Hd)
 |.mu n,[.im (.int i)],hd=>match hd[n]? with
  |some (.lst ds)=>if GW i then(ixN ds.length i).bind λk=>(ds[k]?).map λy=>(y,hd.set n (.lst (ds.eraseIdx k)))else none
  |_=>none
 |_,_,_=>none
end
section
variable{ls:Ls}{hd:Hd}
open Classical in
@[simp] theorem VY(k:Nat)(i:Int):To (.mu k) [.im (.int i)] hd=match hd[k]? with
 |some (.lst ds)=>if GW i then(ixN ds.length i).bind λj=>(ds[j]?).map λy=>(y,hd.set k (.lst (ds.eraseIdx j)))else none
 |_=>none:=rfl
open Classical in
@[simp] theorem Ut(mi:MI):N2 mi ls hd=(mi ls hd).bind λp=>(IW p.1.1).bind λps=>if ps.length<64/\∀q∈ps,pok q then some ((NT ps).map Nn,p.2)else none:=rfl
end
end L2
namespace L2
open PySem PySem.Spec PyProof.Rows
section
variable{K:PySem.W.Frag}{ρ ρ':List Addr}{H H':Hp}{hd hd':Hd}
abbrev MM(α:Type):=Ls->Hd->α->Option (α×Hd)
variable(K:PySem.W.Frag){X:Cx}
variable{a b:Expr}{ta tb:TE}{ma mb:ME}{pos:Pos}
end
def WP{α:Type}(o:Option (α×Hd))(Q:α->Hd->Prop):Prop:=∃z h,o=some (z,h)/\Q z h
abbrev WS(m:MS)(ls:Ls)(hd:Hd)(Q:Fl->Hd->Prop):Prop:=WP (m ls hd) Q
abbrev WE(m:ME)(ls:Ls)(hd:Hd)(Q:D->Hd->Prop):Prop:=WP (m ls hd) Q
abbrev WT(m:MT)(ls:Ls)(hd:Hd)(Q:Bool->Hd->Prop):Prop:=WP (m ls hd) Q
abbrev WA(m:MA)(ls:Ls)(hd:Hd)(Q:List D->Hd->Prop):Prop:=WP (m ls hd) Q
abbrev WO(m:MO1)(ls:Ls)(hd:Hd)(Q:Option Int->Hd->Prop):Prop:=WP (m ls hd) Q
abbrev WI(m:MI)(ls:Ls)(hd:Hd)(Q:List D×Gd->Hd->Prop):Prop:=WP (m ls hd) Q
abbrev WF(F:List D->Hd->Option (D×Hd))(ds:List D)(hd:Hd)(Q:D->Hd->Prop):Prop:=WP (F ds hd) Q
section
variable{α β:Type}{o:Option (α×Hd)}{Q:α->Hd->Prop}{R:β->Hd->Prop}{ls:Ls}{hd:Hd}{d e:D}
theorem WP.some{z:α}{h:Hd}(q:Q z h):WP (some (z,h)) Q:=⟨z,h,rfl,q⟩
def WP.mono{Q':α->Hd->Prop}(h:WP o Q)(k:∀z h,Q z h->Q' z h):WP o Q':=let ⟨z,x,e,q⟩:=h;⟨z,x,e,k z x q⟩
theorem WP.bind{f:α×Hd->Option (β×Hd)}(h:WP o λz x=>WP (f (z,x)) R):WP (o.bind f) R:=by
 obtain⟨z,x,e,q⟩:=h;rw[e];exact q
def WP.eq{z:α}{h:Hd}(e:o=Option.some (z,h))(q:Q z h):WP o Q:=⟨z,h,e,q⟩
end
section
variable{ls:Ls}{hd:Hd}{a b:MS}{ma mb mc:ME}{ta tb:MT}{m m1 m2:MA}{n:MG}{ns:MGs}{mi:MI}{d e:D}{i j:Nat}{QS:Fl->Hd->Prop}{QE:D->Hd->Prop}{QT:Bool->Hd->Prop}{QA:List D->Hd->Prop}{QO:Option Int->Hd->Prop}{QI:List D×Gd->Hd->Prop}
def He(b:MS)(Q:Fl->Hd->Prop):Fl->Hd->Prop
 |.nx l,h=>WS b l h Q
 |f,h=>Q f h
def A9(h:WS a ls hd (He b QS)):WS (AB a b) ls hd QS:=by
 obtain⟨f,x,e,q⟩:=h;show WP (AB a b ls hd) QS;rw[Ts,e];cases f<;>first|exact q|exact⟨_,_,rfl,q⟩
def A8{l:Ls}{h:Hd}(q:WS b l h QS):He b QS (.nx l) h:=q
def Lw{h:Hd}(q:QS (.rt d) h):He b QS (.rt d) h:=q
def AI(h:QS (.nx ls) hd):WS Ab ls hd QS:=⟨_,_,rfl,h⟩
def AM(h:WE ma ls hd λd x=>QS (.rt d) x):WS (AJ ma) ls hd QS:=WP.bind (h.mono λ_ _ q=>WP.some q)
def AW(h:WE ma ls hd λd x=>QS (.nx (ls.set i (some d))) x):WS (AR i ma) ls hd QS:=by
 obtain⟨d,x,e,q⟩:=h;exact⟨_,_,by simp only[LZ,e,bind_some,QR,map_some],q⟩
def Hv(h:WE ma ls hd λd x=>∃l,n d ls x=some l/\QS (.nx l) x):WS (Es ma n) ls hd QS:=by
 obtain⟨d,x,e,l,e2,q⟩:=h;exact⟨_,_,by simp only[LZ,e,bind_some,e2,map_some],q⟩
def JI(h:WE ma ls hd λ_ x=>QS (.nx ls) x):WS (FC ma) ls hd QS:=WP.bind (h.mono λ_ _ q=>WP.some q)
def UD(h:WT ta ls hd λc x=>if c=true then WS a ls x QS else WS b ls x QS):WS (Ai ta a b) ls hd QS:=by
 refine WP.bind (h.mono λc x q=>?_);dsimp only;cases c<;>simpa using q
def AO(h:WT ta ls hd λc x=>(c=true->WS a ls x QS)/\(c=false->WS b ls x QS)):WS (Ai ta a b) ls hd QS:=
 UD (h.mono λc x q=>by cases c<;>simp_all)
def Cv{ix:List Nat}(h:WA m ls hd λds x=>ds.length=ix.length/\QS (.nx ((ix.zip ds).foldl (λl q=>l.set q.1 (some q.2)) ls)) x):WS (C9 ix m) ls hd QS:=by
 obtain⟨d,x,e,q,q2⟩:=h;exact⟨_,_,by simp only[Tt,e,bind_some,q,if_true],q2⟩
def WL(n:MG)(b:MS)(g:Gd)(ds:List D)(ls:Ls)(hd:Hd)(Q:Fl->Hd->Prop):Prop:=WP (Cb n b g ds ls hd) Q
def Cw(h:WI mi ls hd λp x=>WL n b p.2 p.1 ls x QS):WS (D0 mi n b) ls hd QS:=WP.bind (h.mono λ_ _ q=>q)
def UI(g:Gd)(P:Ls->Hd->Prop)(Q:Fl->Hd->Prop):Fl->Hd->Prop
 |.nx l,h=>GOk h g/\P l h
 |.ct l,h=>GOk h g/\P l h
 |.bk l,h=>Q (.nx l) h
 |.rt d,h=>Q (.rt d) h
theorem CC{g:Gd}(P:List D->Ls->Hd->Prop):∀{ds:List D} {ls:Ls} {hd:Hd},P ds ls hd ->
 (∀d r ls hd,P (d::r) ls hd->∃ls1,n d ls hd=some ls1/\WS b ls1 hd (UI g (P r) QS))->(∀ls hd,P [] ls hd->QS (.nx ls) hd)->WL n b g ds ls hd QS
 |[],ls,hd,h,_,z=>⟨_,_,by unfold Cb;rfl,z _ _ h⟩
 |d::r,ls,hd,h,k,z=>by
  obtain⟨ls1,e1,f,x,e2,q⟩:=k d r ls hd h;unfold WL;unfold Cb;rw[e1,bind_some,e2,bind_some];cases f with
  |nx l=>exact(show GOk x g/\P r l x from q).1 |> λg1=>by dsimp only;rw[if_pos g1];exact CC P q.2 k z
  |ct l=>exact(show GOk x g/\P r l x from q).1 |> λg1=>by dsimp only;rw[if_pos g1];exact CC P q.2 k z
  |bk l=>exact⟨_,_,rfl,q⟩
  |rt l=>exact⟨_,_,rfl,q⟩
def A3(h:ls[i]?=some (some d))(q:QE d hd):WE (A2 i) ls hd QE:=⟨d,hd,by rw[Tq,h],q⟩
def A5{i:I}(q:QE (.im i) hd):WE (mC i) ls hd QE:=⟨_,_,rfl,q⟩
def A6{f:D->D->Hd->Option (D×Hd)}(h:WE ma ls hd λd x=>WE mb ls x λe y=>WP (f d e y) QE):WE (mOp f ma mb) ls hd QE:=WP.bind (h.mono λ_ _ q=>WP.bind (q.mono λ_ _ q=>q))
def UE(h:WT ta ls hd λc x=>if c=true then WE ma ls x QE else WE mb ls x QE):WE (mIf ta ma mb) ls hd QE:=by
 refine WP.bind (h.mono λc x q=>?_);dsimp only;cases c<;>simpa using q
def Hz(h:WT ta ls hd λc x=>(c=true->WE ma ls x QE)/\(c=false->WE mb ls x QE)):WE (mIf ta ma mb) ls hd QE:=
 UE (h.mono λc x q=>by cases c<;>simp_all)
def AC(h:WA m ls hd λds x=>BW ds.length/\QE (AV ds) x):WE (AG m) ls hd QE:=WP.bind (h.mono λds x q=>by dsimp only;rw[if_pos q.1];exact WP.some q.2)
def Ao(h:WA m ls hd λds x=>QE (.mu x.length) (x++[.lst ds])):WE (Ah m) ls hd QE:=WP.bind (h.mono λ_ _ q=>WP.some q)
def Ki(h:WA m ls hd λds x=>WE ma ls x λe y=>∃i d,e=.im (.int i)/\atI ds i=some d/\QE d y):WE (Bu m ma) ls hd QE:=by
 obtain⟨ds,x,e,d,y,e2,i,z,rfl,e4,q⟩:=h;exact⟨z,y,by simp only[Tw,e,bind_some,e2,e4,map_some],q⟩
def BA{f:List D->Hd->Option (D×Hd)}(h:WA m ls hd λds x=>WP (f ds x) QE):WE (mCB f m) ls hd QE:=WP.bind (h.mono λ_ _ q=>q)
def NO{f:D->List D->Hd->Option (D×Hd)}(h:WE ma ls hd λd x=>(∃l,B1 x d=some l)/\WA m ls x λds y=>WP (f d ds y) QE):WE (mMt f ma m) ls hd QE:=by
 obtain⟨d,x,e,⟨l,hl⟩,q⟩:=h;unfold WE;rw[Uu,e,bind_some];dsimp only;rw[hl];exact WP.bind (q.mono λ_ _ q=>q)
def Av{F:List D->Hd->Option (D×Hd)}(h:WA m ls hd λds x=>WF F ds x QE):WE (Ag F m) ls hd QE:=WP.bind (h.mono λ_ _ q=>q)
def BP(h:WE ma ls hd λd x=>∃i,d=.im (.int i)/\QE (.im (.int (-i))) x):WE (BD ma) ls hd QE:=by
 obtain⟨d,x,e,i,rfl,q⟩:=h;exact⟨_,x,by simp only[Tu,e,bind_some],q⟩
def Cg(h:WT (AE ma) ls hd λc x=>if c=true then WE mb ls x QE else QE (.im (.bl false)) x):WE (C4 ma mb) ls hd QE:=by
 refine WP.bind (h.mono λc x q=>?_);dsimp only;cases c
 .exact WP.some (by simpa using q)
 .simpa using q
def GR(h:WT (AE ma) ls hd λc x=>QE (.im (.bl (!c))) x):WE (D6 ma) ls hd QE:=WP.bind (h.mono λ_ _ q=>WP.some q)
def AK(h:WE ma ls hd λd x=>∃b,d=.im (.bl b)/\QT b x):WT (AE ma) ls hd QT:=by
 obtain⟨d,x,e,b,rfl,q⟩:=h;exact⟨b,x,by simp only[QP,e,bind_some],q⟩
def AX(h:WE ma ls hd λd x=>∃b,Ci x d=some b/\QT b x):WT (BR ma) ls hd QT:=by
 obtain⟨d,x,e,b,e2,q⟩:=h;exact⟨b,x,by simp only[Tr,e,bind_some,e2,map_some],q⟩
def Bl(h:WT ta ls hd λc x=>QT (!c) x):WT (CA ta) ls hd QT:=WP.bind (h.mono λ_ _ q=>WP.some q)
def Fm(h:WT ta ls hd λc x=>if c=true then WT tb ls x QT else QT false x):WT (DV ta tb) ls hd QT:=by
 refine WP.bind (h.mono λc x q=>?_);dsimp only;cases c
 .exact WP.some (by simpa using q)
 .simpa using q
def EH(h:WT ta ls hd λc x=>if c=true then QT true x else WT tb ls x QT):WT (mOr ta tb) ls hd QT:=by
 refine WP.bind (h.mono λc x q=>?_);dsimp only;cases c
 .simpa using q
 .exact WP.some (by simpa using q)
def Qf(h:QT true hd):WT Gg ls hd QT:=⟨_,_,rfl,h⟩
def A4(h:QA [] hd):WA A7 ls hd QA:=⟨_,_,rfl,h⟩
def A0(h:WE ma ls hd λd x=>WA m ls x λds y=>QA (d::ds) y):WA (A1 ma m) ls hd QA:=WP.bind (h.mono λ_ _ q=>WP.bind (q.mono λ_ _ q=>WP.some q))
def Az(h:WA m ls hd λds x=>BW ds.length/\QA ds x):WA (Ak m) ls hd QA:=WP.bind (h.mono λds x q=>by dsimp only;rw[if_pos q.1];exact WP.some q.2)
def JK(h:WE ma ls hd λd x=>∃ds,Ap x d=some ds/\QA ds x):WA (De ma) ls hd QA:=by
 obtain⟨d,x,e,ds,e2,q⟩:=h;exact⟨ds,x,by simp only[QU,e,bind_some,e2,map_some],q⟩
def Fp(h:QO none hd):WO AT ls hd QO:=⟨_,_,rfl,h⟩
def Cf(h:WE ma ls hd λd x=>∃i,d=.im (.int i)/\QO (some i) x):WO (Aa ma) ls hd QO:=by
 obtain⟨d,x,e,i,rfl,q⟩:=h;exact⟨_,x,by simp only[QQ,e,bind_some],q⟩
def Hy(h:WA m ls hd λds x=>∃k,ds=[.im (.int k)]/\GW k/\QI (AY 0 k.toNat,[]) x):WI (Dp m) ls hd QI:=by
 obtain⟨ds,x,e,k,rfl,c,q⟩:=h;exact⟨_,x,by simp only[Tz,e,bind_some,c,if_true],q⟩
def Lv(h:WE ma ls hd λd x=>∃ds,AH d=some ds/\QI (ds,[]) x):WI (Er ma) ls hd QI:=by
 obtain⟨d,x,e,ds,e2,q⟩:=h;exact⟨_,x,by simp only[Tx,e,bind_some,e2,map_some],q⟩
def VB(h:WE ma ls hd λd x=>∃k ds,d=.mu k/\x[k]?=some (.lst ds)/\QI (ds,[(k,ds)]) x):WI (Gi ma) ls hd QI:=by
 obtain⟨d,x,e,k,ds,rfl,e2,q⟩:=h;exact⟨_,x,by simp only[U0,e,bind_some,e2],q⟩
def OC{k:Nat}{ix:List Nat}(h:WI mi ls hd λp x=>BW p.1.length/\WP (B7 n ta ma p.2 p.1 (Di k ix ls) x) QA):WA (Cr k ix mi n ta ma) ls hd QA:=WP.bind (h.mono λp x q=>by dsimp only;rw[if_pos q.1];exact q.2)
theorem I0{g:Gd}(P:List D->List D->Ls->Hd->Prop):∀{ds es:List D} {ls:Ls} {hd:Hd},P ds es ls hd ->
 (∀d r es ls hd,P (d::r) es ls hd->∃ls1,n d ls hd=some ls1/\WT ta ls1 hd λc x=>if c=true then WE ma ls1 x λz y=>GOk y g/\P r (es++[z]) ls1 y else GOk x g/\P r es ls1 x) ->
 WP (B7 n ta ma g ds ls hd) λzs x=>∃ls',P [] (es++zs) ls' x
 |[],es,ls,hd,h,k=>⟨_,_,by unfold B7;rfl,ls,by simpa using h⟩
 |d::r,es,ls,hd,h,k=>by
  obtain⟨ls1,e1,c,x,e2,q⟩:=k d r es ls hd h;unfold B7;rw[e1,bind_some,e2,bind_some];cases c with
  |true=>
   rw[if_pos rfl]at q ⊢;obtain⟨z,y,e3,g3,p3⟩:=q;obtain⟨zs,y2,e4,ls',p4⟩:=I0 P p3 k;rw[e3,bind_some];dsimp only;rw[if_pos g3,e4];exact⟨z::zs,y2,rfl,ls',by simpa using p4⟩
  |false=>
   rw[if_neg Bool.false_ne_true]at q ⊢;dsimp only;rw[if_pos q.1];exact I0 P q.2 k
def B5{i j:Int}(q:QE (.im (.int (i+j))) hd):WP (AL (.im (.int i)) (.im (.int j)) hd) QE:=⟨_,_,by simp,q⟩
def BO{i j:Int}(q:QE (.im (.int (i-j))) hd):WP (B3 (.im (.int i)) (.im (.int j)) hd) QE:=⟨_,_,by simp,q⟩
def Bw{i j:Int}(c:BK i j)(q:QE (.im (.int (i*j))) hd):WP (BI (.im (.int i)) (.im (.int j)) hd) QE:=⟨_,_,by simp[c],q⟩
def Dw{i j:Int}(c:BG j)(q:QE (.im (.int (i%j))) hd):WP (BE (.im (.int i)) (.im (.int j)) hd) QE:=⟨_,_,by simp[c],q⟩
def F7{i j:Int}(c:FI j)(q:QE (.im (.int (i/j))) hd):WP (Bg (.im (.int i)) (.im (.int j)) hd) QE:=⟨_,_,by simp[c],q⟩
def Jr{i j:Int}(q:QE (.im (.bl (decide (i<j)))) hd):WP (gLt (.im (.int i)) (.im (.int j)) hd) QE:=⟨_,_,by simp,q⟩
def Fo{i j:Int}(q:QE (.im (.bl (decide (j<i)))) hd):WP (gGt (.im (.int i)) (.im (.int j)) hd) QE:=⟨_,_,by simp,q⟩
def NM{i j:Int}(q:QE (.im (.bl (decide (j<=i)))) hd):WP (gGe (.im (.int i)) (.im (.int j)) hd) QE:=⟨_,_,by simp,q⟩
def Am{i j:Int}(q:QE (.im (.bl (decide (i=j)))) hd):WP (gEq (.im (.int i)) (.im (.int j)) hd) QE:=⟨_,_,by simp,q⟩
def Hx{i j:Int}(q:QE (.im (.bl (!decide (i=j)))) hd):WP (gNe (.im (.int i)) (.im (.int j)) hd) QE:=⟨_,_,by simp,q⟩
def Qg{i j:Str}(q:QE (.im (.bl (decide (i=j)))) hd):WP (gEq (.im (.str i)) (.im (.str j)) hd) QE:=⟨_,_,by simp,q⟩
def Hw{i j:Str}(q:QE (.im (.bl (!decide (i=j)))) hd):WP (gNe (.im (.str i)) (.im (.str j)) hd) QE:=⟨_,_,by simp,q⟩
def Co{i:Int}{ds:List D}(e1:Ap hd d=some ds)(e2:atI ds i=some e)(q:QE e hd):WP (gIx d (.im (.int i)) hd) QE:=⟨_,_,by rw[Uv,e1,bind_some,e2];rfl,q⟩
def O5{i j:Int}(q:QE (.im (.int (min i j))) hd):WP (EW [.im (.int i),.im (.int j)] hd) QE:=⟨_,_,rfl,by have:(if j<i then j else i)=min i j:=(by split<;>omega);rw[this];exact q⟩
def Hc{tp:Bool}{g:List D->Option D}{ds:List D}{z:D}(e1:(if tp then Ap hd d else B1 hd d)=some ds)(e2:g ds=some z)(q:QE z hd):WP (f1 tp g [d] hd) QE:=⟨_,_,by rw[Uw,e1,bind_some,e2];rfl,q⟩
def Kh{k:Nat}{x:D}{ds:List D}(e1:hd[k]?=some (.lst ds))(c:EV ds.length)(q:QE (.im .non) (hd.set k (.lst (ds++[x])))):WP (CV (.mu k) [x] hd) QE:=⟨_,_,by rw[U1,e1];simp only[c,if_true],q⟩
def Aq{k n:Nat}{m:MS}{ds:List D}{Q:D->Hd->Prop}(hl:ds.length=k)(h:WS m (ds.map some++List.replicate (n-k) none) hd λf x=>match f with
 |.rt d=>Q d x
 |.nx _=>Q (.im .non) x
 | _=>False):WF (mkF k n m) ds hd Q:=by
 obtain⟨f,x,e,q⟩:=h;unfold WF mkF;rw[if_pos hl,e];cases f with
 |nx l=>exact⟨_,_,rfl,q⟩
 |rt l=>exact⟨_,_,rfl,q⟩
 |bk l=>exact q.elim
 |ct l=>exact q.elim
def AS{F:List D->Hd->Option (D×Hd)}(h:WA m ls hd λds x=>BJ 0 ds=true/\WF F ds [] λd _=>∃i,d=.im i/\QE (.im i) x):WE (AA 0 F m) ls hd QE:=by
 obtain⟨ds,x,e,c,d,y,e2,i,rfl,q⟩:=h;exact⟨_,_,Ln e c e2,q⟩
end
structure Tap(T:Nat->MO->MO->Prop)(P:List D->Hd->Option (D×Hd)):Prop where
 cl:∀{k:Nat} {a b:MO},T k a b->clO 2 a=true/\clO 2 b=true
 le:∀{j k:Nat} {a b:MO},T k a b->j<=k->T j a b
 pick:∀{k:Nat} {a b:MO} {many:Int},T (k+1) a b->0<many->many<1073741824->∃r a' b',0<=r/\r<many/\P [.mu 1,.im (.int many)] [a,b]=some (.im (.int r),[a',b'])/\T k a' b'
section
variable{T:Nat->MO->MO->Prop}{P:List D->Hd->Option (D×Hd)}{a b:MO}{rest:Hd}{ls:Ls}{m:MA}{QE:D->Hd->Prop}{n c:Nat}
def Tap.draw(t:Tap T P)(hT:T (n+1) a b){many:Int}{hd:Hd}(e:m ls hd=some ([.mu 1,.im (.int many)],a::b::rest))(h0:0<many)(h1:many<1073741824)
 (k:∀r a' b',T n a' b'->0<=r->r<many->QE (.im (.int r)) (a'::b'::rest)):WE (AA 2 P m) ls hd QE:=by
 obtain⟨r,a',b',p1,p2,e2,hT'⟩:=t.pick hT h0 h1;refine⟨_,_,J3 (w:=2) (ds:=[.mu 1,.im (.int many)]) (pre:=[a,b]) (pre':=[a',b']) (rest:=rest) (g:=[]) rfl rfl e (by simp) ?_ ?_ (by simpa using e2),k r a' b' hT' p1 p2⟩
 .simp[t.cl hT]
 .simp[t.cl hT']
end
section
variable{K:PySem.W.Frag}{ρ ρ':List Addr}{H H':Hp}{hd hd':Hd}
def T2{X:Cx}{j k:Nat}{f:Addr}{fd:FuncData}{ps:List Str}{sp:Sp}{x:Str}{st:Stmt}{p pos:Pos}(F:FnOk X.prog X.w X.K X.mg X.base CX0 j f fd ps sp)(hr:Room k X.A)(D:DefAt X.K X.mg x st f fd ps)
 (hjk:j<=k:=by decide) (hg:Gl X x:=by rfl) (hdb:(x==("__debug__":Str))=false:=by decide):
 PE X (.Call (.Name x p) [] [] pos) (CI sp [] E0 DM):=
 Mv (F.mono hjk) hr hg D.mg D.fn.kp D.bd .nil Nm hdb
def LB(K:PySem.W.Frag){X:Cx}(w:Nat){j k:Nat}{f:Addr}{fd:FuncData}{ps:List Str}{n:Nat}{F:List D->Hd->Option (D×Hd)}{st:Stmt}{x:Str}{p pos:Pos}(G:FnOk X.prog X.w X.K X.mg X.base CX0 j f fd ps (spF K n F))(hr:Room k X.A)(DA:DefAt X.K X.mg x st f fd ps)(hF:∀ds hd z,F ds hd=some z->ds.length=n)
 (hjk:j<=k:=by decide) (hg:Gl X x:=by rfl) (hdb:(x==("__debug__":Str))=false:=by decide):
 QE K X (.Call (.Name x p) [] [] pos) (CI (spF K n F) [] E0 DM) (AA w F A7):=⟨T2 G hr DA hjk hg hdb,IS L9 hF⟩
end
mutual
theorem Iz{v w:Nat}(h:v<=w):∀{d:D},clD v d=true->clD w d=true
 |.im i,_=>by simp
 |.mu n,c=>by simp at c ⊢;omega
 |.tm ds,c=>by rw[clD]at c ⊢;exact Dh h c
 |.ro ns,_=>by rw[clD]
 |.op _ _ ds,c=>by rw[clD]at c ⊢;exact Dh h c
theorem Dh{v w:Nat}(h:v<=w):∀{ds:List D},BJ v ds=true->BJ w ds=true
 |[],_=>by simp
 |d::ds,c=>by
  simp only[Lj,Bool.and_eq_true]at c ⊢;exact⟨Iz h c.1,Dh h c.2⟩
end
theorem HM{v w:Nat}(h:v<=w):∀{ds:List (Key×D)},Dv v ds=true->Dv w ds=true
 |[],_=>by simp[Dv]
 |d::ds,c=>by
  simp only[Dv,Bool.and_eq_true]at c ⊢;exact⟨Iz h c.1,HM h c.2⟩
def NE{v w:Nat}(h:v<=w){o:MO}(c:clO v o=true):clO w o=true:=by
 cases o with
 |lst ds=>exact Dh h c
 |dic ds=>exact HM h c
section
variable{T:Nat->MO->MO->Prop}{P:List D->Hd->Option (D×Hd)}{a b:MO}{rest:Hd}{ls:Ls}{m:MA}{QE:D->Hd->Prop}
def Tap.callX(t:Tap T P){n c:Nat}(hT:T (n+c) a b)(ex:Hd){w:Nat}{F:List D->Hd->Option (D×Hd)}{as:List D}{hd:Hd}{R:I->Prop}(e:m ls hd=some (.mu 1::as,a::b::(ex++rest)))(hw:w=ex.length+2)(ha:BJ w as=true)(hx:ex.all (clO w)=true)
 (hF:∀a b,T (n+c) a b->WF F (.mu 1::as) (a::b::ex) λd x=>∃i a' b' g,d=.im i/\R i/\T n a' b'/\x=a'::b'::(ex++g))
 (k:∀i a' b',T n a' b'->R i->QE (.im i) (a'::b'::(ex++rest))):WE (AA w F m) ls hd QE:=by
 subst hw;have hcl:∀o,clO 2 o=true->clO (ex.length+2) o=true:=λo h=>NE (by omega) h;obtain⟨d,x,e2,i,a',b',g,rfl,hR,hT',rfl⟩:=hF a b hT;refine⟨_,_,J3 (w:=ex.length+2) (ds:=.mu 1::as) (pre:=a::b::ex) (pre':=a'::b'::ex) (rest:=rest) (g:=g) rfl rfl e (by simp[ha]) ?_ ?_ e2,k i a' b' hT' hR⟩
 .simp[hcl _ (t.cl hT).1,hcl _ (t.cl hT).2];simpa using hx
 .simp[hcl _ (t.cl hT').1,hcl _ (t.cl hT').2];simpa using hx
def Tap.call(t:Tap T P){n c:Nat}(hT:T (n+c) a b){F:List D->Hd->Option (D×Hd)}{as:List D}{hd:Hd}{R:I->Prop}(e:m ls hd=some (.mu 1::as,a::b::rest))(ha:BJ 2 as=true)
 (hF:∀a b,T (n+c) a b->WF F (.mu 1::as) [a,b] λd x=>∃i a' b' g,d=.im i/\R i/\T n a' b'/\x=a'::b'::g)
 (k:∀i a' b',T n a' b'->R i->QE (.im i) (a'::b'::rest)):WE (AA 2 F m) ls hd QE:=
 t.callX hT [] (w:=2) e rfl ha rfl hF k
end
end L2
namespace L2
open PySem PySem.Spec PyProof.Rows
section
variable{ls:Ls}{hd:Hd}{b:MS}{c:MT}{Q:Fl->Hd->Prop}{QE:D->Hd->Prop}
def UH(P:Ls->Hd->Prop)(Q:Fl->Hd->Prop):Fl->Hd->Prop
 |.nx l,h=>P l h
 |.ct l,h=>P l h
 |.bk l,h=>Q (.nx l) h
 |.rt d,h=>Q (.rt d) h
def DJ(P:Nat->Ls->Hd->Prop){n:Nat}(h:P n ls hd)
 (k:∀n ls hd,P n ls hd->WT c ls hd λt x=>if t=true then WS b ls x (UH (λl y=>∃m,m<n/\P m l y) Q)else Q (.nx ls) x):WS (BZ c b) ls hd Q:=by
 have go:∀n ls hd,P n ls hd->∃j r,B6 c b j ls hd=some r/\Q r.1 r.2:=by
  intro n
  induction n using Nat.strongRecOn with
  |ind n ih=>
   intro ls hd h;obtain⟨t,x,e1,q⟩:=k n ls hd h;cases t with
   |false=>
    rw[if_neg Bool.false_ne_true]at q;exact⟨1,(.nx ls,x),by unfold B6;rw[e1];rfl,q⟩
   |true=>
    rw[if_pos rfl]at q;obtain⟨f,y,e2,q⟩:=q;cases f with
    |nx l=>
     obtain⟨m,hm,p⟩:=q;obtain⟨j,r,e3,q3⟩:=ih m hm l y p;exact⟨j+1,r,by unfold B6;rw[e1,bind_some,if_pos rfl,e2];exact e3,q3⟩
    |ct l=>
     obtain⟨m,hm,p⟩:=q;obtain⟨j,r,e3,q3⟩:=ih m hm l y p;exact⟨j+1,r,by unfold B6;rw[e1,bind_some,if_pos rfl,e2];exact e3,q3⟩
    |bk l=>exact⟨1,(.nx l,y),by unfold B6;rw[e1,bind_some,if_pos rfl,e2];rfl,q⟩
    |rt d=>exact⟨1,(.rt d,y),by unfold B6;rw[e1,bind_some,if_pos rfl,e2];rfl,q⟩
 obtain⟨j,⟨f,x⟩,e,q⟩:=go n ls hd h;exact⟨f,x,LO e,q⟩
end
end L2
namespace Bd
open PySem L2
@[reducible] def Rw:MS:=(AJ (G9 [((mC (.str "cells")),(Ah (E9 (Gh (A2 0) AT (Aa (mC (.int 63))))))),((mC (.str "next")),(mC (.int 0))),((mC (.str "left")),(mC (.int 0))),((mC (.str "turn")),(mC (.int 0)))]))
def F_tape:List D->Hd->Option (D×Hd):=mkF 1 1 Rw
@[reducible] def XF:MS:=(AB (CL (A2 0) (mC (.str "turn")) (mOp AL (mOp BV (A2 0) (mC (.str "turn"))) (mC (.int 1))))
 (AB (Ai (AE (mOp gGt (mOp BV (A2 0) (mC (.str "left"))) (mC (.int 0))))
  (AB (AR 2 (mOp BE (mOp BV (A2 0) (mC (.str "left"))) (A2 1)))
 (AB (CL (A2 0) (mC (.str "left")) (mOp Bg (mOp BV (A2 0) (mC (.str "left"))) (A2 1)))
 (AJ (A2 2))))
  Ab)
 (AB (Dd 3 4 5 (A1 (mOp BV (A2 0) (mC (.str "cells"))) (A1 (mOp BV (A2 0) (mC (.str "next"))) (A1 (mOp BV (A2 0) (mC (.str "turn"))) A7))))
 (AB (AR 6 (mIf (AE (D7 true (A2 3) (Ak A7))) (mOp gIx (A2 3) (mOp BE (A2 4) (mCB (f1 true CQ) (A1 (A2 3) A7)))) (mC (.int 23))))
 (AB (CL (A2 0) (mC (.str "next")) (mOp AL (A2 4) (mC (.int 1))))
 (AB (Ai (DV (AE (mOp gGe (A2 6) (mOp Ev (mC (.int 10)) (mC (.int 18))))) (AE (mOp gLt (A2 4) (mCB (f1 true CQ) (A1 (A2 3) A7)))))
  (AB (CL (A2 0) (mC (.str "left")) (mOp Bg (A2 6) (A2 1)))
 (AJ (mOp BE (A2 6) (A2 1))))
  Ab)
 (AB (AR 7 (mOp BE (mOp AL (mOp AL (mOp BE (A2 6) (mC (.int 2147483587))) (mOp BI (mC (.int 104729)) (A2 5))) (mC (.int 17))) (mC (.int 2147483629))))
 (AB (AR 7 (mOp BE (mOp AL (mOp BI (A2 7) (A2 7)) (mOp BI (mC (.int 48271)) (A2 5))) (mC (.int 2147483647))))
 (AB (AR 7 (mOp BE (mOp AL (mOp AL (mOp BI (A2 7) (A2 7)) (mOp BI (mC (.int 7919)) (A2 7))) (A2 5)) (mC (.int 2147483629))))
 (AJ (mOp BE (mOp Bg (A2 7) (mC (.int 128))) (A2 1))))))))))))
def F_pick:List D->Hd->Option (D×Hd):=mkF 2 8 XF
structure Tp where
 cells:List Int
 nx:Int
 lf:Int
 tn:Int
def Ar(t:Tp):List (Key×D):=[(.inr "cells",.mu 0),(.inr "next",.im (.int t.nx)),(.inr "left",.im (.int t.lf)),(.inr "turn",.im (.int t.tn))]
def tp(t:Tp):Hd:=[.lst (t.cells.map λi=>.im (.int i)),.dic (Ar t)]
@[simp] theorem WH(t:Tp):(tp t).length=2:=rfl
@[simp] theorem XD(t:Tp)(r:Hd):(tp t++r)[0]?=some (.lst (t.cells.map λi=>.im (.int i))):=rfl
@[simp] theorem XC(t:Tp)(r:Hd):(tp t++r)[1]?=some (.dic (Ar t)):=rfl
@[simp] theorem tp0(t:Tp):(tp t)[0]?=some (.lst (t.cells.map λi=>.im (.int i))):=rfl
@[simp] theorem tp1(t:Tp):(tp t)[1]?=some (.dic (Ar t)):=rfl
@[simp] theorem Wt(t t':Tp)(h:t'.cells=t.cells):(tp t).set 1 (.dic (Ar t'))=tp t':=by unfold tp;rw[h];rfl
section
variable(t:Tp)(v:Int)
@[simp] theorem VF:By (Ar t) (.inr "cells")=some (.mu 0):=by simp[By,Ar]
@[simp] theorem Vm:By (Ar t) (.inr "next")=some (.im (.int t.nx)):=by simp[By,Ar,ne1]
@[simp] theorem Vn:By (Ar t) (.inr "left")=some (.im (.int t.lf)):=by simp[By,Ar,ne2,ne4]
@[simp] theorem Vl:By (Ar t) (.inr "turn")=some (.im (.int t.tn)):=by simp[By,Ar,ne3,ne5,ne6]
@[simp] theorem VD:Ca (Ar t) (.inr "next") (.im (.int v))=Ar { t with nx:=v }:=by simp[Ca,Ar,ne1,VP,VO]
@[simp] theorem VE:Ca (Ar t) (.inr "left") (.im (.int v))=Ar { t with lf:=v }:=by simp[Ca,Ar,ne2,ne4,VN]
@[simp] theorem VC:Ca (Ar t) (.inr "turn") (.im (.int v))=Ar { t with tn:=v }:=by simp[Ca,Ar,ne3,ne5,ne6]
@[simp] theorem WJ:(Ar t).length=4:=rfl
end
theorem DR:∀ns:List Int,I.pys (ns.map I.int)=ns.map PyData.int
 |[]=>by simp[I.pys]
 |n::ns=>by simp[I.pys,I.py,DR ns]
def DD(ns:List Int):B4 (ns.map λi=>D.im (.int i))=some (ns.map I.int):=by
 have:(ns.map λi=>D.im (.int i))=(ns.map I.int).map D.im:=by rw[List.map_map];rfl
 rw[this];exact Lq _
def eqv_nil(ns:List Int):PyData.eqv (.list (ns.map PyData.int)) (.list [])=decide (ns=[]):=by
 cases ns<;>simp[PyData.eqv,PyData.eqvAll]
def N6(ns:List Int):(PyData.list (ns.map PyData.int)).canLay0=true:=by simp[PyData.canLay0,FS]
def EB(ns:List Int)(hd:Hd)(neg:Bool):Ip neg (.list (ns.map PyData.int)) (.list []) hd=some (.im (.bl (if neg then !decide (ns=[])else decide (ns=[]))),hd):=by
 unfold Ip;rw[if_pos,eqv_nil];refine⟨N6 ns,by simp[PyData.canLay0,PyData.canLayAll0],?_⟩;have:(PyData.list []).depth<=1:=by simp[PyData.depth,PyData.depthAll]
 omega
def D5{x:Int}(m:Int)(h:0<m):0<=x%m/\x%m<m:=⟨Int.emod_nonneg _ (by omega),Int.emod_lt_of_pos _ h⟩
def EQ(cell turn:Int):Int:=(cell%2147483587+104729*turn+17)%2147483629
def Ge(x turn:Int):Int:=(x*x+48271*turn)%2147483647
def TL(x turn:Int):Int:=(x*x+7919*x+turn)%2147483629
def U4(hd:Hd)(neg:Bool):Ip neg (.list []) (.list []) hd=some (.im (.bl (if neg then false else true)),hd):=by
 have:=EB [] hd neg;simpa using this
def V1{xs:List Int}(h:xs≠[])(n:Int):∃c,atI (xs.map λi=>D.im (.int i)) (n%(xs.length:Int))=some (.im (.int c)):=by
 have hl:0<xs.length:=Gm h;obtain⟨a,b⟩:=D5 (x:=n) (xs.length:Int) (by omega);obtain⟨k,hk⟩:=Int.eq_ofNat_of_zero_le a;have hk':k<xs.length:=by omega
 exact⟨xs[k],F5 hk (by simp[hk'])⟩
def mk1(j:Int):BK 104729 j:=E7 (by decide) (by decide)
def mk2(j:Int):BK 48271 j:=E7 (by decide) (by decide)
def mk3(j:Int):BK 7919 j:=E7 (by decide) (by decide)
def mo1:BG 2147483587:=by unfold BG;decide
def mo2:BG 2147483629:=by unfold BG;decide
def mo3:BG 2147483647:=by unfold BG;decide
def di1:FI 128:=by unfold FI;decide
def po1:Hk 10 18:=by unfold Hk;decide
def Pi(τ:Tp)(many:Int)(h0:0<many)(h1:many<1073741824):∃r τ',F_pick [.mu 1,.im (.int many)] (tp τ)=some (.im (.int r),tp τ')/\0<=r/\r<many/\τ'.cells=τ.cells:=by
 have hm:BG many:=h0;have hv:FI many:=⟨h0,h1⟩
 by_cases hl:τ.lf>0
 .refine⟨τ.lf%many,{ τ with tn:=τ.tn+1,lf:=τ.lf/many },?_,(D5 many h0).1,(D5 many h0).2,rfl⟩;simp[F_pick,mkF,hl,hm,hv]
 .have key:∀cell:Int,(if τ.cells=[]then cell=23 else atI (τ.cells.map λi=>D.im (.int i)) (τ.nx%(τ.cells.length:Int))=some (.im (.int cell))) ->
   ∃r τ',F_pick [.mu 1,.im (.int many)] (tp τ)=some (.im (.int r),tp τ')/\0<=r/\r<many/\τ'.cells=τ.cells:=by
   intro cell hcell;have b1:=D5 (x:=cell%2147483587+104729*(τ.tn+1)+17) 2147483629 (by decide);have b2:=D5 (x:=EQ cell (τ.tn+1)*EQ cell (τ.tn+1)+48271*(τ.tn+1)) 2147483647 (by decide);have c1:∀j,BK (EQ cell (τ.tn+1)) j:=λj=>E7 (by unfold EQ;omega) (by unfold EQ;omega);have c2:∀j,BK (Ge (EQ cell (τ.tn+1)) (τ.tn+1)) j:=λj=>E7 (by unfold Ge;omega) (by unfold Ge;omega);by_cases hb:cell>=1000000000000000000/\τ.nx<(τ.cells.length:Int)
   .refine⟨cell%many,{ τ with tn:=τ.tn+1,nx:=τ.nx+1,lf:=cell/many },?_,(D5 many h0).1,(D5 many h0).2,rfl⟩;by_cases hc:τ.cells=[]
    .rw[if_pos hc]at hcell;subst hcell;omega
    .rw[if_neg hc]at hcell;have hl0:0<τ.cells.length:=Gm hc;have hl0':BG (τ.cells.length:Int):=by unfold BG;omega
     simp[F_pick,mkF,hl,hm,hv,mk1,mk2,mk3,mo1,mo2,mo3,di1,po1,D7,pyD,DD,DR,I.pys,EB,hc,hcell,hl0',hb.1,hb.2,CQ]
   .refine⟨TL (Ge (EQ cell (τ.tn+1)) (τ.tn+1)) (τ.tn+1)/128%many,{ τ with tn:=τ.tn+1,nx:=τ.nx+1 },?_,(D5 many h0).1,(D5 many h0).2,rfl⟩;have hb':1000000000000000000<=cell->¬ τ.nx<(τ.cells.length:Int):=λa b=>hb ⟨a,b⟩;unfold EQ at c1 c2;unfold Ge at c2;unfold TL Ge EQ;by_cases hc:τ.cells=[]
    .rw[if_pos hc]at hcell;subst hcell;simp only[Int.reduceMod]at c1 c2;simp[F_pick,mkF,hl,hm,hv,mk1,mk2,mk3,mo1,mo2,mo3,di1,po1,D7,pyD,DD,DR,I.pys,EB,U4,hc,CQ,c1,c2]
    .rw[if_neg hc]at hcell;have hl0:0<τ.cells.length:=Gm hc;have hl0':BG (τ.cells.length:Int):=by unfold BG;omega
     by_cases hd:1000000000000000000<=cell
     .simp[F_pick,mkF,hl,hm,hv,mk1,mk2,mk3,mo1,mo2,mo3,di1,po1,D7,pyD,DD,DR,I.pys,EB,hc,hcell,hl0',CQ,c1,c2,hd,hb' hd]
     .simp[F_pick,mkF,hl,hm,hv,mk1,mk2,mk3,mo1,mo2,mo3,di1,po1,D7,pyD,DD,DR,I.pys,EB,hc,hcell,hl0',CQ,c1,c2,hd]
  by_cases hc:τ.cells=[]
  .exact key 23 (by rw[if_pos hc])
  .obtain⟨c,e⟩:=V1 hc τ.nx;exact key c (by rw[if_neg hc];exact e)
inductive Cost where
 |late (d:Int)|tardy (d w:Int)|miss (d w:Int)|ends (w:Int)|steps (rows:List (Int×Int))
def JN(t:Int):List (Int×Int)->Int->Int
 |[],told=>told
 |(b,a)::r,told=>if t<b then told else JN t r a
def Cost.at:Cost->Int->Int
 |.late d,t=>t-d
 |.tardy d w,t=>if t-d<=0 then 0 else w*(t-d)
 |.miss d w,t=>if t-d<=0 then 0 else w
 |.ends w,t=>w*t
 |.steps rows,t=>JN t rows 0
def n1:¬ (("late":Str)="steps"):=by decide +kernel
def n2:¬ (("tardy":Str)="steps"):=by decide +kernel
def n3:¬ (("miss":Str)="steps"):=by decide +kernel
def n7:¬ (("miss":Str)="ends"):=by decide +kernel
def n10:¬ (("miss":Str)="tardy"):=by decide +kernel
@[simp high] theorem XB(t:Tp)(x:MO)(r:Hd):(tp t++(x::r))[2]?=some x:=rfl
@[simp high] theorem XA(t:Tp)(x y:MO)(r:Hd):(tp t++(x::y::r))[3]?=some y:=rfl
@[simp high] theorem X9(t:Tp)(x y z:MO)(r:Hd):(tp t++(x::y::z::r))[4]?=some z:=rfl
@[simp high] theorem Wv(t:Tp)(x y:MO)(r:Hd):(tp t++(x::r)).set 2 y=tp t++(y::r):=rfl
@[simp high] theorem Wu(t:Tp)(x y z:MO)(r:Hd):(tp t++(x::y::r)).set 3 z=tp t++(x::z::r):=rfl
def Li(w:Nat)(ns:List Int):BJ w (ns.map λi=>D.im (.int i))=true:=by induction ns<;>simp_all [BJ,clD]
@[simp] theorem UJ(t:Tp):(tp t).all (clO 2)=true:=by simp[tp,clO,Li,Ar,Dv,clD]
structure Drawn(τ:Tp)(many:Int)(r:Int)(τ':Tp):Prop where
 lo:0<=r
 hi:r<many
 cl:τ'.cells=τ.cells
 eq:F_pick [.mu 1,.im (.int many)] (tp τ)=some (.im (.int r),tp τ')
def draw(τ:Tp)(many:Int)(h0:0<many)(h1:many<1073741824):∃r τ',Drawn τ many r τ':=by
 obtain⟨r,τ',e,a,b,c⟩:=Pi τ many h0 h1;exact⟨r,τ',a,b,c,e⟩
def ND(ns:List Int)(lo hi:Option Int):∃cs:List Int,Bv (ns.map λn=>.im (.int n)) lo hi=cs.map λn=>.im (.int n):=⟨(ns.drop _).take _,by unfold Bv;rw[List.map_take,List.map_drop]⟩
def OF(ns:List Int):∃τ,F_tape [.ro ns] []=some (.mu 1,tp τ):=by
 obtain⟨cs,e⟩:=ND ns none (some 63);refine⟨⟨cs,0,0,0⟩,?_⟩;simp[F_tape,mkF,e,E8,Ca,ne1,ne2,ne3,ne4,ne5,ne6,tp,Ar]
def g0(hd:Hd)(x y:MO):(hd++[x,y])[hd.length]?=some x:=by simp
def g1(hd:Hd)(x y:MO):(hd++[x,y])[hd.length+1]?=some y:=by simp
def t0(hd:Hd)(x y z:MO):(hd++[x,y]).set hd.length z=hd++[z,y]:=by simp
def t1(hd:Hd)(x y z:MO):(hd++[x,y]).set (hd.length+1) z=hd++[x,z]:=by simp
end Bd
namespace L2
open PySem PySem.Spec PyProof.Rows
section
variable{ls:Ls}{hd:Hd}{QE:D->Hd->Prop}{QI:List D×Gd->Hd->Prop}{ma:ME}{n:MG}{ta:MT}{mi:MI}{m:MA}
def UF{g:Gd}{QA:List D->Hd->Prop}(P:List D->List D->Ls->Hd->Prop){ds:List D}{ls:Ls}{hd:Hd}(h:P ds [] ls hd)
 (k:∀d r es ls hd,P (d::r) es ls hd->∃ls1,n d ls hd=some ls1/\WT ta ls1 hd λc x=>if c=true then WE ma ls1 x λz y=>GOk y g/\P r (es++[z]) ls1 y else GOk x g/\P r es ls1 x)
 (z:∀es ls hd,P [] es ls hd->QA es hd):WP (B7 n ta ma g ds ls hd) QA:=
 (I0 P h k).mono λzs x ⟨ls',q⟩=>z zs ls' x (by simpa using q)
end
section
variable{K:PySem.W.Frag}{ρ ρ':List Addr}{H H':Hp}{hd hd':Hd}
def Gk(neg:Bool)(ma:ME)(ml:MA):ME:=λls hd=>(ma ls hd).bind λp=>(ml ls p.2).bind λq=>match p.1 with
 |.im i=>(EU i).bind λx=>(Bn q.1).map λxs=>(.im (.bl (if neg then !inV x xs else inV x xs)),q.2)
 |_=>none
def Rr{neg:Bool}{ta tb:TE}{ma:ME}{ml:MA}(ha:RE K ta ma)(hb:RN K tb ml):RE K (tOp (rIn K neg) ta tb) (Gk neg ma ml):=by
 and_intros;obtain⟨⟨d1,h1⟩,e1,hm⟩:=XG hm;obtain⟨⟨d2,h2⟩,e2,hm⟩:=XG hm;dsimp only at hm;split at hm
 .obtain⟨x,e3,hm⟩:=XG hm;obtain⟨xs,e4,e5⟩:=XH hm;cases e5;refine ha ρ σ H hd ls _ _ h1 hR hL e1 λρ1 H1 v1 x1 R1 r1=>?_;refine hb ρ1 σ H1 h1 ls _ d2 _ R1 (hL.ext hR x1) e2 λρ2 H2 a ys x2 R2 na oa ea r2=>?_;have r1:=r1.ext R1 x2;simp only[RD]at r1;obtain⟨rfl,f1⟩:=Io e3 r1;obtain⟨rfl,f2⟩:=HL e4 r2;exact⟨a,ys,rfl,.inl (SqL.of ea),f1,f2,hQ ρ2 H2 _ (x1.trans R1 x2) R2 (by simp[RD,RI])⟩
 .cases hm
def Oy(K:PySem.W.Frag){X:Cx}{a b:Expr}{ta tb:TE}{ma:ME}{ml:MA}{pos:Pos}{op:CmpOp}{neg:Bool}(ho:OpR X (compareOp op) (rIn K neg))(ha:QE K X a ta ma)(hb:QN K X b tb ml)(hm:behindInMarks op b=false:=by first|exact G8 _|rfl):QT K X (.Compare a [op] [b] pos) (Fs (tOp (rIn K neg) ta tb)) (AE (Gk neg ma ml)):=⟨Ga ho ha.p hb.p hm,DG (Rr ha.r hb.r)⟩
end
section
variable{ls:Ls}{hd:Hd}{ma mb:ME}{m ml:MA}{QE:D->Hd->Prop}{QA:List D->Hd->Prop}
def Ql{neg:Bool}(h:WE ma ls hd λd x=>WA ml ls x λds y=>∃i v vs,d=.im i/\EU i=some v/\Bn ds=some vs/\QE (.im (.bl (if neg then !inV v vs else inV v vs))) y):WE (Gk neg ma ml) ls hd QE:=by
 obtain⟨d,x,e1,ds,y,e2,i,v,vs,rfl,e3,e4,q⟩:=h;exact⟨_,_,by simp only[Gk,e1,bind_some,e2,e3,e4,map_some],q⟩
end
abbrev blD(bs:List Bool):List D:=bs.map λb=>D.im (.bl b)
def NB(bs:List Bool):Bn (blD bs)=some (bs.map V.bl):=by
 induction bs with
 |nil=>rfl
 |cons b r ih=>simp only[blD,map_cons,Bn,EU,bind_some]at ih ⊢;rw[ih];rfl
def QL(x:Bool)(bs:List Bool):inV (.bl x) (bs.map V.bl)=decide (x∈bs):=by
 unfold inV
 induction bs with
 |nil=>simp
 |cons b r ih=>
  have e:eqV (.bl b) (.bl x)=decide (x=b):=by
   show(b==x)=_;cases b<;>cases x<;>rfl
  rw[map_cons,any_cons,ih,e];simp only[mem_cons,Bool.decide_or]
inductive Ty where
 |int|bool|str|tuple|list
 deriving DecidableEq
def Ty.nm:Ty->String
 |.int=>"int" | .bool=>"bool" | .str=>"str" | .tuple=>"tuple" | .list=>"list"
def IsT(K:PySem.W.Frag)(T:Ty)(H:Hp)(v:V)(b:Bool):Prop:=
 (v=.non/\b=false)∨(∃x,v=.bl x/\b=decide (T=.int∨T=.bool))∨(∃i,v=.int i/\b=decide (T=.int))∨(∃x,v=.str x/\b=decide (T=.str)) ∨
 (∃a xs,v=.ref a/\SqL K H a xs/\b=decide (T=.list))∨∃a xs,v=.ref a/\SqT K H a xs/\b=decide (T=.tuple)
section
variable{X:Cx}{pins:List (Addr×Obj)}{σ:St}{H:Hp}{s:Shared}{A:Around}{E:Value->Shared->Prop}{Q:Value->Shared->Prop}
def Ti{T:Ty}{v:V}{u:Value}{b:Bool}(I:Inv X pins σ H s)(r:RelV v u)(h:IsT X.K T H v b)(q:∀tk,Q (.bool b) { s with toks:=tk }):wpAny (model X.prog X.w) A (call (.builtin "isinstance") [u,.type T.nm]) Q E s:=by
 have q0:=q s.toks;have q1:=q (s.toks+1);rcases h with⟨rfl,rfl⟩|⟨x,rfl,rfl⟩|⟨i,rfl,rfl⟩|⟨x,rfl,rfl⟩|⟨a,xs,rfl,hl,rfl⟩|⟨a,xs,rfl,ht,rfl⟩
 .cases(show u=Value.none from r);cases T
  .exact IsiPair.NoneType_int q1
  .exact IsiPair.NoneType_bool q1
  .exact IsiPair.NoneType_str q1
  .exact IsiPair.NoneType_tuple q1
  .exact IsiPair.NoneType_list q1
 .cases(show u=Value.bool x from r);cases T
  .first|exact IsiPair.bool_int q0|exact IsiPair.bool_int q1
  .first|exact IsiPair.bool_bool q0|exact IsiPair.bool_bool q1
  .exact IsiPair.bool_str q1
  .exact IsiPair.bool_tuple q1
  .exact IsiPair.bool_list q1
 .obtain⟨t,rfl⟩:=(show ∃t,u=Value.int i t from r)
  cases T
  .exact IsiPair.int_int q0
  .exact IsiPair.int_bool q1
  .exact IsiPair.int_str q1
  .exact IsiPair.int_tuple q1
  .exact IsiPair.int_list q1
 .obtain⟨t,rfl⟩:=(show ∃t,u=Value.str x t from r)
  cases T
  .exact IsiPair.str_int q1
  .exact IsiPair.str_bool q1
  .exact IsiPair.str_str q0
  .exact IsiPair.str_tuple q1
  .exact IsiPair.str_list q1
 .cases(show u=Value.ref a from r);obtain⟨its,_,⟨o,n,e,c,_,_⟩,_⟩:=I.list hl;cases T
  .exact IsiPair.list_int e c q1
  .exact IsiPair.list_bool e c q1
  .exact IsiPair.list_str e c q1
  .exact IsiPair.list_tuple e c q1
  .exact IsiPair.list_list e c q0
 .cases(show u=Value.ref a from r);obtain⟨its,_,⟨o,e,c,_⟩,_⟩:=I.tuple ht;cases T
  .exact IsiPair.tuple_int e c q1
  .exact IsiPair.tuple_bool e c q1
  .exact IsiPair.tuple_str e c q1
  .exact IsiPair.tuple_tuple e c q0
  .exact IsiPair.tuple_list e c q1
end
def M4(K:PySem.W.Frag)(T:Ty)(te:TE):TE:=λσ H Q=>te σ H λv H1=>∃b,IsT K T H1 v b/\Q (.bl b) H1
def Sx(K:PySem.W.Frag){X:Cx}(T:Ty){e:Expr}{te:TE}{x:Str}{p px pos:Pos}(hm:X.mg "isinstance"=none)(hmT:X.mg x=none)(hvT:bootBuiltins x=some (.type T.nm))(he:PE X e te)
 (hv:bootBuiltins "isinstance"=some (.builtin "isinstance")) (hK:X.K=K) (hg:Gl X "isinstance") (hgT:Gl X x) (hnT:x≠"__name__") (hdT:(x==("__debug__":Str))=false)
 (hs:starEach [e,.Name x px] X.env=[(false,eval e X.env),(false,eval (.Name x px) X.env)]) (hs2:starEach [.Name x px] X.env=[(false,eval (.Name x px) X.env)]):PE X (.Call (.Name "isinstance" p) [e,.Name x px] [] pos) (M4 K T te):=by
 subst hK;intro pins s σ H Q I h;refine wpAny_Call_Name_kw (Eu I hg hm hv ?_);have go:wpAny (model X.prog X.w) X.A (spliced (backTo pos (starEach [e,.Name x px] X.env))) (λvs s₁=>wpAny (model X.prog X.w) X.A (call (.builtin "isinstance") vs) (EP X pins σ Q) X.xe s₁) X.xe s:=by
  rw[hs];show wpAny _ _ (spliced ((false,eval e X.env)::backTo pos [(false,eval (.Name x px) X.env)])) _ _ s;refine Calls.spliced_cons (thn (he pins s σ H _ I h) λu s1 ⟨v,H1,I1,r1,b,ib,q1⟩=>?_);show wpAny _ _ (spliced ((false,eval (.Name x px) X.env)::backTo pos [])) _ _ s1;refine Calls.spliced_cons (Eu I1 hgT hmT hvT ?_ hnT hdT);refine Calls.spliced_nil ?_;exact Ti I1 r1 ib λtk=>⟨.bl b,H1,I1.tok _,rfl,q1⟩
 exact PyProof.Rows.callWith_builtin1 go (by rw[hs,hs2]) (by rw[hs2];rfl)
section
variable{K:PySem.W.Frag}{ρ ρ':List Addr}{H H':Hp}{hd hd':Hd}
def isD(T:Ty)(hd:Hd):D->Option Bool
 |.im .non=>some false
 |.im (.bl _)=>some (decide (T=.int∨T=.bool))
 |.im (.int _)=>some (decide (T=.int))
 |.im (.str _)=>some (decide (T=.str))
 |.im (.tup _)=>some (decide (T=.tuple))
 |.tm _=>some (decide (T=.tuple))
 |.ro _=>some (decide (T=.list))
 |.op _ _ _=>none
 |.mu n=>match hd[n]? with
  |some (.lst _)=>some (decide (T=.list))
  |_=>none
def Tj{T:Ty}{d:D}{v:V}{b:Bool}(hR:RH K ρ H hd)(h:RD K ρ H d v)(e:isD T hd d=some b):IsT K T H v b:=by
 cases d with
 |im i=>
  cases i with
  |non=>simp only[RD,RI]at h;subst h;simp only[isD,Option.some.injEq]at e;exact .inl ⟨rfl,e.symm⟩
  |bl c=>simp only[RD,RI]at h;subst h;simp only[isD,Option.some.injEq]at e;exact .inr (.inl ⟨c,rfl,e.symm⟩)
  |int c=>simp only[RD,RI]at h;subst h;simp only[isD,Option.some.injEq]at e;exact .inr (.inr (.inl ⟨c,rfl,e.symm⟩))
  |str c=>simp only[RD,RI]at h;subst h;simp only[isD,Option.some.injEq]at e;exact .inr (.inr (.inr (.inl ⟨c,rfl,e.symm⟩)))
  |tup is=>
   obtain⟨a,xs,rfl,q,r⟩:=h.tup (ds:=is.map .im) rfl;simp only[isD,Option.some.injEq]at e;exact .inr (.inr (.inr (.inr (.inr ⟨a,xs,rfl,q,e.symm⟩))))
 |tm ds=>
  obtain⟨a,xs,rfl,q,r⟩:=h.tup (ds:=ds) rfl;simp only[isD,Option.some.injEq]at e;exact .inr (.inr (.inr (.inr (.inr ⟨a,xs,rfl,q,e.symm⟩))))
 |ro ns=>
  obtain⟨a,xs,rfl,q,r⟩:=h.lst hR (hd:=hd) (ds:=ns.map λn=>.im (.int n)) rfl;simp only[isD,Option.some.injEq]at e;exact .inr (.inr (.inr (.inr (.inl ⟨a,xs,rfl,q,e.symm⟩))))
 |op _ _ _=>simp[isD]at e
 |mu n=>
  simp only[isD]at e;split at e
  .next q=>
   cases e;simp only[RD]at h;obtain⟨a,hn,rfl⟩:=h;obtain⟨xs,e1,e2⟩:=hR.lst hn q;exact .inr (.inr (.inr (.inr (.inl ⟨a,xs,rfl,SqL.of e1,rfl⟩))))
  .cases e
def Bb(T:Ty)(ma:ME):ME:=λls hd=>(ma ls hd).bind λp=>(isD T p.2 p.1).map λb=>(.im (.bl b),p.2)
def Rp{T:Ty}{te:TE}{me:ME}(h:RE K te me):RE K (M4 K T te) (Bb T me):=by
 and_intros;obtain⟨⟨d1,h1⟩,e1,hm⟩:=XG hm;obtain⟨b,e2,e3⟩:=XH hm;cases e3;exact h ρ σ H hd ls _ d1 _ hR hL e1 λρ1 H1 v x1 R1 r1=>⟨b,Tj R1 r1 e2,hQ ρ1 H1 _ x1 R1 (by simp[RD,RI])⟩
def GH:∀T:Ty,bootBuiltins T.nm=some (.type T.nm)
 |.int=>by decide +kernel
 |.bool=>by decide +kernel
 |.str=>by decide +kernel
 |.tuple=>by decide +kernel
 |.list=>by decide +kernel
def G4(K:PySem.W.Frag){X:Cx}(T:Ty){e:Expr}{te:TE}{me:ME}{x:Str}{p px pos:Pos}(hm:X.mg "isinstance"=none)(hmT:X.mg x=none)(he:QE K X e te me)(hx:bootBuiltins x=some (.type T.nm):=by first|exact GH .int|exact GH .bool|exact GH .str|exact GH .tuple|exact GH .list)(hK:X.K=K:=by rfl)(hg:Gl X "isinstance":=by rfl)(hgT:Gl X x:=by rfl)
 (hnT:x≠"__name__":=by decide) (hdT:(x==("__debug__":Str))=false:=by decide)
 (hs:starEach [e,.Name x px] X.env=[(false,eval e X.env),(false,eval (.Name x px) X.env)]:=by rfl) (hs2:starEach [.Name x px] X.env=[(false,eval (.Name x px) X.env)]:=by rfl):QE K X (.Call (.Name "isinstance" p) [e,.Name x px] [] pos) (M4 K T te) (Bb T me):=
 ⟨Sx K T hm hmT hx he.p Hb hK hg hgT hnT hdT hs hs2,Rp he.r⟩
end
section
variable{ls:Ls}{hd:Hd}{ma mo mi me:ME}{QE:D->Hd->Prop}{QS:Fl->Hd->Prop}
def Af{T:Ty}(h:WE ma ls hd λd x=>∃b,isD T x d=some b/\QE (.im (.bl b)) x):WE (Bb T ma) ls hd QE:=by
 obtain⟨d,x,e,b,e2,q⟩:=h;exact⟨_,_,by simp only[Bb,e,bind_some,e2,map_some],q⟩
end
end L2
namespace HT
open PySem PySem.Spec PyProof.Rows
section
variable{prog:Program}{w:World}{A:Around}{E:Value->Shared->Prop}{s:Shared}
def getItem_tuple_whole{t sl:Addr}{items:Array Value}{vl vu:Value}{lo hi:Option Int}{Q:Value->Shared->Prop}(ht:IsTup s.heap t items)(hs:s.heap.IsSliceOf sl vl vu .none)(pl:IsPart vl lo)(pu:IsPart vu hi)
 (hw:sIx items.size 0 lo=0/\sIx items.size items.size hi=items.size) (h:Q (.ref t) s):wpAny (model prog w) A (getItem (.ref t) (.ref sl)) Q E s:=by
 obtain⟨os,hos,hcs,hds⟩:=id hs;have hTs:s.TypeIs (.ref sl) "slice":=⟨os,hos,hcs⟩
 unfold getItem
 try with_reducible refine wpAny_holding ?_
 first|refine wpAny_bind (wpAny_pure ?_)|skip
 refine wpAny_bind (wpAny_sequenceKey ht.typeIs (by decide) ?_);refine wpAny_bind (wpAny_callSpecial?_slot (name:=Str.ofString "__getitem__") ht.typeIs PyProof.Rows.slot_tuple_getitem
  (wpAny_call_entry PyProof.Rows.slot_tuple_getitem ht.typeIs entry_tuple_getitem ?_ (args_tuple_getitem _ _)))
 show wpAny _ _ (Builtin.Tuple.tupleItemsOf (.ref t) >>= _) _ _ s;refine wpAny_bind (tupleItemsOf_ ht ?_);refine wpAny_bind (wpAny_typeOf hTs ?_);rw[if_pos (by decide)];refine wpAny_bind (DN hs pl pu ?_);have hno:(((sIx items.size 0 lo:Nat):Int)==0&&(1:Int)==1&&(sIx items.size items.size hi-sIx items.size 0 lo)==items.size)=true:=by
  rw[hw.1,hw.2];simp
 show wpAny _ _ (if(((sIx items.size 0 lo:Nat):Int)==0&&(1:Int)==1&&(sIx items.size items.size hi-sIx items.size 0 lo)==items.size)=true then _ else _) _ _ s;rw[if_pos hno];refine wpAny_bind ?_;unfold Builtin.Tuple.tupleIsExact;refine wpAny_bind (wpAny_typeOf ht.typeIs (wpAny_pure ?_));rw[if_pos (by decide)];exact wpAny_bind (wpAny_rule (wpAny_pure ⟨_,rfl,wpAny_pure h⟩))
end
end HT
namespace L2
open PySem PySem.Spec PyProof.Rows
section
variable{X:Cx}
def MY(K:PySem.W.Frag):V->Option Int->Option Int->Hp->VK->Prop:=λx lo hi H Q=>S1 K x lo hi H Q∨∃a xs,x=.ref a/\SqT K H a xs/\(HT.sIx xs.length 0 lo=0/\HT.sIx xs.length xs.length hi=xs.length)/\Q (.ref a) H
def OJ(K:PySem.W.Frag)(hK:X.K=K:=by rfl):SlR X (MY K):=by
 subst hK;intro pins s σ H x v vl vu lo hi sl Q I rx hs pl pu h;rcases h with h|⟨a,xs,rfl,hx,hw,q⟩
 .exact Qu pins s σ H x v vl vu lo hi sl Q I rx hs pl pu h
 cases rx;obtain⟨its,r,ht,hz⟩:=I.tuple hx;have hlen:its.toArray.size=xs.length:=by rw[size_toArray];exact r.length.symm
 refine⟨"tuple",_,PyProof.Rows.slot_tuple_getitem.lookup,ht.typeIs,?_⟩;exact HT.getItem_tuple_whole ht hs pl pu (by rw[hlen];exact hw) ⟨.ref a,H,I,rfl,q⟩
end
section
variable{K:PySem.W.Frag}{ρ ρ':List Addr}{H H':Hp}{hd hd':Hd}
def Ay(m:ME)(ml mh:MO1):ME:=λls hd=>(m ls hd).bind λp=>(ml ls p.2).bind λl=>(mh ls l.2).bind λh=>(AH p.1).map λds=>(AV (Bv ds l.1 h.1),h.2)
def Rm{t:TE}{tl th:TO}{m:ME}{ml mh:MO1}(h:RE K t m)(hl:RO1 K tl ml)(hh:RO1 K th mh):RE K (tSl (MY K) t tl th) (Ay m ml mh):=by
 and_intros;obtain⟨⟨d1,h1⟩,e1,hm⟩:=XG hm;obtain⟨⟨d2,h2⟩,e2,hm⟩:=XG hm;obtain⟨⟨d3,h3⟩,e3,hm⟩:=XG hm;obtain⟨ds,e4,e5⟩:=XH hm;cases e5;dsimp only at e2 e3 e4;refine h ρ σ H hd ls _ d1 h1 hR hL e1 λρ1 H1 v1 x1 R1 r1=>?_;refine hl ρ1 σ H1 h1 ls _ d2 h2 R1 (hL.ext hR x1) e2 λρ2 H2 x2 R2=>?_;refine hh ρ2 σ H2 h2 ls _ d3 _ R2 (hL.ext hR (x1.trans R1 x2)) e3 λρ3 H3 x3 R3=>?_;obtain⟨a,xs,rfl,q,r⟩:=((r1.ext R1 x2).ext R2 x3).tup e4;by_cases c:HT.sIx ds.length 0 d2=0/\HT.sIx ds.length ds.length d3=ds.length
 .refine .inr ⟨a,xs,rfl,q,by rw[r.len];exact c,?_⟩;have e6:Bv ds d2 d3=ds:=by unfold Bv;rw[c.1,c.2];simp
  rw[e6]at hQ;exact hQ ρ3 _ _ ((x1.trans R1 x2).trans R2 x3) R3 (Bz q r)
 .refine .inl ⟨a,xs,rfl,q,by rw[r.len];exact c,λp hp=>?_⟩;obtain⟨R4,x4⟩:=R3.hid (ho:=.tup (Du xs d2 d3)) hp;exact hQ ρ3 _ _ (((x1.trans R1 x2).trans R2 x3).trans R3 x4) R4 (Bz (SqT.of Ae) ((Ji r).ext R3 x4))
def SO(K:PySem.W.Frag){X:Cx}{e:Expr}{te:TE}{me:ME}{lo hi:Option Expr}{tl th:TO}{ml mh:MO1}{p2 pos:Pos}(h:QE K X e te me)(hl:QO K X lo tl ml)(hh:QO K X hi th mh)(hK:X.K=K:=by rfl):QE K X (.Subscript e (.Slice lo hi none p2) pos) (tSl (MY K) te tl th) (Ay me ml mh):=⟨FY (OJ K hK) h.p hl.p hh.p,Rm h.r hl.r hh.r⟩
def Eg{ma:ME}{ls:Ls}{QE:D->Hd->Prop}{ml mh:MO1}(h:WE ma ls hd λd x=>WO ml ls x λl y=>WO mh ls y λu z=>∃ds,AH d=some ds/\QE (AV (Bv ds l u)) z):WE (Ay ma ml mh) ls hd QE:=by
 obtain⟨d,x,e1,l,y,e2,u,z,e3,ds,e4,q⟩:=h;exact⟨_,_,by simp only[Ay,e1,bind_some,e2,e3,e4,map_some],q⟩
end
section
variable{X:Cx}
def QX{prog:Program}{w:World}{A:Around}{E:Value->Shared->Prop}{s:Shared}{t b:Addr}{vs ws:List Value}{Q:Value->Shared->Prop}(ht:IsTup s.heap t vs.toArray)(hb:IsTup s.heap b ws.toArray)(hv:vs=[])
 (h1:Q (.ref b) s):wpAny (model prog w) A (binaryOp .Add (.ref t) (.ref b)) Q E s:=by
 obtain⟨⟨cls,dd,data,sl⟩,ho,hc,n,hd⟩:=id ht;obtain⟨⟨cls2,dd2,data2,sl2⟩,ho2,hc2,n2,hd2⟩:=id hb;simp only at hc hd hc2 hd2;subst hc hd hc2 hd2;exact concat_meets ⟨_,ho,rfl⟩ ⟨_,ho2,rfl⟩ noFill_tuple_add seq_tuple_add PySem.F.slot_tuple_add PySem.F.entry_tuple_add (PySem.F.args_tuple_add_2 _ _)
  (tuple_addW0 t b vs.toArray ws.toArray n n2 dd dd2 sl sl2 (by simp[hv])) ⟨ho,ho2,h1⟩
def Ng(K:PySem.W.Frag):R2:=λx y H Q=>∃a b ys,x=.ref a/\y=.ref b/\SqT K H a []/\SqT K H b ys/\Q (.ref b) H
def Pz(K:PySem.W.Frag)(hK:X.K=K:=by rfl):OpR X (binaryOp .Add) (Ng K):=by
 subst hK;intro pins s σ H x y v u Q I rx ry h;obtain⟨a,b,ys,rfl,rfl,ha,hb,q⟩:=h;cases rx;cases ry;obtain⟨its,r1,p1,_⟩:=I.tuple ha;obtain⟨its2,r2,p2,_⟩:=I.tuple hb;have:its=[]:=by cases r1;rfl
 exact QX p1 p2 this ⟨.ref b,H,I,rfl,q⟩
def ET:D->D->Hd->Option (D×Hd):=λd e hd=>(AH d).bind λa=>(AH e).bind λb=>if a=[]then some (AV b,hd)else none
def Ot{K:PySem.W.Frag}:RB K (Ng K) ET:=by
 intro ρ H hd d e v u Q z hd' hR h1 h2 hf hQ;unfold ET at hf;obtain⟨a,e1,hf⟩:=XG hf;obtain⟨b,e2,hf⟩:=XG hf;split at hf
 .next c=>
  cases hf;subst c;obtain⟨p,xs,rfl,q1,r1⟩:=h1.tup e1;obtain⟨p2,ys,rfl,q2,r2⟩:=h2.tup e2;have:xs=[]:=by simpa [RDs]using r1
  subst this;exact⟨p,p2,ys,rfl,rfl,q1,q2,hQ ρ H _ .refl hR (Bz q2 r2)⟩
 .cases hf
end
end L2
namespace L2
abbrev C5:=Bh AL ET
end L2
namespace L2
open PySem PySem.Spec PyProof.Rows
section
variable{K:PySem.W.Frag}{ρ ρ':List Addr}{H H':Hp}{hd hd':Hd}
def DW:List D->Hd->Option (D×Hd)
 |[.im (.int i)],hd=>some (.im (.int i),hd)
 |[.im (.bl b)],hd=>some (.im (.int (if b then 1 else 0)),hd)
 |_,_=>none
def Rg:RF K (λxs H Q=>(∃i,xs=[.int i]/\Q (.int i) H)∨∃k,xs=[.bl k]/\Q (.int (if k then 1 else 0)) H) DW:=by
 intro ρ H hd ds vs Q z hd' hR h1 hf hQ;unfold DW at hf;split at hf
 .cases hf;simp only[RDs,RD,RI]at h1;obtain⟨x,r,rfl,rfl,rfl⟩:=h1;exact .inl ⟨_,rfl,hQ ρ H _ .refl hR (by simp[RD,RI])⟩
 .cases hf;simp only[RDs,RD,RI]at h1;obtain⟨x,r,rfl,rfl,rfl⟩:=h1;exact .inr ⟨_,rfl,hQ ρ H _ .refl hR (by simp[RD,RI])⟩
 .cases hf
end
end L2
namespace HS
open PySem PyProof.Rows
open PySem.AutoSeq1 (wpAny_loadPart')
open Sem (wp)
abbrev st(t:Tok):List (Str×Value):=[(Str.ofString "start",.int 1 t)]
end HS
namespace L2
open PySem PySem.Spec PyProof.Rows
theorem pick_all:∀L:List Value,(List.range L.length).filterMap (λi=>L[i]?)=L
 |[]=>rfl
 |x::r=>by
  rw[List.length_cons,List.range_succ_eq_map,filterMap_cons];simp only[List.getElem?_cons_zero,List.filterMap_map]
  congr 1
  have:=pick_all r;simpa [Function.comp_def]using this
theorem FV:∀{xs:List V} {us:List Value},Vals xs us->Vals xs.reverse us.reverse
 |_,_,.nil=>.nil
 |_,_,.cons r t=>by
  rw[reverse_cons,reverse_cons];exact Vals.append (FV t) (.cons r .nil)
section
variable{K:PySem.W.Frag}{ρ:List Addr}{H:Hp}
theorem RDs.rev:∀{ds:List D} {xs:List V},RDs K ρ H ds xs->RDs K ρ H ds.reverse xs.reverse
 |[],xs,h=>by simp only[RDs]at h;subst h;simp[RDs]
 |d::ds,xs,h=>by
  simp only[RDs]at h;obtain⟨x,r,rfl,rx,h⟩:=h;rw[reverse_cons,reverse_cons];exact(RDs.rev h).app (.cons rx .nil)
variable{X:Cx}{e stp:Expr}{te ts:TE}{m:MA}{ms:ME}{pos p2:Pos}
end
end L2
namespace HT
open PySem PySem.Spec PyProof.Rows
section
variable{prog:Program}{w:World}{A:Around}{E:Value->Shared->Prop}{s:Shared}
def Ke(n:Nat):Builtin.Slice.sliceAdjust none none (-1) (n:Int)=((n:Int)-1,-1):=by
 unfold Builtin.Slice.sliceAdjust;simp
def KG(n:Nat):Builtin.Slice.slicePlaces ((n:Int)-1) (-1) (-1)=n:=by
 unfold Builtin.Slice.slicePlaces;simp
 try omega
def FW{sl:Addr}{n:Nat}{t:Tok}{Q:Int×Int×Nat->Shared->Prop}(hs:s.heap.IsSliceOf sl .none .none (.int (-1) t))(h:Q ((n:Int)-1,-1,n) s):wpAny (model prog w) A (Builtin.Slice.sliceApplied (.ref sl) (pure (n:Int))) Q E s:=by
 obtain⟨os,hos,hcs,hds⟩:=id hs;unfold Builtin.Slice.sliceApplied Builtin.Slice.sliceFields;refine wpAny_bind (wpAny_bind (wpAny_field hos hds (x:=.none) rfl (wpAny_bind (wpAny_field hos hds (x:=.none) rfl (wpAny_bind (wpAny_field hos hds (x:=.int (-1) t) rfl (wpAny_pure ?_)))))));refine wpAny_bind (slicePart_int ?_);show wpAny _ _ (if((-1:Int)==0)=true then _ else _) _ _ s;rw[if_neg (by decide)];refine wpAny_bind (slicePart_none (wpAny_bind (slicePart_none (wpAny_bind (wpAny_pure ?_)))));show wpAny _ _ (match Builtin.Slice.sliceAdjust none none (-1) (n:Int)with|(lo,hi)=>pure (lo,(-1:Int),Builtin.Slice.slicePlaces lo hi (-1))) _ _ s;rw[Ke n];show wpAny _ _ (pure ((n:Int)-1,(-1:Int),Builtin.Slice.slicePlaces ((n:Int)-1) (-1) (-1))) _ _ s;rw[KG];exact wpAny_pure h
theorem Im{α β:Type}{f g:α->Option β}:∀{l:List α},(∀x∈l,f x=g x)->l.filterMap f=l.filterMap g
 |[],_=>rfl
 |x::l,h=>by rw[filterMap_cons,filterMap_cons,h x mem_cons_self,Im λy hy=>h y (mem_cons_of_mem _ hy)]
def LD(xs:Array Value):((List.range xs.size).filterMap λ(m:Nat)=>xs[((xs.size:Int)-1+(m:Int)*(-1)).toNat]?).toArray=xs.toList.reverse.toArray:=by
 congr 1
 have e:(List.range xs.size).filterMap (λ(m:Nat)=>xs[((xs.size:Int)-1+(m:Int)*(-1)).toNat]?)=(List.range xs.toList.reverse.length).filterMap λi=>xs.toList.reverse[i]? := by
  rw[List.length_reverse,Array.length_toList];refine Im λm hm=>?_;have hm:m<xs.size:=by simpa using hm
  rw[List.getElem?_reverse (by simpa using hm)];simp only[Array.length_toList,Array.getElem?_toList]
  congr 1
  omega
 rw[e];exact L2.pick_all _
def getItem_tuple_rev{t sl:Addr}{items:Array Value}{k:Tok}{Q:Value->Shared->Prop}(ht:IsTup s.heap t items)(hs:s.heap.IsSliceOf sl .none .none (.int (-1) k))(h:Q (.ref s.heap.objs.size) { s with heap:=s.heap.push { cls:=.type "tuple",data:=.seq items.toList.reverse.toArray } })(hsz:items.size<=sizeLine):wpAny (model prog w) A (getItem (.ref t) (.ref sl)) Q E s:=by
 have hsize:sizeOk (.seq items.toList.reverse.toArray):=by
  show items.toList.reverse.toArray.size<=sizeLine;simpa using hsz
 obtain⟨os,hos,hcs,hds⟩:=id hs;have hTs:s.TypeIs (.ref sl) "slice":=⟨os,hos,hcs⟩
 unfold getItem
 try with_reducible refine wpAny_holding ?_
 first|refine wpAny_bind (wpAny_pure ?_)|skip
 refine wpAny_bind (wpAny_sequenceKey ht.typeIs (by decide) ?_);refine wpAny_bind (wpAny_callSpecial?_slot (name:=Str.ofString "__getitem__") ht.typeIs PyProof.Rows.slot_tuple_getitem
  (wpAny_call_entry PyProof.Rows.slot_tuple_getitem ht.typeIs entry_tuple_getitem ?_ (args_tuple_getitem _ _)))
 show wpAny _ _ (Builtin.Tuple.tupleItemsOf (.ref t) >>= _) _ _ s;refine wpAny_bind (tupleItemsOf_ ht ?_);refine wpAny_bind (wpAny_typeOf hTs ?_);rw[if_pos (by decide)];refine wpAny_bind (FW hs ?_);show wpAny _ _ (if((((items.size:Int)-1)==0&&(-1:Int)==1&&items.size==items.size)=true)then _ else _) _ _ s;rw[if_neg (by simp),LD]
 first
  |exact wpAny_bind (m:=Builtin.Tuple.tupleExact _) (wpAny_newObj_type (wpAny_pure ⟨_,rfl,wpAny_pure h⟩) hsize)
  |exact wpAny_bind (m:=Builtin.Tuple.tupleExact _) (wpAny_newObj_type (wpAny_bind (wpAny_pure (wpAny_pure ⟨_,rfl,wpAny_pure h⟩))) hsize)
  |exact wpAny_bind (wpAny_bind (m:=Builtin.Tuple.tupleExact _) (wpAny_newObj_type (wpAny_pure (wpAny_pure ⟨_,rfl,wpAny_pure h⟩)) hsize))
  |exact wpAny_bind (wpAny_bind (m:=Builtin.Tuple.tupleExact _) (wpAny_newObj_type (wpAny_pure ⟨_,rfl,wpAny_pure h⟩) hsize))
end
end HT
namespace L2
open PySem PySem.Spec PyProof.Rows
section
variable{X:Cx}{e stp:Expr}{te ts:TE}{pos p2:Pos}
def Jw(K:PySem.W.Frag)(te ts:TE):TE:=λσ H Q=>te σ H λx H1=>ts σ H1 λy H2=>y=.int (-1)/\∃a xs,x=.ref a/\SqT K H2 a xs/\∀p,H2 p=none->Q (.ref p) (upd H2 p (.tup xs.reverse))
def Po(he:PE X e te)(hs:PE X stp ts):PE X (.Subscript e (.Slice none none (some stp) p2) pos) (Jw X.K te ts):=by
 intro pins s σ H Q I h;refine Subscript_ (thn (he pins s σ H _ I h) λv s1 ⟨x,H1,I1,r1,q1⟩=>?_);refine wpAny_Slice ?_;rw[evalPart_none];refine wpAny_pure (wpAny_pure ?_);rw[evalPart_some];refine thn (hs pins s1 σ H1 _ I1 q1) λvs s3 ⟨y,H3,I3,r3,q3⟩=>?_;obtain⟨rfl,a,xs,rfl,hx,q⟩:=q3;obtain⟨t,rfl⟩:=r3;cases r1;have I4:Inv X pins σ H3 { s3 with heap:=s3.heap.push { cls:=.type "slice",data:=.fields #[.none,.none,.int (-1) t] } }:=I3.kept (t':=s3.toks) λb ob q=>Heap.get?_push_of_some _ q;obtain⟨its,r,ht,hz⟩:=I4.tuple hx;have hlen:=r.length;have hg:wpAny (model X.prog X.w) X.A (getItem (.ref a) (.ref s3.heap.objs.size)) (EP X pins σ Q) X.xe { s3 with heap:=s3.heap.push { cls:=.type "slice",data:=.fields #[.none,.none,.int (-1) t] } }:=by
  refine HT.getItem_tuple_rev ht (Heap.IsSliceOf.new ..) ?_ (by rw[size_toArray]<;>omega);refine⟨.ref _,_,I4.laid (t':=s3.toks) (o:=.tup xs.reverse) (λb ob q=>Heap.get?_push_of_some _ q) (le_refl _) ?_,rfl,q _ (I4.hok.fresh (le_refl _))⟩;exact⟨by rw[List.length_reverse];exact hz,its.reverse,FV r,IsTupD.new _ _⟩
 show wpAny (model X.prog X.w) X.A (subscriptTail e (.Slice none none (some stp) p2) (.ref a) (.ref s3.heap.objs.size)) (EP X pins σ Q) X.xe { s3 with heap:=s3.heap.push { cls:=.type "slice",data:=.fields #[.none,.none,.int (-1) t] } };exact tail_any (ops:=[.ref a,.ref s3.heap.objs.size]) ht.typeIs PyProof.Rows.slot_tuple_getitem.lookup hg (by with_unfolding_all rfl)
end
section
variable{K:PySem.W.Frag}{X:Cx}{e stp:Expr}{te ts:TE}{m ms:ME}{pos p2:Pos}
def ER(m ms:ME):ME:=λls hd=>(m ls hd).bind λp=>(ms ls p.2).bind λq=>match q.1 with
 |.im (.int i)=>if i=-1 then(AH p.1).map λds=>(AV ds.reverse,q.2)else none
 |_=>none
def Oi(h:RE K te m)(hs:RE K ts ms):RE K (Jw K te ts) (ER m ms):=by
 and_intros;obtain⟨⟨d1,h1⟩,e1,hm⟩:=XG hm;obtain⟨⟨d2,h2⟩,e2,hm⟩:=XG hm;dsimp only at e2 hm;split at hm
 .split at hm
  .next hi=>
   obtain⟨ds,e3,e4⟩:=XH hm;cases e4;subst hi;refine h ρ σ H hd ls _ d1 h1 hR hL e1 λρ1 H1 v1 x1 R1 r1=>?_;refine hs ρ1 σ H1 h1 ls _ _ _ R1 (hL.ext hR x1) e2 λρ2 H2 v x2 R2 r2=>?_;simp only[RD,RI]at r2;obtain⟨a,xs,rfl,q,r⟩:=(r1.ext R1 x2).tup e3;refine⟨r2,a,xs,rfl,q,λp hp=>?_⟩;obtain⟨R3,x3⟩:=R2.hid (ho:=.tup xs.reverse) hp;exact hQ ρ2 _ _ ((x1.trans R1 x2).trans R2 x3) R3 (Bz (SqT.of Ae) ((RDs.rev r).ext R2 x3))
  .cases hm
 .cases hm
def PN(h:QE K X e te m)(hs:QE K X stp ts ms)(hK:X.K=K:=by rfl):QE K X (.Subscript e (.Slice none none (some stp) p2) pos) (Jw K te ts) (ER m ms):=by
 subst hK;exact⟨Po h.p hs.p,Oi h.r hs.r⟩
def O7{ls:Ls}{hd:Hd}{Q:D->Hd->Prop}(h:WE m ls hd λd x=>WE ms ls x λi y=>i=.im (.int (-1))/\∃ds,AH d=some ds/\Q (AV ds.reverse) y):WE (ER m ms) ls hd Q:=by
 obtain⟨d,x,e1,i,y,e2,rfl,ds,e3,q⟩:=h;exact⟨_,_,by simp only[ER,e1,e2,bind_some,if_true,e3,map_some],q⟩
end
end L2
namespace L2
open PySem PySem.Spec PyProof.Rows PySem.W
def bt_str:bootBuiltins "str"=some (.type "str"):=by decide +kernel
def S0:List V->Hp->VK->Prop:=λxs H Q=>(∃i,xs=[.int i]/\i.natAbs.log2<1920/\Q (.str (toString i)) H)∨(∃k,xs=[.bl k]/\Q (.str (if k then "True" else "False":Str)) H)∨(xs=[.non]/\Q (.str "None") H)
def NF{X:Cx}:Ba X (.type "str") S0:=by
 intro pins s σ H xs us Q I r h;rcases h with⟨i,rfl,hi,q⟩|⟨k,rfl,q⟩|⟨rfl,q⟩
 .obtain⟨u,rfl,ru⟩:=C2 r;obtain⟨t,rfl⟩:=ru;exact PySem.P.str_of_int hi ⟨.str (toString i),H,I.tok _,⟨_,rfl⟩,q⟩
 .obtain⟨u,rfl,ru⟩:=C2 r;cases ru;exact PySem.P.str_of_bool ⟨.str (if k then "True" else "False":Str),H,I.tok _,⟨_,rfl⟩,q⟩
 .obtain⟨u,rfl,ru⟩:=C2 r;cases ru;exact PySem.P.str_of_none ⟨.str "None",H,I.tok _,⟨_,rfl⟩,q⟩
open Classical in
def Dt:List D->Hd->Option (D×Hd)
 |[.im (.int i)],hd=>if i.natAbs.log2<1920 then some (.im (.str (toString i)),hd)else none
 |[.im (.bl k)],hd=>some (.im (.str (if k then "True" else "False":Str)),hd)
 |[.im .non],hd=>some (.im (.str "None"),hd)
 |_,_=>none
def Rf{K:PySem.W.Frag}:RF K S0 Dt:=by
 intro ρ H hd ds vs Q z hd' hR h1 hf hQ;unfold Dt at hf;split at hf
 .split at hf
  .next c=>
   cases hf;simp only[RDs,RD,RI]at h1;obtain⟨x,r,rfl,rfl,rfl⟩:=h1;exact .inl ⟨_,rfl,c,hQ ρ H _ .refl hR (by simp[RD,RI])⟩
  .cases hf
 .cases hf;simp only[RDs,RD,RI]at h1;obtain⟨x,r,rfl,rfl,rfl⟩:=h1;exact .inr (.inl ⟨_,rfl,hQ ρ H _ .refl hR (by simp[RD,RI])⟩)
 .cases hf;simp only[RDs,RD,RI]at h1;obtain⟨x,r,rfl,rfl,rfl⟩:=h1;exact .inr (.inr ⟨rfl,hQ ρ H _ .refl hR (by simp[RD,RI])⟩)
 .cases hf
section
variable{hd:Hd}{QE:D->Hd->Prop}
def O3{i:Int}(h:i.natAbs.log2<1920)(q:QE (.im (.str (toString i))) hd):WP (Dt [.im (.int i)] hd) QE:=⟨_,_,by simp[Dt,h],q⟩
def O4{k:Bool}(q:QE (.im (.str (if k then "True" else "False":Str))) hd):WP (Dt [.im (.bl k)] hd) QE:=⟨_,_,rfl,q⟩
end
def IT:List V->Hp->VK->Prop:=λxs H Q=>∃k,xs=[.bl k]/\Q (.str (if k then "True" else "False":Str)) H
def GF{X:Cx}:Ba X (.builtin "repr") IT:=by
 intro pins s σ H xs us Q I r h;obtain⟨k,rfl,q⟩:=h;obtain⟨u,rfl,ru⟩:=C2 r;cases ru;exact PySem.P.repr_of_bool ⟨.str (if k then "True" else "False":Str),H,I.tok _,⟨_,rfl⟩,q⟩
def C0:List D->Hd->Option (D×Hd)
 |[.im (.bl k)],hd=>some (.im (.str (if k then "True" else "False":Str)),hd)
 |_,_=>none
def IR{K:PySem.W.Frag}:RF K IT C0:=by
 intro ρ H hd ds vs Q z hd' hR h1 hf hQ;unfold C0 at hf;split at hf
 .cases hf;simp only[RDs,RD,RI]at h1;obtain⟨x,r,rfl,rfl,rfl⟩:=h1;exact⟨_,rfl,hQ ρ H _ .refl hR (by simp[RD,RI])⟩
 .cases hf
def EI{hd:Hd}{QE:D->Hd->Prop}{k:Bool}(q:QE (.im (.str (if k then "True" else "False":Str))) hd):WP (C0 [.im (.bl k)] hd) QE:=⟨_,_,rfl,q⟩
end L2
namespace L2
open PySem PySem.W
def tg1:Expr->List Str
 |.Name x _=>[x]
 |_=>[]
def tg2:Expr->List Str
 |.Tuple es _ _=>es.flatMap tg1
 |e=>tg1 e
def tgN:Expr->List Str
 |.Tuple es _ _=>es.flatMap tg2
 |e=>tg1 e
def frN(X:Cx)(ix:List Nat):List Str:=ix.filterMap λi=>X.N[i]?
def ndB:List Str->Bool
 |[]=>true
 |x::xs=>!xs.elem x&&ndB xs
theorem DT:∀{l:List Str},ndB l=true->l.Nodup
 |[],_=>List.nodup_nil
 |x::xs,h=>by
  obtain⟨h1,h2⟩:=Bool.and_eq_true_iff.mp h;refine nodup_cons.mpr ⟨λhm=>?_,DT h2⟩;rw[List.elem_eq_true_of_mem hm]at h1;cases h1
section
variable{K:PySem.W.Frag}{X:Cx}{elt tg iter tg' iter' e:Expr}{ifs ifs':List Expr}{scope:Scope}{pos spos py:Pos}{ix:List Nat}{wi wi':TI}{g g':TG}{tf tf':TT}{te tk tv:TE}{mi mi':MI}{n n':MG}{mf mf':MT}{me mk mv:ME}{k i:Nat}{x y:Str}
def qgA(hN:ndB X.N=true:=by kernel_rfl)(hi:X.N[i]?=some x:=by rfl)(hx:Loc X.env.scope x:=by first|exact Or.inl rfl|exact Or.inr rfl)(hf:X.fn x=true∨X.env.scope.names.lookup x=some .local:=by first|exact .inl rfl|exact .inr rfl):QG K X (.Name x pos) (Cs i) (Au i):=PM K (DT hN) hi hx hf
def qnA(hi:QI K X tg iter wi mi)(hg:∀s H ex,QG K (cCx X (tgN tg++frN X ix) scope s H ex) tg g n)(hf:∀s H ex,QF K (cCx X (tgN tg++frN X ix) scope s H ex) ifs tf mf)(he:∀s H ex,QE K (cCx X (tgN tg++frN X ix) scope s H ex) elt te me)
 (hc:X.calm=true:=by rfl) (S:CSc X scope (frN X ix) ix:=by exact⟨rfl,by decide +kernel,rfl,rfl,rfl,by decide +kernel⟩) (hs:∀x,foldedSetIterable iter X.env x=pure x:=by intro _;rfl) (hk:(tgN tg).length=k:=by rfl):
 QN K X (.ListComp elt [⟨tg,iter,ifs,0⟩] scope pos) (EL k ix wi g tf te) (Cr k ix mi n mf me):=by
 subst hk;exact PH K hc S hi hg hf he hs
def VJ(hi:QI K X tg iter wi mi)(hg:∀s H ex,QG K (cCx X (tgN tg++frN X ix) scope s H ex) tg g n)(hf:∀s H ex,QF K (cCx X (tgN tg++frN X ix) scope s H ex) ifs tf mf)(he:∀s H ex,QE K (cCx X (tgN tg++frN X ix) scope s H ex) elt te me)
 (hsw:swapsWith (.ListComp elt [⟨tg,iter,ifs,0⟩] scope pos) (some (.Name y py)) spos.line X.env=pure true:=by rfl) (hN:ndB X.N=true:=by kernel_rfl) (hiN:X.N[i]?=some y:=by rfl) (hy:X.env.scope.names.lookup y=some .local:=by rfl)
 (hc:X.calm=true:=by rfl) (S:CSc X scope (frN X ix) ix:=by exact⟨rfl,by decide +kernel,rfl,rfl,rfl,by decide +kernel⟩) (hs:∀x,foldedSetIterable iter X.env x=pure x:=by intro _;rfl) (hk:(tgN tg).length=k:=by rfl):
 QS K X (.Assign [.Name y py] (.ListComp elt [⟨tg,iter,ifs,0⟩] scope pos) spos) (EM (EL k ix wi g tf te) (Cs i)) (AR i (Ah (Cr k ix mi n mf me))):=by
 subst hk;exact P2 K (DT hN) hiN hy hc S hi hg hf he hsw hs
def qsA{pos':Pos}(he:QE K X e te me)(hs:swapsWith e (some (.Name x pos')) pos.line X.env=pure false:=by rfl)(hN:ndB X.N=true:=by kernel_rfl)(hi:X.N[i]?=some x:=by rfl)(hx:Loc X.env.scope x:=by first|exact Or.inl rfl|exact Or.inr rfl)(hf:X.fn x=true∨X.env.scope.names.lookup x=some .local:=by first|exact .inl rfl|exact .inr rfl):
 QS K X (.Assign [.Name x pos'] e pos) (EM te (Cs i)) (AR i me):=S7 K (DT hN) hi hx he hs hf
end
end L2
namespace L2
open PySem PySem.Spec PyProof.Rows PySem.W
abbrev Tb:=Addr×Str×Nat×Nat
def Q7(ts:List Tb):Obj:={ cls:=.str "tables" 0,data:=.fields (ts.flatMap λt=>[.ref t.1,.str t.2.1 0,.int t.2.2.1 0,.int t.2.2.2 0]).toArray }
def BU(K:PySem.W.Frag)(ts:List Tb):PySem.W.Frag:=(K.filter λp=>!(ts.map (·.1)).contains p.1)++[(mainGlobals,Q7 ts)]
theorem Km:∀ts:List Tb,Hf (ts.flatMap λt=>[Value.ref t.1,.str t.2.1 0,.int t.2.2.1 0,.int t.2.2.2 0])=ts.map λt=>(t.1,t.2.1,⟨t.2.2.1,t.2.2.2,0,0⟩)
 |[]=>rfl
 |t::r=>by
  rw[List.flatMap_cons,map_cons,<- Km r];rfl
def Kl(K:PySem.W.Frag)(ts:List Tb):Fq (BU K ts)=ts.map λt=>(t.1,t.2.1,⟨t.2.2.1,t.2.2.2,0,0⟩):=by
 unfold Fq BU;rw[List.getLast?_concat];show Hf _=_;rw[<- Km ts]
theorem Dq{L:List Addr}{a:Addr}(ha:a∉L):∀K:PySem.W.Frag,(K.filter λp=>!L.contains p.1).lookup a=K.lookup a
 |[]=>rfl
 |(b,o)::r=>by
   have ih:=Dq ha r;rw[List.filter_cons];by_cases hb:b∈L
   .have h1:(!L.contains (b,o).1)=false:=by simp[hb]
    have h2:(a==b)=false:=beq_eq_false_iff_ne.mpr λz=>ha (z ▸ hb);rw[if_neg (by rw[h1];decide),lookup_cons,h2,ih]
   .have h1:(!L.contains (b,o).1)=true:=by simp[hb]
    rw[if_pos h1,lookup_cons,lookup_cons,ih]
theorem Et{L:List Addr}{P:Addr}(hP:P∈L):∀K:PySem.W.Frag,(K.filter λp=>!L.contains p.1).lookup P=none
 |[]=>rfl
 |(b,o)::r=>by
   have ih:=Et hP r;rw[List.filter_cons];by_cases hb:b∈L
   .rw[if_neg (by simp[hb])];exact ih
   .have h2:(P==b)=false:=beq_eq_false_iff_ne.mpr λz=>hb (z ▸ hP);rw[if_pos (by simp[hb]),lookup_cons,h2];exact ih
section
variable{K:PySem.W.Frag}{ts:List Tb}
def Ep{a:Addr}{o:Obj}(ha:a∉ts.map (·.1))(e:K.lookup a=some o):(BU K ts).lookup a=some o:=by
 unfold BU;rw[lookup_append,Dq ha,e];rfl
def Q6{h:Heap}(X:K.In h){g:Obj}(hg:K.lookup mainGlobals=some g)(hP:mainGlobals∉ts.map (·.1)):(BU K ts).In h:=λa o e=>by
 unfold BU at e;rw[lookup_append]at e;by_cases ha:a∈ts.map (·.1)
 .rw[Et ha,none_or]at e;have h2:(a==mainGlobals)=false:=beq_eq_false_iff_ne.mpr λz=>hP (z ▸ ha);rw[lookup_cons,h2]at e;cases e
 .rw[Dq ha]at e;cases k:K.lookup a with
  |some o'=>rw[k]at e;cases e;exact X _ _ k
  |none=>
   rw[k,none_or,lookup_cons]at e;by_cases hm:a=mainGlobals
   .subst hm;rw[hg]at k;cases k
   .rw[beq_eq_false_iff_ne.mpr hm]at e;cases e
def Q5(hM:mainGlobals∉ts.map (·.1)){P:Addr}(hP:P∈ts.map (·.1)):(BU K ts).lookup P=none:=by
 unfold BU;have h2:(P==mainGlobals)=false:=beq_eq_false_iff_ne.mpr λz=>hM (z ▸ hP);rw[lookup_append,Et hP,none_or,lookup_cons,h2];rfl
def Fun.mark{x qual:Str}{st:Stmt}{f:Addr}{fd:FuncData}(D:Fun K x qual st f fd){h:Heap}(X:K.In h)(hP:∀P∈ts.map (·.1),h.get? P=some (tabObj #[])):Fun (BU K ts) x qual st f fd:=by
 have neP:∀a o,K.lookup a=some o->o≠tabObj #[]->a∉ts.map (·.1):=λa o e n z=>by
  have:=X _ _ e;rw[hP a z]at this;exact n (Option.some.inj this).symm
 obtain⟨⟨oc,od,kV,doc,pm,an,cdv,ct,osl,rfl,lk,hcd⟩,kp⟩:=D;have hf:f∉ts.map (·.1):=neP f _ lk (λz=>by cases z);refine⟨⟨oc,od,kV,doc,pm,an,cdv,ct,osl,rfl,Ep hf lk,?_⟩,?_⟩
 .unfold codeIn at hcd ⊢;split at hcd
  .next c0=>
   split at hcd
   .next vs sl k=>
    have hc:c0∉ts.map (·.1):=neP c0 _ k (λz=>by
     have:vs=#[]:=by injection z with _ _ z _;injection z
     rw[this]at hcd;cases hcd)
    simp only[Ep hc k];exact hcd
   .cases hcd
  .cases hcd
 .unfold keepIn;simp only[Ep hf lk]
end
def UN{K:PySem.W.Frag}{H:Hp}{a:Addr}{xs:List V}(hS:SqL K H a xs)(hO:∀ys,H a≠some (.lst ys)):RoL K H a xs:=by
 rcases hS with(h|h)|h
 .exact absurd h (hO xs)
 .exact .inl h
 .exact .inr h
def LP{Pg:Program}{w:World}{K:PySem.W.Frag}{mg mb:Str->Option Value}{k:Nat}{fa a:Addr}{fd:FuncData}{x:Str}{ts:List Tb}{s₁:Shared}{vs:List Value}{ns:List Int}{F:List D->Hd->Option (D×Hd)}
 (KX:K.In s₁.heap) (hns:s₁.heap.Ns mainGlobals mg) (hb:s₁.heap.Ns builtinsNs mb) (hbb:∀x:Str,x≠"__name__"->mb x=bootBuiltins x) (hlim:s₁.heap.NoLimit) (hg:s₁.gens=#[])
 (ha:s₁.heap.get? a=some { cls:=.type "list",data:=.seq vs.toArray }) (hi:IntsAre vs ns) (hl:ns.length<=sizeLine) (hr:Room k callerA)
 (hT:∀P∈ts.map (·.1),∃cc,s₁.heap.TableAt cc P #[]) (hPK:∀P∈ts.map (·.1),K.lookup P=none) (htab:Fq K=ts.map λt=>(t.1,t.2.1,⟨t.2.2.1,t.2.2.2,0,0⟩))
 (Fn:∀base:Heap,K.In base->base.Ns mainGlobals mg->(∀b o,b∉ts.map (·.1)->b≠a->s₁.heap.get? b=some o->base.get? b=some o)->FnOk Pg w K mg base CX0 k fa fd [x] (spF K 1 F)) (hbind:∀(s:Shared) (u:Value),BindsTo s fd ⟨[u],[]⟩ [(x,u)])
 (hF:∃hd',F [.ro ns] []=some (.im (.bl true),hd')):
 codeAny (model Pg w) callerA (.call (.ref fa) ⟨[.ref a],[]⟩) (λr s'=>r=.ok (.ret (.bool true))/\OldK s₁.heap s'.heap/\s'.os=s₁.os/\AllBare s'.gens) s₁:=by
 have rv:=HC hi;have lenV:=hi.length;have hP:∀P∈ts.map (·.1),s₁.heap.get? P=some (tabObj #[]):=λP h=>let ⟨cc,t⟩:=hT P h;t.2
 have haP:a∉ts.map (·.1):=λz=>by rw[hP a z]at ha;cases ha
 have core:∀H:Hp,(∀b,b∉ts.map (·.1)->H b=none∨∃o xs,H b=some (.frz o (.lst xs)))->(∀P∈ts.map (·.1),H P=some (.tbl #[]))->SqL K H a (ns.map V.int)->HOk Pg w H s₁.heap->(∀b,H b≠none->b=a∨b∈ts.map (·.1))->(H a≠none->K.lookup a=none) ->
  codeAny (model Pg w) callerA (.call (.ref fa) ⟨[.ref a],[]⟩) (λr s'=>r=.ok (.ret (.bool true))/\OldK s₁.heap s'.heap/\s'.os=s₁.os/\AllBare s'.gens) s₁:=by
  intro H hO hHP hS hok hA hK;have base_of:∀{b:Addr} {o:Obj},s₁.heap.get? b=some o->H b=none->(ES s₁.heap H).get? b=some o:=λe n=>N7 e n;have noA:∀{b:Addr} {o:Obj} {es:Array DictEntry} {ep:Nat},s₁.heap.get? b=some o->o.data=.dict es ep->H b=none:=λ{b o es ep} e d=>by
   cases q:H b with
   |none=>rfl
   |some u=>
    rcases hA b (by rw[q];simp)with e'|e'
    .subst e';rw[ha]at e;cases e;have d':Data.seq vs.toArray _=Data.dict es ep:=d;cases d'
    .rw[hP b e']at e;cases e;cases d
  have nsK:∀{b:Addr} {m:Str->Option Value},s₁.heap.Ns b m->(ES s₁.heap H).Ns b m:=λ{b m} ⟨o,es,ep,e,d,r⟩=>⟨o,es,ep,base_of e (noA e d),d,r⟩
  have hKb:K.In (ES s₁.heap H):=λb o e=>base_of (KX b o e) (by
   cases q:H b with
   |none=>rfl
   |some u=>
    rcases hA b (by rw[q];simp)with e'|e'
    .subst e';rw[hK (by rw[q];simp)]at e;cases e
    .rw[hPK b e']at e;cases e)
  have hM:Mod K mg (ES s₁.heap H):=⟨hKb,nsK hns,⟨mb,nsK hb,hbb⟩,let ⟨mc,h1,h2⟩:=hlim;⟨mc,nsK h1,h2⟩⟩
  have e0:Env0 Pg w K mg (ES s₁.heap H) callerA [] s₁ H:=⟨rfl,hM,λb o e=>Q2 e,Nat.le_of_eq (LU _ _),trivial,λb hb=>absurd (show b∈([]:List Addr)from hb) (by simp),hok,.of_eq hg⟩
  have hsp:spF K 1 F [.ref a] H (λv _=>v=.bl true) λ_ _ _=>False:=by
   obtain⟨hd',e⟩:=hF;refine⟨rfl,[],[],[.ro ns],.im (.bl true),hd',⟨rfl,List.nodup_nil,λy hy=>?_,λn o a h=>by simp at h⟩,?_,e,λρ' H' v _ _ r=>?_⟩
   .rw[htab]at hy;obtain⟨t,ht,rfl⟩:=mem_map.mp hy;exact⟨#[],hHP t.1 (mem_map.mpr ⟨t,ht,rfl⟩),.inl rfl⟩
   .simp only[RDs,RD];refine⟨_,_,rfl,⟨a,rfl,UN hS λys z=>?_⟩,rfl⟩;rcases hO a haP with q|⟨o,ys,q⟩<;>(rw[q]at z;cases z)
   .simpa only[RD,RI]using r
  refine codeAny_mono ((Fn _ hKb (nsK hns) λb o n1 n2 e=>base_of e (by
   cases q:H b with
   |none=>rfl
   |some u=>
    rcases hA b (by rw[q];simp)with e'|e'
    .exact absurd e' n2
    .exact absurd e' n1)).run callerA [] s₁ H ⟨[.ref a],[]⟩ [.ref a] [.ref a] _ _ hr e0 (hbind s₁ (.ref a)) (.cons rfl .nil) hsp) λr s' h=>?_
  cases r with
  |error e=>exact h.elim
  |ok fl=>
   cases fl with
   |next=>exact False.elim h
   |brk=>exact False.elim h
   |cont=>exact False.elim h
   |ret u=>
    obtain⟨v,H',os,bare,un,hok',r',q⟩:=h;have q':v=.bl true:=q;subst q';obtain rfl:u=Value.bool true:=r';have keep:∀b o,b∉ts.map (·.1)->s₁.heap.get? b=some o->s'.heap.get? b=some o:=λb o nb e=>by
     cases q:H b with
     |none=>exact un.keep b o e q (by intro z;exact absurd (show b∈([]:List Addr)from z) (by simp)) (by simp)
     |some u=>
      rcases hO b nb with z|⟨ob,xs,z⟩
      .rw[q]at z;cases z
      .have z2:=un.frzs b ob _ z;obtain⟨e1,_⟩:=hok b _ z;obtain⟨e2,_⟩:=hok' b _ z2;rw[e]at e1;cases e1;exact e2
    refine⟨rfl,⟨λb o e=>?_,λb o e=>?_⟩,os,bare⟩
    .by_cases nb:b∈ts.map (·.1)
     .obtain⟨cc,tb⟩:=hT b nb;obtain⟨more,hm⟩:=un.tbls b #[] (hHP b nb);have hb':s'.heap.get? b=some (tabObj (#[]++more)):=hok' b _ hm;rw[hP b nb]at e;cases e;exact .inr (.inl ⟨tb.isCodeTable,rfl,#[],more,rfl,hb'⟩)
     .exact .inl (keep b o nb e)
    .by_cases nb:b∈ts.map (·.1)
     .obtain⟨more,hm⟩:=un.tbls b #[] (hHP b nb);exact⟨_,hok' b _ hm⟩
     .exact⟨o,keep b o nb e⟩
 cases hk:K.lookup a with
 |some o=>
  have e:=KX a o hk;rw[ha]at e;cases e;refine core (λb=>if b∈ts.map (·.1)then some (.tbl #[])else none) (λb nb=>.inl (if_neg nb)) (λP hp=>if_pos hp) (.inr ⟨_,vs.toArray,_,hk,rfl,rfl,rfl,by rw[size_toArray,lenV];exact hl,by simpa using rv⟩) (λb u z=>?_) (λb z=>?_) λz=>absurd (if_neg haP) z
  .by_cases hb:b∈ts.map (·.1)
   .have z':=(if_pos hb).symm.trans z;cases z';exact hP b hb
   .have z':=(if_neg hb).symm.trans z;cases z'
  .by_cases hb:b∈ts.map (·.1)
   .exact .inr hb
   .exact absurd (if_neg hb) z
 |none=>
  refine core (λb=>if b∈ts.map (·.1)then some (.tbl #[])else if b=a then some (.frz { cls:=.type "list",data:=.seq vs.toArray } (.lst (ns.map V.int)))else none) (λb nb=>?_) (λP hp=>if_pos hp) (.inl (.inr ⟨{ cls:=.type "list",data:=.seq vs.toArray },(if_neg haP).trans (if_pos rfl)⟩)) (λb u z=>?_) (λb z=>?_) λ_=>hk
  .rw[if_neg nb];by_cases hb:b=a
   .exact .inr ⟨_,_,if_pos hb⟩
   .exact .inl (if_neg hb)
  .by_cases hp:b∈ts.map (·.1)
   .have z':=(if_pos hp).symm.trans z;cases z';exact hP b hp
   .have z:=(if_neg hp).symm.trans z;by_cases hb:b=a
    .have z':=(if_pos hb).symm.trans z;cases z';subst hb;exact⟨ha,by rw[length_map];exact hl,vs,_,rv,ha⟩
    .have z':=(if_neg hb).symm.trans z;cases z'
  .by_cases hp:b∈ts.map (·.1)
   .exact .inr hp
   .by_cases hb:b=a
    .exact .inl hb
    .exact absurd ((if_neg hp).trans (if_neg hb)) z
def walkL{l:PySem.W.OpenLaw}{n k:Nat}{q:Program}{loose:List Str}{XP:(Str->Option Value)->Heap->Prop}{YP:World->Heap->Prop}{d:DefRec}{K:Params->PySem.W.Frag}{F:List D->Hd->Option (D×Hd)}(xs:List (Str×Str×Nat×Nat))
 (hn:l.most=some n) (hn2:n<=sizeLine) (hdf:d.params.defaults=[]) (hr:Room k callerA) (hdr:∀x∈xs,∃dr,(recsOf q).find? (λe=>e.name==x.1)=some dr)
 (hF:∀ns:List Int,∃hd',F [.ro ns] []=some (.im (.bl true),hd'))
 (hY:∀(w:World) (h:Heap),YP w h->(K w.params).In h)
 (G:∀(w:World) (mg:Str->Option Value) (fa:Addr) (h:Heap) (c P:Str->Addr),(K w.params).In h->h.Ns mainGlobals mg->mg d.name=some (.ref fa) ->
  (∀x∈xs,h.get? (P x.1)=some (tabObj #[])/\CodeHd h (c x.1) (P x.1)/\∃a o fd,mg x.1=some (.ref a)/\h.get? a=some o/\o.data=.func fd/\fd.code=.ref (c x.1)) ->
  (∃g,(K w.params).lookup mainGlobals=some g)/\∃fd:FuncData,(∀(s:Shared) (u:Value),BindsTo s fd ⟨[u],[]⟩ [("_law_script",u)])/\
   ∀base:Heap,(BU (K w.params) (xs.map λx=>(P x.1,x.2))).In base->base.Ns mainGlobals mg->(∀x∈xs,CodeHd base (c x.1) (P x.1))->(∀x∈xs,base.BuiltinsAt mg (P x.1))->FnOk l.prog w (BU (K w.params) (xs.map λx=>(P x.1,x.2))) mg base CX0 k fa fd ["_law_script"] (spF (BU (K w.params) (xs.map λx=>(P x.1,x.2))) 1 F)):
 PySem.W.WalkO q loose XP YP l.row.toRowW d [] (λf vs=>PySem.call f vs):=by
 refine Att.attach_call hn hdf λw s₀ s₁ mg mb fa o pm cd doc a vs ns Gr Y ho hd hcd hmg hobj hints hlen hg=>?_;have KX:=hY w _ Y;have each:∀x:Str,∃cp:Addr×Addr,(∃y∈xs,y.1=x)->(∃cc,s₁.heap.TableAt cc cp.2 #[])/\CodeHd s₁.heap cp.1 cp.2/\∃a o fd,mg x=some (.ref a)/\s₁.heap.get? a=some o/\o.data=.func fd/\fd.code=.ref cp.1:=by
  intro x;by_cases hx:∃y∈xs,y.1=x
  .obtain⟨y,hy,rfl⟩:=hx;obtain⟨dr,hdr⟩:=hdr y hy;have hnm:dr.name=y.1:=beq_iff_eq.mp (List.find?_some (p:=λe:DefRec=>e.name==y.1) hdr);obtain⟨a',o',fd',c,P,h1,h2,h3,h4,h5,h6⟩:=Gr.T.tab dr (List.mem_of_find?_eq_some hdr);rw[hnm]at h1;exact⟨(c,P),λ_=>⟨⟨_,h6⟩,CodeHd.of h5 h6,a',o',fd',h1,h2,h3,h4⟩⟩
  .exact⟨(0,0),λh=>absurd h hx⟩
 obtain⟨cp,hcp⟩:=Classical.skolem.mp each;have hcp:∀x∈xs,(∃cc,s₁.heap.TableAt cc (cp x.1).2 #[])/\CodeHd s₁.heap (cp x.1).1 (cp x.1).2/\∃a o fd,mg x.1=some (.ref a)/\s₁.heap.get? a=some o/\o.data=.func fd/\fd.code=.ref (cp x.1).1:=λx hx=>hcp x.1 ⟨x,hx,rfl⟩;have hts:∀P∈(xs.map λx=>((cp x.1).2,x.2)).map (·.1),∃x∈xs,P=(cp x.1).2:=λP hP=>by
  obtain⟨t,ht,rfl⟩:=mem_map.mp hP;obtain⟨x,hx,rfl⟩:=mem_map.mp ht;exact⟨x,hx,rfl⟩
 have hP:∀x∈xs,s₁.heap.get? (cp x.1).2=some (tabObj #[]):=λx hx=>by
  obtain⟨⟨cc,t⟩,_⟩:=hcp x hx;exact t.2
 have hmP:mainGlobals∉(xs.map λx=>((cp x.1).2,x.2)).map (·.1):=λz=>by
  obtain⟨x,hx,ez⟩:=hts _ z;obtain⟨o,es,ep,e,dd,_⟩:=Gr.T.g;rw[ez,hP x hx]at e;cases e;cases dd
 obtain⟨⟨g,hgl⟩,fd,hb,hFn⟩:=G w mg fa _ (λx=>(cp x).1) (λx=>(cp x).2) KX Gr.T.g hmg λx hx=>⟨hP x hx,(hcp x hx).2⟩
 refine LP (ts:=xs.map λx=>((cp x.1).2,x.2)) (K:=BU (K w.params) (xs.map λx=>((cp x.1).2,x.2))) (Q6 KX hgl hmP) Gr.T.g Gr.T.b Gr.T.builtins Gr.T.nolimit hg hobj hints (le_trans hlen hn2) hr (λP hp=>by obtain⟨x,hx,rfl⟩:=hts P hp;exact(hcp x hx).1) (λP hp=>Q5 hmP hp) (Kl _ _) (λbase kb nb keep=>hFn base kb nb (λx hx=>?_) λx hx=>?_) hb (hF ns)
 .obtain⟨oc,vs',file,tf,flags,tg,inF,text,tt,e1,r1,r2,r3,r4,r5,r6,r7,r8,hne⟩:=(hcp x hx).2.1;have hn:(cp x.1).1∉(xs.map λx=>((cp x.1).2,x.2)).map (·.1):=λz=>by
   obtain⟨y,hy,ez⟩:=hts _ z;rw[ez,hP y hy]at e1;cases e1;cases r1
  exact⟨oc,vs',file,tf,flags,tg,inF,text,tt,keep (cp x.1).1 oc hn (λz=>by rw[z,hobj]at e1;cases e1;exact absurd (show Value.type "list"=Value.type "code" from r1) (by decide)) e1,r1,r2,r3,r4,r5,r6,r7,r8,hne⟩
 .obtain⟨bm,ob,b1,b2,b3,b4,b5,b6⟩:=Gr.T.bmain;have nP:∀y∈xs,bm≠(cp y.1).2:=λy hy z=>by rw[z,hP y hy]at b3;cases b3;cases b4
  have hn:bm∉(xs.map λx=>((cp x.1).2,x.2)).map (·.1):=λz=>by
   obtain⟨y,hy,ez⟩:=hts _ z;exact nP y hy ez
  refine⟨bm,ob,b1,b2,λz=>?_,nP x hx,keep bm ob hn (λz=>by rw[z,hobj]at b3;cases b3;exact absurd (show Value.type "list"=Value.type "module" from b4) (by decide)) b3,b4,b5,b6⟩;obtain⟨o,es,ep,e,dd,_⟩:=Gr.T.g;rw[<- z,b3]at e;cases e;rw[b6]at dd;cases dd
end L2
namespace L2
open PySem PySem.W PyProof.Rows
abbrev FD:=List D->Hd->Option (D×Hd)
structure EnK where
 P:Program
 w:World
 K:PySem.W.Frag
 mg:Str->Option Value
 base:Heap
structure Df where
 x:Str
 st:Stmt
 ps:List Str
 k:Nat
 F:FD
def Dn(E:EnK)(e:Df):Prop:=∃f fd,DefAt E.K E.mg e.x e.st f fd e.ps
def Kn(E:EnK)(e:Df):Prop:=∃f fd,DefAt E.K E.mg e.x e.st f fd e.ps/\FnOk E.P E.w E.K E.mg E.base CX0 e.k f fd e.ps (spF E.K e.ps.length e.F)/\∀ds hd z,e.F ds hd=some z->ds.length=e.ps.length
def okK{E:EnK}{x:Str}{st:Stmt}{ps N:List Str}{j k:Nat}{m:MS}{F:FD}(D:Dn E ⟨x,st,ps,k,F⟩)(S:FnScope N ps (AD st))(hF:F=mkF ps.length N.length m)(hk:k=j+1)
 (h:∀(f:Addr) (cdv:Value) (A:Around) (outer:List Env) (s:Shared) (H:Hp) (Ek:XK),Room j (A.deeper (envOfC x (AD st) s.heap.objs.size f cdv))->∃t,QSs E.K (F0 CX0 E.P E.w E.K E.mg E.base N x (AD st) f cdv A outer s H Ek).nox (BM st) t m):Kn E ⟨x,st,ps,k,F⟩:=by
 obtain⟨f,fd,D⟩:=D;subst hF;subst hk;exact⟨f,fd,D,Q1 D S (h f),Q3⟩
def ok0{E:EnK}{x:Str}{st:Stmt}{ps:List Str}{k k':Nat}{F:FD}(D:Dn E ⟨x,st,ps,k',F⟩):Kn E ⟨x,st,ps,k,λ_ _=>none⟩:=by
 obtain⟨f,fd,D⟩:=D;refine⟨f,fd,D,⟨λvs H Q E h=>h.1,λA outer s H args us vs Q E hr e0 hb hv h=>?_⟩,λ_ _ _ h=>nomatch h⟩;obtain⟨_,_,_,_,_,_,_,_,e,_⟩:=h;cases e
section
variable{K:PySem.W.Frag}{X:Cx}{e:Expr}{es:List Expr}{t:TA}{m:MA}{x:Str}{j k:Nat}{ps:List Str}{F:FD}{st:Stmt}{p pos:Pos}
def qcW(w:Nat)(G:Kn ⟨X.prog,X.w,X.K,X.mg,X.base⟩ ⟨x,st,ps,j,F⟩)(hr:Room k X.A)(ha:QA K X (e::es) t m)
 (hjk:j<=k:=by first|decide|omega) (hg:Gl X x:=by rfl) (hdb:(x==("__debug__":Str))=false:=by decide) (he:starEach (e::es) X.env=(false,eval e X.env)::starEach es X.env:=by rfl) (hpl:(backTo pos (starEach es X.env)).any (·.1)=false:=by rfl) (hK:X.K=K:=by rfl):
 QE K X (.Call (.Name x p) (e::es) [] pos) (CI (spF K ps.length F) [] E0 t) (AA w F m):=by
 subst hK;obtain⟨f,fd,D,G,l⟩:=G;exact Mk _ w G hr D ha l hjk hg hdb he hpl
def qcG(G:Kn ⟨X.prog,X.w,X.K,X.mg,X.base⟩ ⟨x,st,ps,j,F⟩)(hr:Room k X.A)(ha:QA K X (e::es) t m)
 (hjk:j<=k:=by first|decide|omega) (hg:Gl X x:=by rfl) (hdb:(x==("__debug__":Str))=false:=by decide) (he:starEach (e::es) X.env=(false,eval e X.env)::starEach es X.env:=by rfl) (hpl:(backTo pos (starEach es X.env)).any (·.1)=false:=by rfl) (hK:X.K=K:=by rfl):
 QE K X (.Call (.Name x p) (e::es) [] pos) (CI (spF K ps.length F) [] E0 t) (Ag F m):=by
 subst hK;obtain⟨f,fd,D,G,l⟩:=G;exact Ml _ G hr D ha l hjk hg hdb he hpl
def qc0(w:Nat)(G:Kn ⟨X.prog,X.w,X.K,X.mg,X.base⟩ ⟨x,st,ps,j,F⟩)(hr:Room k X.A)
 (hjk:j<=k:=by first|decide|omega) (hg:Gl X x:=by rfl) (hdb:(x==("__debug__":Str))=false:=by decide) (hK:X.K=K:=by rfl) (h0:ps.length=0:=by rfl):QE K X (.Call (.Name x p) [] [] pos) (CI (spF K ps.length F) [] E0 DM) (AA w F A7):=by
 subst hK;obtain⟨f,fd,D,G,l⟩:=G;exact LB _ w G hr D l hjk hg hdb
variable{c P:Addr}{scope:Scope}{ix:List Nat}{params:Arguments}{body:Expr}{lpos kpos:Pos}{te tb:TE}{mi mb:ME}{fd:FuncData}{cdv:Value}{q:Str}
end
def FnAt(K:PySem.W.Frag)(n:Str)(s:Stmt)(f:Addr)(cd:Value):Prop:=∃oc kV dc pm ct od an sl,PySem.W.nsIn K mainGlobals n=some (some (.ref f))/\K.lookup f=some ⟨oc,od,.func (PySem.W.fnOf n n (Bs s) (BM s) (AD s) .none kV dc pm an cd ct),sl⟩/\PySem.W.codeIn K cd n=true/\PySem.W.keepIn K (.ref f)=true
def Fe(K:PySem.W.Frag)(e:Df):Prop:=∃f cd,FnAt K e.x e.st f cd
abbrev Xs:=List (Str×Str×Nat×Nat)
def HX(xs:Xs)(mg:Str->Option Value)(h:Heap)(c P:Str->Addr):Prop:=∀x∈xs,h.get? (P x.1)=some (tabObj #[])/\CodeHd h (c x.1) (P x.1)/\∃a o fd,mg x.1=some (.ref a)/\h.get? a=some o/\o.data=.func fd/\fd.code=.ref (c x.1)
abbrev tbs(xs:Xs)(P:Str->Addr):List Tb:=xs.map λx=>(P x.1,x.2)
abbrev enM(l:PySem.W.OpenLaw)(w:World)(K:PySem.W.Frag)(xs:Xs)(P:Str->Addr)(mg:Str->Option Value)(base:Heap):EnK:=⟨l.prog,w,BU K (tbs xs P),mg,base⟩
def Bd(e:Df):Prop:=∀(kV doc pm:Value) (an:Option Addr) (cdv ct:Value) (us:List Value),us.length=e.ps.length->bindArgs (PySem.W.fnOf e.x e.x (Bs e.st) (BM e.st) (AD e.st) .none kV doc pm an cdv ct) ⟨us,[]⟩=pure (e.ps.zip us)
section
variable{K:PySem.W.Frag}{h:Heap}{mg:Str->Option Value}{xs:Xs}{c P:Str->Addr}(X:K.In h)(G:h.Ns mainGlobals mg)(hx:HX xs mg h c P)
include hx in
theorem VW:∀P'∈(tbs xs P).map (·.1),h.get? P'=some (tabObj #[]):=λP' hp=>by
 obtain⟨t,ht,rfl⟩:=mem_map.mp hp;obtain⟨x,hxx,rfl⟩:=mem_map.mp ht;exact(hx x hxx).1
include X G hx in
theorem FnAt.def{e:Df}{f:Addr}{cd:Value}(H:FnAt K e.x e.st f cd)(b:Bd e):∃fd,DefAt (BU K (tbs xs P)) mg e.x e.st f fd e.ps/\fd.code=cd:=by
 obtain⟨oc,kV,dc,pm,ct,od,an,sl,a,l,cc,k⟩:=H;have F:=Fun.mark (ts:=tbs xs P) (Tk (st:=e.st) l cc k) X (VW hx);exact⟨_,⟨F,PySem.W.mg_of X G a,F.binds b⟩,rfl⟩
include X G hx in
theorem Fe.dn{e:Df}(H:Fe K e)(b:Bd e)(l:PySem.W.OpenLaw)(w:World)(base:Heap):Dn (enM l w K xs P mg base) e:=by
 obtain⟨f,cd,H⟩:=H;obtain⟨fd,D,_⟩:=H.def X G hx b;exact⟨f,fd,D⟩
include X G hx in
include X G hx in
end
def Zs(K:PySem.W.Frag):Prop:=∀n∈(["list","tuple","len","range","repr","sum","min","max","abs","all","any","sorted","zip","isinstance","int","bool","str","set","enumerate","reversed","dict"]:List Str),PySem.W.nsIn K mainGlobals n=some none
def Zs.blt{K:PySem.W.Frag}(Z:Zs K){h:Heap}{mg:Str->Option Value}(X:K.In h)(G:h.Ns mainGlobals mg):BltA mg:=by
 constructor<;>exact PySem.W.mg_none_of X G (Z _ (by simp))
def bd0{e:Df}(hl:e.ps.length=0:=by rfl)(h:∀(kV doc pm:Value) (an:Option Addr) (cdv ct:Value),bindArgs (PySem.W.fnOf e.x e.x (Bs e.st) (BM e.st) (AD e.st) .none kV doc pm an cdv ct) ⟨[],[]⟩=pure (e.ps.zip []):=by intros;rfl):Bd e:=λ_ _ _ _ _ _ us hu=>match us,hu.trans hl with|[],_=>h ..
def bd1{e:Df}(hl:e.ps.length=1:=by rfl)(h:∀(kV doc pm:Value) (an:Option Addr) (cdv ct:Value) a,bindArgs (PySem.W.fnOf e.x e.x (Bs e.st) (BM e.st) (AD e.st) .none kV doc pm an cdv ct) ⟨[a],[]⟩=pure (e.ps.zip [a]):=by intros;rfl):Bd e:=λ_ _ _ _ _ _ us hu=>match us,hu.trans hl with|[_],_=>h ..
def bd2{e:Df}(hl:e.ps.length=2:=by rfl)(h:∀(kV doc pm:Value) (an:Option Addr) (cdv ct:Value) a b,bindArgs (PySem.W.fnOf e.x e.x (Bs e.st) (BM e.st) (AD e.st) .none kV doc pm an cdv ct) ⟨[a,b],[]⟩=pure (e.ps.zip [a,b]):=by intros;rfl):Bd e:=λ_ _ _ _ _ _ us hu=>match us,hu.trans hl with|[_,_],_=>h ..
def bd3{e:Df}(hl:e.ps.length=3:=by rfl)(h:∀(kV doc pm:Value) (an:Option Addr) (cdv ct:Value) a b c,bindArgs (PySem.W.fnOf e.x e.x (Bs e.st) (BM e.st) (AD e.st) .none kV doc pm an cdv ct) ⟨[a,b,c],[]⟩=pure (e.ps.zip [a,b,c]):=by intros;rfl):Bd e:=λ_ _ _ _ _ _ us hu=>match us,hu.trans hl with|[_,_,_],_=>h ..
def B2{N ps:List Str}{sc:Scope}(h:(decide (sc.kind=.function)&&!sc.isCoroutine&&!sc.isGenerator&&ndB N&&(N.take ps.length==ps)&&(ps.all λx=>sc.names.lookup x==some .local||sc.names.lookup x==some .cell)&&sc.names.all λy=>y.2 != .free)=true):FnScope N ps sc:=by
 simp only[Bool.and_eq_true,all_eq_true,Bool.or_eq_true,beq_iff_eq,decide_eq_true_eq,Bool.not_eq_true',bne_iff_ne]at h;obtain⟨⟨⟨⟨⟨⟨h1,h2⟩,h3⟩,h4⟩,h5⟩,h6⟩,h7⟩:=h;exact⟨h1,h2,h3,DT h4,h5,h6,h7⟩
abbrev HG(l:PySem.W.OpenLaw)(w:World)(K:PySem.W.Frag)(xs:Xs)(mg:Str->Option Value)(c P:Str->Addr)(fa:Addr)(e:Df):Prop:=(∃g,K.lookup mainGlobals=some g)/\∃fd:FuncData,(∀(s:Shared) (v:Value),BindsTo s fd ⟨[v],[]⟩ [("_law_script",v)])/\∀base:Heap,(BU K (tbs xs P)).In base->base.Ns mainGlobals mg->(∀x∈xs,CodeHd base (c x.1) (P x.1))->(∀x∈xs,base.BuiltinsAt mg (P x.1))->FnOk l.prog w (BU K (tbs xs P)) mg base CX0 e.k fa fd ["_law_script"] (spF (BU K (tbs xs P)) 1 e.F)
def N8{l:PySem.W.OpenLaw}{w:World}{K:PySem.W.Frag}{h:Heap}{mg:Str->Option Value}{fa:Addr}{xs:Xs}{c P:Str->Addr}{e:Df}(X:K.In h)(G:h.Ns mainGlobals mg)(hfa:mg e.x=some (.ref fa))(hx:HX xs mg h c P)(H:Fe K e)(b:Bd e)(hps:e.ps=(["_law_script"]:List Str))
 (ok:∀base:Heap,(∀x∈xs,CodeHd base (c x.1) (P x.1))->(∀x∈xs,base.BuiltinsAt mg (P x.1))->Kn (enM l w K xs P mg base) e):
 HG l w K xs mg c P fa e:=by
 obtain⟨f,cd,H⟩:=H;obtain⟨fd,D,_⟩:=H.def X G hx b;obtain⟨oc,kV,dc,pm,ct,od,an,sl,a,lk,cc,k⟩:=H;have hg:∃g,K.lookup mainGlobals=some g:=by
  cases e:K.lookup mainGlobals with
  |some g=>exact⟨g,rfl⟩
  |none=>unfold PySem.W.nsIn at a;rw[e]at a;cases a
 have e1:=hfa.symm.trans D.mg;cases e1;refine⟨hg,fd,λs v=>?_,λbase _ _ hd bl=>?_⟩
 .obtain⟨⟨oc',od',kV',dc',pm',an',cd',ct',sl',rfl,_,_⟩,_⟩:=D.fn;have:=b kV' dc' pm' an' cd' ct' [v] (by rw[hps];rfl);rw[hps]at this;exact .of_eq this
 .obtain⟨f',fd',D',F',_⟩:=ok base hd bl;have e2:=D.mg.symm.trans D'.mg;cases e2;obtain⟨⟨oc',od',kV',dc',pm',an',cd',ct',sl',h1,h2,_⟩,_⟩:=D.fn;obtain⟨⟨oc2,od2,kV2,dc2,pm2,an2,cd2,ct2,sl2,h3,h4,_⟩,_⟩:=D'.fn;have e3:=h2.symm.trans h4;cases e3;rw[hps]at F';exact F'
end L2
namespace L2
open PySem PySem.Spec PyProof.Rows
section
variable{X:Cx}
def Nh:R2:=λx y H Q=>∃a b:Str,x=.str a/\y=.str b/\a.length+b.length<=sizeLine/\Q (.str (a++b)) H
def Q0:OpR X (binaryOp .Add) Nh:=by
 intro pins s σ H x y v u Q I rx ry h;obtain⟨a,b,rfl,rfl,hl,q⟩:=h;obtain⟨t,rfl⟩:=rx;obtain⟨t',rfl⟩:=ry;exact SB.add (λt' k=>⟨.str (a++b),H,I.tok k,⟨_,rfl⟩,q⟩) hl
open Classical in
def FG:D->D->Hd->Option (D×Hd)
 |.im (.str a),.im (.str b),hd=>if BW (a.length+b.length)then some (.im (.str (a++b)),hd)else none
 |_,_,_=>none
def Ou{K:PySem.W.Frag}:RB K Nh FG:=by
 intro ρ H hd d e v u Q z hd' hR h1 h2 hf hQ;unfold FG at hf;split at hf
 .split at hf
  .next c=>
   cases hf;simp only[RD,RI]at h1 h2;subst h1 h2;exact⟨_,_,rfl,rfl,c,hQ ρ H _ .refl hR (by simp[RD,RI])⟩
  .cases hf
 .cases hf
def EZ(a:Str)(l u:Option Int):Str:=Txt.slice a l u
def MX:V->Option Int->Option Int->Hp->VK->Prop:=λx lo hi H Q=>∃a:Str,x=.str a/\a.length<=sizeLine/\Q (.str (EZ a lo hi)) H
def Qw:SlR X MX:=by
 intro pins s σ H x v vl vu lo hi sl Q I rx hs pl pu h;obtain⟨a,rfl,hl,q⟩:=h;obtain⟨t,rfl⟩:=rx;refine⟨"str",_,PySem.F.slot_str_getitem.lookup,typeIs_str _ _ _,?_⟩;have key:∀(l u:Option (Int×Tok)),vl=partValue l->vu=partValue u->lo=l.map (·.1)->hi=u.map (·.1)->wpAny (model X.prog X.w) X.A (getItem (.str a t) (.ref sl)) (EP X pins σ Q) X.xe s:=by
  intro l u e1 e2 e3 e4;subst e3 e4;obtain⟨o,h1,h2,h3⟩:=hs;refine wpAny_getItem_str_slice (l:=l) (u:=u) (st:=none) ⟨o,h1,h2,by rw[h3,e1,e2];rfl⟩ rfl ?_;exact post_val_or_str ⟨le_trans (Txt.slice_le a _ _) hl,λt' k=>⟨.str (EZ a _ _),H,I.tok k,⟨_,rfl⟩,q⟩⟩
 cases pl<;>cases pu
 .exact key none none rfl rfl rfl rfl
 .exact key none (some (_,_)) rfl rfl rfl rfl
 .exact key (some (_,_)) none rfl rfl rfl rfl
 .exact key (some (_,_)) (some (_,_)) rfl rfl rfl rfl
open Classical in
def Fg(m:ME)(ml mh:MO1):ME:=λls hd=>(m ls hd).bind λp=>(ml ls p.2).bind λl=>(mh ls l.2).bind λh=>match p.1 with
 |.im (.str a)=>if BW a.length then some (.im (.str (EZ a l.1 h.1)),h.2)else none
 |_=>none
def Rl{K:PySem.W.Frag}{t:TE}{tl th:TO}{m:ME}{ml mh:MO1}(h:RE K t m)(hl:RO1 K tl ml)(hh:RO1 K th mh):RE K (tSl MX t tl th) (Fg m ml mh):=by
 and_intros;obtain⟨⟨d1,h1⟩,e1,hm⟩:=XG hm;obtain⟨⟨d2,h2⟩,e2,hm⟩:=XG hm;obtain⟨⟨d3,h3⟩,e3,hm⟩:=XG hm;dsimp only at e2 e3 hm;split at hm
 .split at hm
  .next c=>
   cases hm;refine h ρ σ H hd ls _ _ h1 hR hL e1 λρ1 H1 v1 x1 R1 r1=>?_;refine hl ρ1 σ H1 h1 ls _ d2 h2 R1 (hL.ext hR x1) e2 λρ2 H2 x2 R2=>?_;refine hh ρ2 σ H2 h2 ls _ d3 _ R2 (hL.ext hR (x1.trans R1 x2)) e3 λρ3 H3 x3 R3=>?_;simp only[RD,RI]at r1;subst r1;exact⟨_,rfl,c,hQ ρ3 _ _ ((x1.trans R1 x2).trans R2 x3) R3 (by simp[RD,RI])⟩
  .cases hm
 .cases hm
def SN(K:PySem.W.Frag){e:Expr}{te:TE}{me:ME}{lo hi:Option Expr}{tl th:TO}{ml mh:MO1}{p2 pos:Pos}(h:QE K X e te me)(hl:QO K X lo tl ml)(hh:QO K X hi th mh):QE K X (.Subscript e (.Slice lo hi none p2) pos) (tSl MX te tl th) (Fg me ml mh):=⟨FY Qw h.p hl.p hh.p,Rl h.r hl.r hh.r⟩
def El(a:Str):Str:=⟨((Builtin.Str.strSliceIndices none none (-1) a.length).filterMap (a.cps[·]?)).toArray⟩
def JU(a:Str):(El a).length<=a.length:=by
 show((Builtin.Str.strSliceIndices none none (-1) a.length).filterMap (a.cps[·]?)).toArray.size<=_;rw[size_toArray];refine le_trans (List.length_filterMap_le _ _) ?_;unfold Builtin.Str.strSliceIndices sliceRange;simp;split<;>omega
def Jx(K:PySem.W.Frag)(te ts:TE):TE:=λσ H Q=>te σ H λx H1=>ts σ H1 λy H2=>y=.int (-1)/\((∃a xs,x=.ref a/\SqT K H2 a xs/\∀p,H2 p=none->Q (.ref p) (upd H2 p (.tup xs.reverse)))∨∃a:Str,x=.str a/\a.length<=sizeLine/\Q (.str (El a)) H2)
def Pp{e stp:Expr}{te ts:TE}{pos p2:Pos}(he:PE X e te)(hs:PE X stp ts):PE X (.Subscript e (.Slice none none (some stp) p2) pos) (Jx X.K te ts):=by
 intro pins s σ H Q I h;refine Subscript_ (thn (he pins s σ H _ I h) λv s1 ⟨x,H1,I1,r1,q1⟩=>?_);refine wpAny_Slice ?_;rw[evalPart_none];refine wpAny_pure (wpAny_pure ?_);rw[evalPart_some];refine thn (hs pins s1 σ H1 _ I1 q1) λvs s3 ⟨y,H3,I3,r3,q3⟩=>?_;obtain⟨rfl,q3⟩:=q3;obtain⟨t,rfl⟩:=r3;have I4:Inv X pins σ H3 { s3 with heap:=s3.heap.push { cls:=.type "slice",data:=.fields #[.none,.none,.int (-1) t] } }:=I3.kept (t':=s3.toks) λb ob q=>Heap.get?_push_of_some _ q;rcases q3 with⟨a,xs,rfl,hx,q⟩|⟨a,rfl,hl,q⟩
 .cases r1;obtain⟨its,r,ht,hz⟩:=I4.tuple hx;have hlen:=r.length;have hg:wpAny (model X.prog X.w) X.A (getItem (.ref a) (.ref s3.heap.objs.size)) (EP X pins σ Q) X.xe { s3 with heap:=s3.heap.push { cls:=.type "slice",data:=.fields #[.none,.none,.int (-1) t] } }:=by
   refine HT.getItem_tuple_rev ht (Heap.IsSliceOf.new ..) ?_ (by rw[size_toArray]<;>omega);refine⟨.ref _,_,I4.laid (t':=s3.toks) (o:=.tup xs.reverse) (λb ob q=>Heap.get?_push_of_some _ q) (le_refl _) ?_,rfl,q _ (I4.hok.fresh (le_refl _))⟩;exact⟨by rw[List.length_reverse];exact hz,its.reverse,FV r,IsTupD.new _ _⟩
  show wpAny (model X.prog X.w) X.A (subscriptTail e (.Slice none none (some stp) p2) (.ref a) (.ref s3.heap.objs.size)) (EP X pins σ Q) X.xe { s3 with heap:=s3.heap.push { cls:=.type "slice",data:=.fields #[.none,.none,.int (-1) t] } };exact tail_any (ops:=[.ref a,.ref s3.heap.objs.size]) ht.typeIs PyProof.Rows.slot_tuple_getitem.lookup hg (by with_unfolding_all rfl)
 .obtain⟨t2,rfl⟩:=r1;have hg:wpAny (model X.prog X.w) X.A (getItem (.str a t2) (.ref s3.heap.objs.size)) (EP X pins σ Q) X.xe { s3 with heap:=s3.heap.push { cls:=.type "slice",data:=.fields #[.none,.none,.int (-1) t] } }:=by
   refine wpAny_getItem_str_slice (l:=none) (u:=none) (st:=some (-1,t)) ⟨_,Heap.get?_push_size _ rfl,rfl,rfl⟩ rfl ?_;refine⟨le_trans (JU a) hl,?_⟩;exact⟨.str (El a),H3,I4.tok _,⟨_,rfl⟩,q⟩
  show wpAny (model X.prog X.w) X.A (subscriptTail e (.Slice none none (some stp) p2) (.str a t2) (.ref s3.heap.objs.size)) (EP X pins σ Q) X.xe { s3 with heap:=s3.heap.push { cls:=.type "slice",data:=.fields #[.none,.none,.int (-1) t] } };exact tail_any (ops:=[.str a t2,.ref s3.heap.objs.size]) (typeIs_str _ _ _) PySem.F.slot_str_getitem.lookup hg (by with_unfolding_all rfl)
open Classical in
def CK(m ms:ME):ME:=λls hd=>(m ls hd).bind λp=>(ms ls p.2).bind λq=>match q.1,p.1 with
 |.im (.int i),.im (.str a)=>if i=-1/\BW a.length then some (.im (.str (El a)),q.2)else none
 |.im (.int i),d=>if i=-1 then(AH d).map λds=>(AV ds.reverse,q.2)else none
 |_,_=>none
def Oj{K:PySem.W.Frag}{te ts:TE}{m ms:ME}(h:RE K te m)(hs:RE K ts ms):RE K (Jx K te ts) (CK m ms):=by
 and_intros;obtain⟨⟨d1,h1⟩,e1,hm⟩:=XG hm;obtain⟨⟨d2,h2⟩,e2,hm⟩:=XG hm;dsimp only at e2 hm;split at hm
 .split at hm
  .next c=>
   cases hm;obtain⟨rfl,c⟩:=c;refine h ρ σ H hd ls _ _ h1 hR hL e1 λρ1 H1 v1 x1 R1 r1=>?_;refine hs ρ1 σ H1 h1 ls _ _ _ R1 (hL.ext hR x1) e2 λρ2 H2 v x2 R2 r2=>?_;simp only[RD,RI]at r1 r2;subst r1;exact⟨r2,.inr ⟨_,rfl,c,hQ ρ2 _ _ (x1.trans R1 x2) R2 (by simp[RD,RI])⟩⟩
  .cases hm
 .split at hm
  .next hi=>
   obtain⟨ds,e3,e4⟩:=XH hm;cases e4;subst hi;refine h ρ σ H hd ls _ d1 h1 hR hL e1 λρ1 H1 v1 x1 R1 r1=>?_;refine hs ρ1 σ H1 h1 ls _ _ _ R1 (hL.ext hR x1) e2 λρ2 H2 v x2 R2 r2=>?_;simp only[RD,RI]at r2;obtain⟨a,xs,rfl,q,r⟩:=(r1.ext R1 x2).tup e3;refine⟨r2,.inl ⟨a,xs,rfl,q,λp hp=>?_⟩⟩;obtain⟨R3,x3⟩:=R2.hid (ho:=.tup xs.reverse) hp;exact hQ ρ2 _ _ ((x1.trans R1 x2).trans R2 x3) R3 (Bz (SqT.of Ae) ((RDs.rev r).ext R2 x3))
  .cases hm
 .cases hm
def PP{K:PySem.W.Frag}{e stp:Expr}{te ts:TE}{m ms:ME}{pos p2:Pos}(h:QE K X e te m)(hs:QE K X stp ts ms)(hK:X.K=K:=by rfl):QE K X (.Subscript e (.Slice none none (some stp) p2) pos) (Jx K te ts) (CK m ms):=by
 subst hK;exact⟨Pp h.p hs.p,Oj h.r hs.r⟩
def MW:V->List V->Hp->VK->Prop:=λx vs H Q=>∃a:Str,x=.str a/\vs=[]/\a.length<=5592405/\Q (.str (Txt.upper a)) H
def TK:MtR X "str.upper" MW:=by
 intro pins s σ H x vs v us Q I rx rv h;obtain⟨a,rfl,rfl,hl,q⟩:=h;obtain⟨t,rfl⟩:=rx;cases rv;exact SCL.upper hl λ_=>⟨.str (Txt.upper a),H,I.tok _,⟨_,rfl⟩,q⟩
def Ff(m:ME):ME:=λls hd=>(m ls hd).bind λp=>match p.1 with
 |.im (.str a)=>if a.length<=5592405 then some (.im (.str (Txt.upper a)),p.2)else none
 |_=>none
def Rj{K:PySem.W.Frag}{t:TE}{m:ME}(h:RE K t m):RE K (M8 K "str" MW t) (Ff m):=by
 and_intros;obtain⟨⟨d1,h1⟩,e1,hm⟩:=XG hm;dsimp only at hm;split at hm
 .split at hm
  .next c=>
   cases hm;refine h ρ σ H hd ls _ _ _ hR hL e1 λρ1 H1 v1 x1 R1 r1=>?_;simp only[RD,RI]at r1;subst r1;exact⟨rfl,_,rfl,rfl,c,hQ ρ1 _ _ x1 R1 (by simp[RD,RI])⟩
  .cases hm
 .cases hm
def SK(K:PySem.W.Frag){o:Expr}{to:TE}{mo:ME}{apos cpos:Pos}(ho:QE K X o to mo)
 (hbase:attributeBase o "upper" X.env (eval o X.env)=eval o X.env:=by rfl) (hline:(apos.endLine==cpos.line)=true:=by rfl) (hK:X.K=K:=by rfl):QE K X (.Call (.Attribute o "upper" apos) [] [] cpos) (M8 K "str" MW to) (Ff mo):=by
 subst hK;exact⟨T0 PySem.F.plainAttrs_str PySem.F.slot_str_upper PySem.F.type_str_upper TK ho.p hbase hline,Rj ho.r⟩
end
def D4{α:Type}:List (Option α)->Option (List α)
 |[]=>some []
 |some x::r=>(D4 r).map (x::·)
 |none::_=>none
def pyN:Nat->Hd->D->Option PyData
 |_,_,.im i=>some i.py
 |_,_,.ro ns=>some (.list (I.pys (ns.map I.int)))
 |0,_,_=>none
 |n+1,hd,.tm ds=>(D4 (ds.map (pyN n hd))).map .tuple
 |n+1,hd,.mu k=>match hd[k]? with
  |some (.lst ds)=>(D4 (ds.map (pyN n hd))).map .list
  |_=>none
 |_+1,_,.op _ _ _=>none
section
variable{K:PySem.W.Frag}{ρ:List Addr}{H:Hp}{hd:Hd}
theorem Fk{f:D->Option PyData}(hf:∀d v p,RD K ρ H d v->f d=some p->Rep K H p v):∀{ds:List D} {xs:List V} {ps:List PyData},RDs K ρ H ds xs->D4 (ds.map f)=some ps->BS K H ps xs
 |[],xs,ps,r,e=>by
  simp only[RDs]at r;subst r;simp[D4]at e;subst e;simp only[BS]
 |d::ds,xs,ps,r,e=>by
  simp only[RDs]at r;obtain⟨x,r',rfl,h1,h2⟩:=r;rw[map_cons]at e;cases q:f d with
  |none=>rw[q]at e;cases e
  |some p=>
   rw[q]at e;obtain⟨ps',e1,rfl⟩:=XH (show(D4 (ds.map f)).map (p::·)=some ps from e);simp only[BS];exact⟨x,r',rfl,hf d x p h1 q,Fk hf h2 e1⟩
theorem E4(hR:RH K ρ H hd):∀(n:Nat) (d:D) (v:V) (p:PyData),RD K ρ H d v->pyN n hd d=some p->Rep K H p v
 |n,.im i,v,p,h,e=>Cj (hd:=hd) hR h (by cases n<;>exact e)
 |n,.ro ns,v,p,h,e=>Cj (hd:=hd) hR h (by cases n<;>exact e)
 |0,.tm ds,v,p,h,e=>by cases e
 |0,.mu k,v,p,h,e=>by cases e
 |0,.op _ _ _,v,p,h,e=>by cases e
 |n+1,.op _ _ _,v,p,h,e=>by cases e
 |n+1,.tm ds,v,p,h,e=>by
  simp only[RD]at h;obtain⟨a,xs,rfl,q,r⟩:=h;obtain⟨ps,e1,rfl⟩:=XH (show(D4 (ds.map (pyN n hd))).map PyData.tuple=some p from e);simp only[Rep];exact⟨a,xs,rfl,q,Fk (λd v p=>E4 hR n d v p) r e1⟩
 |n+1,.mu k,v,p,h,e=>by
  simp only[pyN]at e;simp only[RD]at h;obtain⟨a,hn,rfl⟩:=h;split at e
  .next ds q=>
   obtain⟨ps,e1,rfl⟩:=XH e;obtain⟨xs,e2,e3⟩:=hR.lst hn q;simp only[Rep];exact⟨a,xs,rfl,SqL.of e2,Fk (λd v p=>E4 hR n d v p) e3 e1⟩
  .cases e
end
def Gu(neg:Bool):D->D->Hd->Option (D×Hd):=λd e hd=>match pyN 30 hd d,pyN 30 hd e with
 |some x,some y=>if x.canLay0=true/\y.canLay0=true/\min x.depth y.depth<=60 then some (.im (.bl (if neg then !PyData.eqv x y else PyData.eqv x y)),hd)else none
 |_,_=>none
def Rx{K:PySem.W.Frag}:RB K (KC K) (Gu true):=by
 intro ρ H hd d e v u Q z hd' hR h1 h2 hf hQ;unfold Gu at hf;split at hf
 .next e1 e2=>
  split at hf
  .next c=>cases hf;exact⟨_,_,E4 hR _ _ _ _ h1 e1,E4 hR _ _ _ _ h2 e2,c.1,c.2.1,c.2.2,hQ ρ H _ .refl hR (by simp[RD,RI])⟩
  .cases hf
 .cases hf
open Classical in
def Cc:List D->Hd->Option (D×Hd)
 |[d],hd=>match pyN 30 hd d with
  |some p=>if G6 p then some (.im (.str p.shown),hd)else none
  |none=>none
 |_,_=>none
def IQ{K:PySem.W.Frag}:RF K (Hi K) Cc:=by
 intro ρ H hd ds vs Q z hd' hR h1 hf hQ;unfold Cc at hf;split at hf
 .split at hf
  .next p e=>
   split at hf
   .next c=>
    cases hf;simp only[RDs]at h1;obtain⟨x,r,rfl,rx,rfl⟩:=h1;exact⟨x,p,rfl,E4 hR _ _ _ _ rx e,c.1,c.2.1,c.2.2.1,c.2.2.2.1,c.2.2.2.2,hQ ρ H _ .refl hR (by simp[RD,RI])⟩
   .cases hf
  .cases hf
 .cases hf
section
variable{hd:Hd}{QE:D->Hd->Prop}{ls:Ls}{ma mb:ME}
def O6{a b:Str}(h:a.length+b.length<=1000000)(q:QE (.im (.str (a++b))) hd):WP (FG (.im (.str a)) (.im (.str b)) hd) QE:=⟨_,_,if_pos (Ac h),q⟩
def Qk{ml mh:MO1}(h:WE ma ls hd λd x=>WO ml ls x λl y=>WO mh ls y λu z=>∃a:Str,d=.im (.str a)/\a.length<=1000000/\QE (.im (.str (EZ a l u))) z):WE (Fg ma ml mh) ls hd QE:=by
 obtain⟨d,x,e1,l,y,e2,u,z,e3,a,rfl,c,q⟩:=h;exact⟨_,_,by simp only[Fg,e1,bind_some,e2,e3,Ac c,if_true],q⟩
def O8(h:WE ma ls hd λd x=>WE mb ls x λi y=>i=.im (.int (-1))/\∃a:Str,d=.im (.str a)/\a.length<=1000000/\QE (.im (.str (El a))) y):WE (CK ma mb) ls hd QE:=by
 obtain⟨d,x,e1,i,y,e2,rfl,a,rfl,c,q⟩:=h;exact⟨_,_,by simp only[CK,e1,bind_some,e2,Ac c,and_self,if_true],q⟩
def JJ(h:WE ma ls hd λd x=>WE mb ls x λi y=>i=.im (.int (-1))/\∃ds,AH d=some ds/\QE (AV ds.reverse) y):WE (CK ma mb) ls hd QE:=by
 obtain⟨d,x,e1,i,y,e2,rfl,ds,e3,q⟩:=h;refine⟨_,_,?_,q⟩;unfold CK;rw[e1,bind_some];dsimp only;rw[e2,bind_some];cases d with
 |im i=>cases i with
  |tup is=>exact(if_pos rfl).trans (by rw[e3];rfl)
  |_=>cases e3
 |tm es=>exact(if_pos rfl).trans (by rw[e3];rfl)
 |mu k=>cases e3
 |ro ns=>cases e3
 |op _ _ _=>cases e3
def Qj(h:WE ma ls hd λd x=>∃a:Str,d=.im (.str a)/\a.length<=1000000/\QE (.im (.str (Txt.upper a))) x):WE (Ff ma) ls hd QE:=by
 obtain⟨d,x,e1,a,rfl,c,q⟩:=h;exact⟨_,_,by simp only[Ff,e1,bind_some];rw[if_pos (by omega)],q⟩
def Qh{neg:Bool}{d e:D}{x y:PyData}(h1:pyN 30 hd d=some x)(h2:pyN 30 hd e=some y)(c:x.canLay0=true/\y.canLay0=true/\min x.depth y.depth<=60)(q:QE (.im (.bl (if neg then !PyData.eqv x y else PyData.eqv x y))) hd):WP (Gu neg d e hd) QE:=⟨_,_,by unfold Gu;rw[h1,h2];dsimp only;rw[if_pos c],q⟩
def FU{d:D}{p:PyData}(h1:pyN 30 hd d=some p)(c:G6 p)(q:QE (.im (.str p.shown)) hd):WP (Cc [d] hd) QE:=⟨_,_,by show(match pyN 30 hd d with|some p=>_|none=>_)=_;rw[h1];exact if_pos c,q⟩
end
end L2
namespace L2
open PySem PySem.Spec PyProof.Rows PySem.W
def LA(K:PySem.W.Frag):List V->Hp->VK->Prop:=λxs H Q=>(xs=[.non]/\Q (.str "None") H)∨IT xs H Q∨(∃i,xs=[.int i]/\i.natAbs.log2<1920/\Q (.str (toString i)) H)∨(∃x,xs=[.str x]/\(reprText x).length<=sizeLine/\Q (.str (reprText x)) H)∨Hi K xs H Q
def Kb(K:PySem.W.Frag){X:Cx}(hg:X.A.guards=some [])(hu:X.A.units+64<cLine)(hK:X.K=K:=by rfl):Ba X (.builtin "repr") (LA K):=by
 intro pins s σ H xs us Q I r h;rcases h with⟨rfl,q⟩|h|h|⟨x,rfl,hx,q⟩|h
 .obtain⟨u,rfl,ru⟩:=C2 r;cases ru;exact PySem.P.repr_of_none ⟨.str "None",H,I.tok _,⟨_,rfl⟩,q⟩
 .exact GF pins s σ H xs us Q I r h
 .exact KZ pins s σ H xs us Q I r h
 .obtain⟨u,rfl,ru⟩:=C2 r;obtain⟨t,rfl⟩:=ru;exact PySem.P.repr_of_str ⟨.str (reprText x),H,I.tok _,⟨_,rfl⟩,q⟩ hx
 .exact FT K hg hu hK pins s σ H xs us Q I r h
open Classical in
def C1:List D->Hd->Option (D×Hd)
 |[.im .non],hd=>some (.im (.str "None"),hd)
 |[.im (.bl k)],hd=>C0 [.im (.bl k)] hd
 |[.im (.int i)],hd=>Ex [.im (.int i)] hd
 |[.im (.str x)],hd=>if(reprText x).length<=sizeLine then some (.im (.str (reprText x)),hd)else none
 |ds,hd=>Cc ds hd
def MQ{K:PySem.W.Frag}:RF K (LA K) C1:=by
 intro ρ H hd ds vs Q z hd' hR h1 hf hQ;unfold C1 at hf;split at hf
 .cases hf;simp only[RDs,RD,RI]at h1;obtain⟨x,r,rfl,rfl,rfl⟩:=h1;exact .inl ⟨rfl,hQ ρ H _ .refl hR (by simp[RD,RI])⟩
 .exact .inr (.inl (IR ρ H _ _ _ Q z hd' hR h1 hf hQ))
 .exact .inr (.inr (.inl (MP ρ H _ _ _ Q z hd' hR h1 hf hQ)))
 .split at hf
  .next c=>
   cases hf;simp only[RDs,RD,RI]at h1;obtain⟨x,r,rfl,rfl,rfl⟩:=h1;exact .inr (.inr (.inr (.inl ⟨_,rfl,c,hQ ρ H _ .refl hR (by simp[RD,RI])⟩)))
  .cases hf
 .exact .inr (.inr (.inr (.inr (IQ ρ H _ _ _ Q z hd' hR h1 hf hQ))))
end L2
namespace L2
open PySem PySem.Spec PyProof.Rows
section
variable(C:Addr)(f:Str)
def Ends.non(D:Ends):Ends:={ D with rt:=λ_ _=>False }
end
end L2
namespace L2
open PySem PySem.Spec PyProof.Rows PySem.W
def Le(K K':Frag):Prop:=∀a o,K.lookup a=some o->(∀vs,o.data≠.fields vs)->K'.lookup a=some o
end L2
namespace L2
open PySem PySem.Spec PyProof.Rows
def Eo(i j:Int):Prop:=i.natAbs.log2<100000/\j.natAbs.log2<100000
def Jl{i:Int}(h:i.natAbs.log2<100000):Builtin.Int.intBits i<=2^20:=by
 have e:(2:Nat)^20=1048576:=by decide
 unfold Builtin.Int.intBits;split<;>omega
def Pw{X:Cx}:OpR X (binaryOp .Mult) (rI Eo λi j=>.int (i*j)):=opI λ_ _ _ _ _ _ _ hc q=>mul_int q (IntMulOk.of_bits (Jl hc.1) (Jl hc.2))
open Classical in
abbrev Al:D->D->Hd->Option (D×Hd):=fI λi j=>if Eo i j then some (.int (i*j))else none
def Oq{K:PySem.W.Frag}:RB K (rI Eo λi j=>.int (i*j)) Al:=GY λi j z h=>by
 split at h
 .next q=>cases h;exact⟨q,λ_=>by simp[RI]⟩
 .cases h
def Ad{i j:Int}{hd:Hd}{QE:D->Hd->Prop}(c:Eo i j)(q:QE (.im (.int (i*j))) hd):WP (Al (.im (.int i)) (.im (.int j)) hd) QE:=⟨_,_,by simp[c],q⟩
def Br(j:Int):Prop:=0<j/\j.natAbs.log2<9000
def Mw{X:Cx}:OpR X (binaryOp .FloorDiv) (rI (λ_ j=>Br j) λi j=>.int (i/j)):=opI λi j _ _ _ _ _ hc q=>by
 have h1:(0:Int)<j:=hc.1;exact floordiv_int (by omega) (by rw[Int.fdiv_eq_ediv_of_nonneg i (by omega)];exact q) (.inl (PyProof.noPylong_of_log2 hc.2))
open Classical in
abbrev Bm:D->D->Hd->Option (D×Hd):=fI λi j=>if Br j then some (.int (i/j))else none
def MU{K:PySem.W.Frag}:RB K (rI (λ_ j=>Br j) λi j=>.int (i/j)) Bm:=GY λi j z h=>by
 split at h
 .next q=>cases h;exact⟨q,λ_=>by simp[RI]⟩
 .cases h
def CO{i j:Int}{hd:Hd}{QE:D->Hd->Prop}(c:Br j)(q:QE (.im (.int (i/j))) hd):WP (Bm (.im (.int i)) (.im (.int j)) hd) QE:=⟨_,_,by simp[c],q⟩
end L2
namespace An
open PySem L2 Bd
inductive Tv where
 |non|bl (b:Bool)|int (i:Int)|str (x:Str)|tup (l:List Tv)|lst (l:List Tv)
mutual
def Is(n:Nat)(hd:Hd):Tv->D->Prop
 |.non,d=>d=.im .non
 |.bl b,d=>d=.im (.bl b)
 |.int i,d=>d=.im (.int i)
 |.str x,d=>d=.im (.str x)
 |.tup ts,d=>∃ds,d=AV ds/\Iss n hd ts ds
 |.lst ts,d=>∃k ds,d=.mu k/\2<=k/\k<n/\hd[k]?=some (.lst ds)/\Iss n hd ts ds
def Iss(n:Nat)(hd:Hd):List Tv->List D->Prop
 |[],ds=>ds=[]
 |t::ts,ds=>∃d r,ds=d::r/\Is n hd t d/\Iss n hd ts r
end
section
variable{n n':Nat}{hd hd':Hd}
mutual
theorem Is.mono(hn:n<=n')(hk:∀k,2<=k->k<n->hd'[k]?=hd[k]?):∀{t:Tv} {d:D},Is n hd t d->Is n' hd' t d
 |.non,d,h=>by simpa only[Is]using h
 |.bl b,d,h=>by simpa only[Is]using h
 |.int i,d,h=>by simpa only[Is]using h
 |.str x,d,h=>by simpa only[Is]using h
 |.tup ts,d,h=>by
  simp only[Is]at h ⊢;obtain⟨ds,e,q⟩:=h;exact⟨ds,e,Iss.mono hn hk q⟩
 |.lst ts,d,h=>by
  simp only[Is]at h ⊢;obtain⟨k,ds,e,k2,kn,e2,q⟩:=h;exact⟨k,ds,e,k2,lt_of_lt_of_le kn hn,(hk k k2 kn).trans e2,Iss.mono hn hk q⟩
theorem Iss.mono(hn:n<=n')(hk:∀k,2<=k->k<n->hd'[k]?=hd[k]?):∀{ts:List Tv} {ds:List D},Iss n hd ts ds->Iss n' hd' ts ds
 |[],ds,h=>by simpa only[Iss]using h
 |t::ts,ds,h=>by
  simp only[Iss]at h ⊢;obtain⟨d,r,e,q,z⟩:=h;exact⟨d,r,e,Is.mono hn hk q,Iss.mono hn hk z⟩
end
theorem Iss.len:∀{ts:List Tv} {ds:List D},Iss n hd ts ds->ds.length=ts.length
 |[],ds,h=>by simp only[Iss]at h;subst h;rfl
 |t::ts,ds,h=>by
  simp only[Iss]at h;obtain⟨d,r,rfl,q,z⟩:=h;simp[Iss.len z]
theorem Iss.app:∀{ts us:List Tv} {ds es:List D},Iss n hd ts ds->Iss n hd us es->Iss n hd (ts++us) (ds++es)
 |[],us,ds,es,h,h'=>by simp only[Iss]at h;subst h;simpa using h'
 |t::ts,us,ds,es,h,h'=>by
  simp only[Iss]at h;obtain⟨d,r,rfl,q,z⟩:=h;rw[cons_append,cons_append];simp only[Iss];exact⟨d,r++es,rfl,q,z.app h'⟩
def Iss.nil:Iss n hd [] []:=by simp only[Iss]
def Iss.cons{t:Tv}{ts:List Tv}{d:D}{ds:List D}(h:Is n hd t d)(r:Iss n hd ts ds):Iss n hd (t::ts) (d::ds):=by simp only[Iss];exact⟨d,ds,rfl,h,r⟩
def Iss.one{t:Tv}{d:D}(h:Is n hd t d):Iss n hd [t] [d]:=.cons h .nil
theorem Iss.drop:∀(k:Nat) {ts:List Tv} {ds:List D},Iss n hd ts ds->Iss n hd (ts.drop k) (ds.drop k)
 |0,ts,ds,h=>by simpa using h
 |k+1,[],ds,h=>by simp only[Iss]at h;subst h;simpa using Iss.nil
 |k+1,t::ts,ds,h=>by
  simp only[Iss]at h;obtain⟨d,r,rfl,q,z⟩:=h;simpa using Iss.drop k z
theorem Iss.take:∀(k:Nat) {ts:List Tv} {ds:List D},Iss n hd ts ds->Iss n hd (ts.take k) (ds.take k)
 |0,ts,ds,h=>by simpa using Iss.nil
 |k+1,[],ds,h=>by simp only[Iss]at h;subst h;simpa using Iss.nil
 |k+1,t::ts,ds,h=>by
  simp only[Iss]at h;obtain⟨d,r,rfl,q,z⟩:=h;simpa using Iss.cons q (Iss.take k z)
theorem Iss.rev:∀{ts:List Tv} {ds:List D},Iss n hd ts ds->Iss n hd ts.reverse ds.reverse
 |[],ds,h=>by simp only[Iss]at h;subst h;simpa using Iss.nil
 |t::ts,ds,h=>by
  simp only[Iss]at h;obtain⟨d,r,rfl,q,z⟩:=h;rw[reverse_cons,reverse_cons];exact z.rev.app (.one q)
theorem Iss.get:∀{ts:List Tv} {ds:List D} {k:Nat} {t:Tv},Iss n hd ts ds->ts[k]?=some t->∃d,ds[k]?=some d/\Is n hd t d
 |[],ds,k,t,h,e=>by simp at e
 |u::ts,ds,0,t,h,e=>by
  simp only[Iss]at h;obtain⟨d,r,rfl,q,z⟩:=h;simp at e;subst e;exact⟨d,rfl,q⟩
 |u::ts,ds,k+1,t,h,e=>by
  simp only[Iss]at h;obtain⟨d,r,rfl,q,z⟩:=h;exact Iss.get (k:=k) z (by simpa using e)
theorem Iss.tup{ts:List Tv}{ds:List D}(h:Iss n hd ts ds):Is n hd (.tup ts) (AV ds):=by simp only[Is];exact⟨ds,rfl,h⟩
def Is.view{ts:List Tv}{d:D}(h:Is n hd (.tup ts) d):∃ds,AH d=some ds/\Iss n hd ts ds:=by
 simp only[Is]at h;obtain⟨ds,rfl,q⟩:=h;exact⟨ds,AN ds,q⟩
def ty(T:Ty):Tv->Bool
 |.non=>false
 |.bl _=>decide (T=.int∨T=.bool)
 |.int _=>decide (T=.int)
 |.str _=>decide (T=.str)
 |.tup _=>decide (T=.tuple)
 |.lst _=>decide (T=.list)
theorem Is.isD{t:Tv}{d:D}(T:Ty)(h:Is n hd t d):isD T hd d=some (ty T t):=by
 cases t with
 |non=>simp only[Is]at h;subst h;rfl
 |bl b=>simp only[Is]at h;subst h;rfl
 |int b=>simp only[Is]at h;subst h;rfl
 |str b=>simp only[Is]at h;subst h;rfl
 |tup ts=>
  simp only[Is]at h;obtain⟨ds,rfl,q⟩:=h;unfold AV;cases B4 ds<;>rfl
 |lst ts=>
  simp only[Is]at h;obtain⟨k,ds,rfl,_,_,e,_⟩:=h;simp[L2.isD,e,ty]
mutual
def pyT:Tv->PyData
 |.non=>.none
 |.bl b=>.bool b
 |.int i=>.int i
 |.str x=>.str x
 |.tup ts=>.tuple (Dl ts)
 |.lst ts=>.list (Dl ts)
def Dl:List Tv->List PyData
 |[]=>[]
 |t::ts=>pyT t::Dl ts
end
mutual
theorem Is.py:∀{t:Tv} {i:I},Is n hd t (.im i)->i.py=pyT t
 |.non,i,h=>by simp only[Is]at h;cases h;rfl
 |.bl b,i,h=>by simp only[Is]at h;cases h;rfl
 |.int b,i,h=>by simp only[Is]at h;cases h;rfl
 |.str b,i,h=>by simp only[Is]at h;cases h;rfl
 |.tup ts,i,h=>by
  simp only[Is]at h;obtain⟨ds,e,q⟩:=h;unfold AV at e;cases z:B4 ds with
  |none=>rw[z]at e;cases e
  |some is=>
   rw[z]at e;cases e;rw[Cm z]at q;rw[I.py,pyT,Iss.pys q]
 |.lst ts,i,h=>by simp only[Is]at h;obtain⟨k,ds,e,_⟩:=h;cases e
theorem Iss.pys:∀{ts:List Tv} {is:List I},Iss n hd ts (is.map D.im)->I.pys is=Dl ts
 |[],is,h=>by
  simp only[Iss]at h;have:is=[]:=by simpa using h
  subst this;rfl
 |t::ts,is,h=>by
  simp only[Iss]at h;obtain⟨d,r,e,q,z⟩:=h;cases is with
  |nil=>cases e
  |cons i is=>
   rw[map_cons]at e;obtain⟨rfl,rfl⟩:=List.cons.inj e;rw[I.pys,Dl,Is.py q,Iss.pys z]
end
mutual
def dep:Tv->Nat
 |.non=>0
 |.bl _=>0
 |.int _=>0
 |.str _=>0
 |.tup ts=>Aw ts+1
 |.lst ts=>Aw ts+1
def Aw:List Tv->Nat
 |[]=>0
 |t::ts=>max (dep t) (Aw ts)
end
def DS(m:Nat)(i:I):pyN m hd (.im i)=some i.py:=by cases m<;>rfl
mutual
theorem Is.pyN:∀{t:Tv} {d:D} {m:Nat},Is n hd t d->dep t<=m->pyN m hd d=some (pyT t)
 |.non,d,m,h,hm=>by simp only[Is]at h;subst h;exact DS m _
 |.bl b,d,m,h,hm=>by simp only[Is]at h;subst h;exact DS m _
 |.int i,d,m,h,hm=>by simp only[Is]at h;subst h;exact DS m _
 |.str x,d,m,h,hm=>by simp only[Is]at h;subst h;exact DS m _
 |.tup ts,d,m,h,hm=>by
  have h0:=h;simp only[Is]at h;obtain⟨ds,e,q⟩:=h;cases m with
  |zero=>simp[dep]at hm
  |succ m=>
   unfold AV at e;cases z:B4 ds with
   |some is=>rw[z]at e;subst e;rw[DS,Is.py h0]
   |none=>
    rw[z]at e;subst e;show(D4 (ds.map (L2.pyN m hd))).map PyData.tuple=_;rw[Iss.pyN q (by simp[dep]at hm;omega),pyT];rfl
 |.lst ts,d,m,h,hm=>by
  simp only[Is]at h;obtain⟨k,ds,rfl,_,_,e,q⟩:=h;cases m with
  |zero=>simp[dep]at hm
  |succ m=>
   show(match hd[k]? with|some (.lst ds)=>(D4 (ds.map (L2.pyN m hd))).map PyData.list|_=>none)=_;rw[e];show(D4 (ds.map (L2.pyN m hd))).map PyData.list=_;rw[Iss.pyN q (by simp[dep]at hm;omega),pyT];rfl
theorem Iss.pyN:∀{ts:List Tv} {ds:List D} {m:Nat},Iss n hd ts ds->Aw ts<=m->D4 (ds.map (L2.pyN m hd))=some (Dl ts)
 |[],ds,m,h,hm=>by simp only[Iss]at h;subst h;rfl
 |t::ts,ds,m,h,hm=>by
  simp only[Iss]at h;obtain⟨d,r,rfl,q,z⟩:=h;simp only[Aw]at hm;rw[map_cons,Is.pyN q (by omega)];show(D4 (r.map (L2.pyN m hd))).map (pyT t::·)=_;rw[Iss.pyN z (by omega),Dl];rfl
end
mutual
def Gq(m:Nat):Tv->Prop
 |.non=>True
 |.bl _=>True
 |.int i=>i.natAbs<=m
 |.str x=>∀c∈x.cps.toList,c<128
 |.tup ts=>Gqs m ts
 |.lst ts=>Gqs m ts
def Gqs(m:Nat):List Tv->Prop
 |[]=>True
 |t::ts=>Gq m t/\Gqs m ts
end
mutual
def wt:Tv->Nat
 |.non=>1
 |.bl _=>1
 |.int i=>i.natAbs.log2+2
 |.str x=>x.length+1
 |.tup ts=>wts ts+1
 |.lst ts=>wts ts+1
def wts:List Tv->Nat
 |[]=>0
 |t::ts=>wt t+wts ts
end
theorem gds_iff{m:Nat}:∀{ts:List Tv},Gqs m ts↔∀t∈ts,Gq m t
 |[]=>by simp[Gqs]
 |t::ts=>by simp[Gqs,gds_iff]
theorem Bq:∀(ts us:List Tv),wts (ts++us)=wts ts+wts us
 |[],us=>by simp[wts]
 |t::ts,us=>by simp[wts,Bq ts us];omega
theorem Fj:∀(ts us:List Tv),Aw (ts++us)=max (Aw ts) (Aw us)
 |[],us=>by simp[Aw]
 |t::ts,us=>by simp only[cons_append,Aw,Fj ts us];omega
theorem EA{t:Tv}:∀{ts:List Tv},t∈ts->dep t<=Aw ts
 |u::ts,h=>by
  simp only[Aw];rcases mem_cons.mp h with rfl|h
  .omega
  .have:=EA h;omega
def Gy{ts:List Tv}{k:Nat}(h:∀t∈ts,dep t<=k):Aw ts<=k:=by
 induction ts with
 |nil=>simp[Aw]
 |cons t ts ih=>
  simp only[Aw];have h1:=h t (by simp);have h2:=ih λu hu=>h u (by simp[hu]);omega
theorem GP:∀(ts:List Tv),ts.length<=wts ts
 |[]=>by simp[wts]
 |t::ts=>by
  have:1<=wt t:=by cases t<;>simp[wt]
  have:=GP ts;simp[wts];omega
def Lu{ts us:List Tv}(h:ts.Perm us):wts ts=wts us:=by
 induction h with
 |nil=>rfl
 |cons x _ ih=>simp[wts,ih]
 |swap x y l=>simp[wts];omega
 |trans _ _ a b=>rw[a,b]
mutual
theorem Gq.mono{m m':Nat}(h:m<=m'):∀{t:Tv},Gq m t->Gq m' t
 |.non,q=>trivial
 |.bl _,q=>trivial
 |.int i,q=>by simp only[Gq]at q ⊢;omega
 |.str x,q=>by simpa only[Gq]using q
 |.tup ts,q=>by simp only[Gq]at q ⊢;exact Gqs.mono h q
 |.lst ts,q=>by simp only[Gq]at q ⊢;exact Gqs.mono h q
theorem Gqs.mono{m m':Nat}(h:m<=m'):∀{ts:List Tv},Gqs m ts->Gqs m' ts
 |[],q=>trivial
 |t::ts,q=>by simp only[Gqs]at q ⊢;exact⟨Gq.mono h q.1,Gqs.mono h q.2⟩
end
end
end An
namespace An
open PySem L2 Bd
section
variable{n n':Nat}{hd hd':Hd}
mutual
def ofI:I->Tv
 |.non=>.non
 |.bl b=>.bl b
 |.int i=>.int i
 |.str x=>.str x
 |.tup l=>.tup (Dm l)
def Dm:List I->List Tv
 |[]=>[]
 |i::l=>ofI i::Dm l
end
mutual
theorem AQ:∀(i:I),Is n hd (ofI i) (.im i)
 |.non=>by simp only[ofI,Is]
 |.bl _=>by simp only[ofI,Is]
 |.int _=>by simp only[ofI,Is]
 |.str _=>by simp only[ofI,Is]
 |.tup l=>by
  simp only[ofI,Is];exact⟨l.map D.im,(N0 l).symm,GB l⟩
theorem GB:∀(l:List I),Iss n hd (Dm l) (l.map D.im)
 |[]=>Iss.nil
 |i::l=>by rw[Dm,map_cons];exact .cons (AQ i) (GB l)
end
def tl:Tv->Nat
 |.tup l=>l.length
 |.lst l=>l.length
 |_=>0
structure Bo(m w dp l:Nat)(t:Tv):Prop where
 gd:Gq m t
 wt:wt t<=w
 dp:dep t<=dp
 tl:tl t<=l
theorem Bo.mono{m w dp l m' w' dp' l':Nat}{t:Tv}(h:Bo m w dp l t)(h1:m<=m')(h2:w<=w')(h3:dp<=dp')(h4:l<=l'):Bo m' w' dp' l' t:=⟨h.gd.mono h1,le_trans h.wt h2,le_trans h.dp h3,le_trans h.tl h4⟩
def F3{m w dp l:Nat}{ts:List Tv}(h1:∀t∈ts,Gq m t)(h2:wts ts+1<=w)(h3:Aw ts+1<=dp)(h4:ts.length<=l):Bo m w dp l (.tup ts):=⟨by simp only[Gq];exact gds_iff.mpr h1,by simpa only[An.wt]using h2,by simpa only[dep]using h3,by simpa only[An.tl]using h4⟩
def J4{m w dp l:Nat}{ts:List Tv}(h1:∀t∈ts,Gq m t)(h2:wts ts+1<=w)(h3:Aw ts+1<=dp)(h4:ts.length<=l):Bo m w dp l (.lst ts):=⟨by simp only[Gq];exact gds_iff.mpr h1,by simpa only[An.wt]using h2,by simpa only[dep]using h3,by simpa only[An.tl]using h4⟩
def GJ{m w dp l:Nat}{i:Int}(h1:i.natAbs<=m)(h2:i.natAbs.log2+2<=w):Bo m w dp l (.int i):=⟨by simpa only[Gq]using h1,by simpa only[An.wt]using h2,by simp[dep],by simp[An.tl]⟩
def DZ{m w dp l:Nat}{x:Str}(h1:∀c∈x.cps.toList,c<128)(h2:x.length+1<=w):Bo m w dp l (.str x):=⟨by simpa only[Gq]using h1,by simpa only[An.wt]using h2,by simp[dep],by simp[An.tl]⟩
def Ny{m w dp l:Nat}{b:Bool}(h2:1<=w):Bo m w dp l (.bl b):=⟨trivial,by simpa only[An.wt]using h2,by simp[dep],by simp[An.tl]⟩
def U5{m w dp l:Nat}(h2:1<=w):Bo m w dp l .non:=⟨trivial,by simpa only[An.wt]using h2,by simp[dep],by simp[An.tl]⟩
theorem Bo.tup{m w dp l:Nat}{ts:List Tv}(h:Bo m w dp l (.tup ts)):(∀t∈ts,Gq m t)/\wts ts+1<=w/\Aw ts+1<=dp/\ts.length<=l:=by
 have h1:=h.gd;have h2:=h.wt;have h3:=h.dp;have h4:=h.tl;simp only[Gq]at h1;simp only[An.wt]at h2;simp only[dep]at h3;simp only[An.tl]at h4;exact⟨gds_iff.mp h1,h2,h3,h4⟩
def O0{ts:List Tv}{ds:List D}{r:Int}(h:Iss n hd ts ds)(h0:0<=r)(h1:r<ts.length):∃d t,atI ds r=some d/\t∈ts/\Is n hd t d:=by
 obtain⟨k,rfl⟩:∃k:Nat,r=(k:Int):=⟨r.toNat,by omega⟩
 have hk:k<ts.length:=by omega
 obtain⟨d,e,q⟩:=h.get (List.getElem?_eq_getElem hk);exact⟨d,_,F5 rfl e,List.getElem_mem hk,q⟩
def FA(l d k:Nat):HT.sIx l d (some (k:Int))=min k l:=by
 unfold HT.sIx;have h:¬ ((k:Int)<0):=by omega
 simp[h]
def Lg(xs:List D)(k:Nat):Bv xs none (some (k:Int))=xs.take k:=by
 unfold Bv;rw[FA,show HT.sIx xs.length 0 none=0 from rfl,List.drop_zero,Nat.sub_zero,<- List.take_eq_take_min]
def Lh(xs:List D)(k:Nat):Bv xs (some (k:Int)) none=xs.drop k:=by
 unfold Bv;rw[FA,show HT.sIx xs.length xs.length none=xs.length from rfl,List.take_of_length_le (by simp)];by_cases h:k<=xs.length
 .rw[Nat.min_eq_left h]
 .rw[Nat.min_eq_right (by omega),List.drop_of_length_le (le_refl _),List.drop_of_length_le (by omega)]
def QV(xs:List D)(k j:Nat)(hj:j=k+2):Bv xs (some (k:Int)) (some (j:Int))=(xs.drop k).take 2:=by
 subst hj;unfold Bv;rw[FA,FA];by_cases h:k<=xs.length
 .rw[Nat.min_eq_left h];by_cases h2:k+2<=xs.length
  .rw[Nat.min_eq_left h2,show k+2-k=2 by omega]
  .rw[Nat.min_eq_right (by omega),List.take_of_length_le (by simp),List.take_of_length_le (by simp;omega)]
 .rw[List.drop_of_length_le (show xs.length<=min k xs.length by omega),List.drop_of_length_le (show xs.length<=k by omega)];simp
end
section
variable{hd:Hd}{QE:D->Hd->Prop}{d e:D}{xs ys:List D}
def Lr(h:AH d=some xs):Ik d e hd=none:=by
 cases d with
 |im i=>cases i with
  |tup is=>rfl
  |_=>cases h
 |tm _=>rfl
 |mu _=>cases h
 |ro _=>cases h
 |op _ _ _=>cases h
def F8(h1:AH d=some xs)(h2:AH e=some ys)(hn:xs≠[])(hl:xs.length+ys.length<=1000000)(q:QE (AV (xs++ys)) hd):WP (AL d e hd) QE:=by
 refine⟨_,_,?_,q⟩;show Bh Ik D8 d e hd=_;unfold Bh;rw[Lr h1];show D8 d e hd=_;unfold D8;rw[h1,bind_some,h2,bind_some,if_pos ⟨hn,Ac hl⟩]
def DF(h1:AH d=some xs)(h2:AH e=some ys)(hl:xs.length+ys.length<=1000000)(q:QE (AV (xs++ys)) hd):WP (C5 d e hd) QE:=by
 by_cases hn:xs=[]
 .subst hn;refine⟨_,_,?_,q⟩;show Bh AL ET d e hd=_;unfold Bh;have:AL d e hd=none:=by
   show Bh Ik D8 d e hd=_;unfold Bh;rw[Lr h1];show D8 d e hd=_;unfold D8;rw[h1,bind_some,h2,bind_some,if_neg (λc=>c.1 rfl)]
  rw[this];show ET d e hd=_;unfold ET;rw[h1,bind_some,h2,bind_some,if_pos rfl];rfl
 .obtain⟨z,x,e1,q1⟩:=F8 (hd:=hd) (QE:=QE) h1 h2 hn hl q;refine⟨z,x,?_,q1⟩;show Bh AL ET d e hd=_;unfold Bh;rw[e1]
def GQ{k:Nat}(hk:k<=1000)(q:QE (.im (.int ((10:Int)^k))) hd):WP (Ev (.im (.int 10)) (.im (.int (k:Int))) hd) QE:=by
 have:Hk 10 (k:Int):=⟨by omega,by omega,by decide⟩
 exact⟨_,_,by simp[this],q⟩
end
end An
namespace An
open PySem L2 Bd
abbrev Asc(x:Str):Prop:=∀c∈x.cps.toList,c<128
def Qc{x y:Str}(h:Asc x)(k:Asc y):Asc (x++y):=by
 intro c hc;have:c∈(x.cps++y.cps).toList:=hc;rw[Array.toList_append,mem_append]at this;rcases this with q|q
 .exact h c q
 .exact k c q
def QH(x y:Str):(x++y).length=x.length+y.length:=by
 show(x.cps++y.cps).size=_;simp;rfl
def Lo{x:Str}(h:Asc x)(L:List Nat):Asc ⟨(L.filterMap (x.cps[·]?)).toArray⟩:=by
 intro c hc;simp only[List.mem_filterMap]at hc;obtain⟨k,_,e⟩:=hc;exact h c (by simpa using Array.mem_of_getElem? e)
def QZ{x:Str}(h:Asc x):Asc (El x):=Lo h _
def Qb{x:Str}(h:Asc x)(l u:Option Int):Asc (EZ x l u):=by
 unfold EZ Txt.slice;split
 .exact h
 .exact Lo h _
def U3(x:Str)(l u:Option Int):(EZ x l u).length<=x.length:=Txt.slice_le x l u
def U9{x:Str}(h:Asc x):Asc (Txt.upper x)/\(Txt.upper x).length=x.length:=by
 rw[PyProof.Rows.upper_ascii h];refine⟨λc hc=>?_,by show(x.cps.map _).size=_;rw[Array.size_map];rfl⟩;simp only[Array.toList_map,mem_map]at hc;obtain⟨b,hb,rfl⟩:=hc;have key:∀b,b<128->PyProof.Rows.up1 b<128:=by decide +kernel
 exact key b (h b hb)
def Qa(i:Int):Asc (Str.ofString (toString i)):=by
 intro c hc;refine Classical.byContradiction λz=>?_;exact PyProof.Rows.int_text_free' c ⟨by omega,by omega⟩ i hc
section
variable{ls:Ls}{hd:Hd}{QE:D->Hd->Prop}{d:D}{ds:List D}{i j k:Nat}
def Hg(h1:ls[i]?=some (some d))(hv:AH d=some ds)(h2:ls[j]?=some (some (.im (.int (k:Int)))))(q:QE (AV (ds.take k)) hd):WE (Ay (A2 i) AT (Aa (A2 j))) ls hd QE:=
 Eg (A3 h1 (Fp (Cf (A3 h2 ⟨_,rfl,ds,hv,by rw[Lg];exact q⟩))))
def NV(h1:ls[i]?=some (some d))(hv:AH d=some ds)(h2:ls[j]?=some (some (.im (.int (k:Int)))))(q:QE (AV (ds.drop k)) hd):WE (Ay (A2 i) (Aa (A2 j)) AT) ls hd QE:=
 Eg (A3 h1 (Cf (A3 h2 ⟨_,rfl,Fp ⟨ds,hv,by rw[Lh];exact q⟩⟩)))
def Qv(h1:ls[i]?=some (some d))(hv:AH d=some ds)(h2:ls[j]?=some (some (.im (.int (k:Int)))))(q:QE (AV (ds.take (k+1))) hd):WE (Ay (A2 i) AT (Aa (mOp AL (A2 j) (mC (.int 1))))) ls hd QE:=
 Eg (A3 h1 (Fp (Cf (A6 (A3 h2 (A5 (B5 ⟨_,rfl,ds,hv,by rw[show((k:Int)+1)=((k+1:Nat):Int) by omega,Lg];exact q⟩)))))))
def IG{c:Nat}(h1:ls[i]?=some (some d))(hv:AH d=some ds)(h2:ls[j]?=some (some (.im (.int (k:Int)))))(q:QE (AV (ds.drop (k+c))) hd):WE (Ay (A2 i) (Aa (mOp AL (A2 j) (mC (.int (c:Int))))) AT) ls hd QE:=
 Eg (A3 h1 (Cf (A6 (A3 h2 (A5 (B5 ⟨_,rfl,Fp ⟨ds,hv,by rw[show((k:Int)+(c:Int))=((k+c:Nat):Int) by omega,Lh];exact q⟩⟩))))))
def Qt(h1:ls[i]?=some (some d))(hv:AH d=some ds)(h2:ls[j]?=some (some (.im (.int (k:Int)))))(q:QE (AV ((ds.drop k).take 2)) hd):WE (Ay (A2 i) (Aa (A2 j)) (Aa (mOp AL (A2 j) (mC (.int 2))))) ls hd QE:=
 Eg (A3 h1 (Cf (A3 h2 ⟨_,rfl,Cf (A6 (A3 h2 (A5 (B5 ⟨_,rfl,ds,hv,by rw[show((k:Int)+2)=((k+2:Nat):Int) by omega,QV _ _ _ rfl];exact q⟩))))⟩)))
end
def CT(ts:List Tv)(k:Nat):wts (ts.take k)+wts (ts.drop k)=wts ts:=by rw[<- Bq,List.take_append_drop]
def JH(ts:List Tv):wts ts.reverse=wts ts:=Lu (List.reverse_perm ts)
def ED{m w dp l:Nat}{ts us:List Tv}(hm:10^50<=m)(h:Bo m w dp l (.tup ts))(hs:∀u∈us,u∈ts∨Bo (10^50) 200 2 2 u)(hw:wts us<=2*wts ts+200)(hl:us.length<=ts.length+1):Bo (m+1) (2*w+400) (dp+4) (max l 2+1) (.tup us)/\Bo (m+1) (2*w+400) (dp+4) (max l 2+1) (.lst us):=by
 obtain⟨h1,h2,h3,h4⟩:=h.tup;have g:∀t∈us,Gq (m+1) t:=λt ht=>by
  rcases hs t ht with q|q
  .exact(h1 t q).mono (by omega)
  .exact q.gd.mono (by omega)
 have p:Aw us+1<=dp+4:=by
  refine Nat.succ_le_succ (le_trans (Gy (k:=dp+3) λt ht=>?_) (by omega));rcases hs t ht with q|q
  .have:=EA q;omega
  .have:=q.dp;omega
 exact⟨F3 g (by omega) p (by omega),J4 g (by omega) p (by omega)⟩
def N4(n:Nat):(n+1).log2<=n.log2+1:=by
 by_cases z:n=0
 .subst z;decide
 .have h1:=Nat.lt_log2_self (n:=n);refine Nat.le_of_lt_succ ((log2_lt (by omega)).mpr ?_);rw[Nat.pow_succ];have:2^(n.log2+1)>=n+1:=h1;omega
def Fh{a b:Nat}(h:a<=b):a.log2<=b.log2:=by
 by_cases z:a=0
 .subst z;rw[show Nat.log2 0=0 from by decide];exact zero_le _
 .refine Nat.le_of_lt_succ ((log2_lt z).mpr (lt_of_le_of_lt h ?_));exact Nat.lt_log2_self
end An
namespace An
open PySem PySem.Spec PyProof.Rows L2
structure OkW(w dp:Nat)(p:PyData):Prop where
 sh:p.showable=true
 lay:p.canLay0=true
 it:p.intsShort 250=true
 dp:p.depth<=dp
 wt:p.weight+1<=w
structure OkWs(w dp:Nat)(p:List PyData):Prop where
 sh:PyData.showableAll p=true
 lay:PyData.canLayAll0 p=true
 it:PyData.intsShortAll 250 p=true
 dp:PyData.depthAll p<=dp
 wt:PyData.weightAll p<=w
def OkW.tup{w dp:Nat}{p:List PyData}(h:OkWs w dp p):OkW (w+1) (dp+1) (.tuple p):=by
 refine⟨?_,?_,?_,?_,?_⟩
 .rw[PyData.showable];exact h.sh
 .rw[PyData.canLay0];exact h.lay
 .rw[PyData.intsShort];exact h.it
 .rw[PyData.depth];have:=h.dp;omega
 .rw[PyData.weight];have:=h.wt;omega
def OkW.lst{w dp:Nat}{p:List PyData}(h:OkWs w dp p):OkW (w+1) (dp+1) (.list p):=by
 refine⟨?_,?_,?_,?_,?_⟩
 .rw[PyData.showable];exact h.sh
 .rw[PyData.canLay0];exact h.lay
 .rw[PyData.intsShort];exact h.it
 .rw[PyData.depth];have:=h.dp;omega
 .rw[PyData.weight];have:=h.wt;omega
def OkWs.nil{w dp:Nat}:OkWs w dp []:=⟨by simp[PyData.showableAll],by simp[PyData.canLayAll0],by simp[PyData.intsShortAll],by simp[PyData.depthAll],by simp[PyData.weightAll]⟩
def OkWs.cons{w w' dp:Nat}{d:PyData}{ds:List PyData}(h:OkW w dp d)(t:OkWs w' dp ds):OkWs (w+w') dp (d::ds):=by
 refine⟨by simp[PyData.showableAll,h.sh,t.sh],by simp[PyData.canLayAll0,h.lay,t.lay],by simp[PyData.intsShortAll,h.it,t.it],?_,?_⟩
 .simp only[PyData.depthAll];exact Nat.max_le.mpr ⟨h.dp,t.dp⟩
 .simp only[PyData.weightAll];have:=h.wt;have:=t.wt;omega
def OkW.mono{w w' dp dp':Nat}{d:PyData}(h:OkW w dp d)(a:w<=w')(b:dp<=dp'):OkW w' dp' d:=⟨h.sh,h.lay,h.it,le_trans h.dp b,le_trans h.wt a⟩
def OkWs.mono{w w' dp dp':Nat}{d:List PyData}(h:OkWs w dp d)(a:w<=w')(b:dp<=dp'):OkWs w' dp' d:=⟨h.sh,h.lay,h.it,le_trans h.dp b,le_trans h.wt a⟩
def OkW.repr{w dp:Nat}{p:PyData}(h:OkW w dp p)(hd:PyProof.Rows.isDisplay p=true)(h1:dp<=30)(h2:w<=30000):G6 p:=by
 refine⟨h.sh,PyData.hasDict_of_canLay p h.lay,hd,le_trans h.dp h1,?_⟩;have:=PyData.shown_le 250 (by decide) p (PyData.leavesShort_of_canLay0 250 p h.lay h.it);have hw:=h.wt;rw[sizeLine_eq];omega
mutual
theorem Hs{m:Nat}(hm:m<=10^205):∀{t:Tv},Gq m t->OkW (wt t) (dep t) (pyT t)
 |.non,q=>⟨by simp[pyT,PyData.showable],by simp[pyT,PyData.canLay0],by simp[pyT,PyData.intsShort],by simp[pyT,PyData.depth],by simp[pyT,PyData.weight,wt]⟩
 |.bl _,q=>⟨by simp[pyT,PyData.showable],by simp[pyT,PyData.canLay0],by simp[pyT,PyData.intsShort],by simp[pyT,PyData.depth],by simp[pyT,PyData.weight,wt]⟩
 |.int i,q=>by
  simp only[Gq]at q;have h1:i.natAbs<10^206:=lt_of_le_of_lt (le_trans q hm) (by decide);have h0:i.natAbs<2^690:=lt_of_lt_of_le h1 (by decide);have lg:i.natAbs.log2<690:=by
   by_cases z:i.natAbs=0
   .rw[z];decide
   .exact(log2_lt z).mpr h0
  refine⟨?_,by simp[pyT,PyData.canLay0],?_,by simp[pyT,PyData.depth],?_⟩
  .simp only[pyT,PyData.showable];exact decide_eq_true (by omega)
  .simp only[pyT,PyData.intsShort,PyData.shown];refine decide_eq_true ?_;have h2:=int_text_length_le10 (a:=i) (k:=206) (by decide) h1;rw[PySem.ofString_length];omega
  .simp only[pyT,PyData.weight,wt];split<;>omega
 |.str x,q=>by
  simp only[Gq]at q;refine⟨by simp[pyT,PyData.showable],?_,by simp[pyT,PyData.intsShort],by simp[pyT,PyData.depth],by simp only[pyT,PyData.weight,wt];exact le_refl _⟩;simp only[pyT,PyData.canLay0,PyData.strOk];rw[Array.all_eq_true'];intro c hc;have:=q c (by simpa using hc);simp;omega
 |.tup ts,q=>by
  simp only[Gq]at q;rw[pyT,wt,dep];exact OkW.tup (Ih hm q)
 |.lst ts,q=>by
  simp only[Gq]at q;rw[pyT,wt,dep];exact OkW.lst (Ih hm q)
theorem Ih{m:Nat}(hm:m<=10^205):∀{ts:List Tv},Gqs m ts->OkWs (wts ts) (Aw ts) (Dl ts)
 |[],q=>.nil
 |t::ts,q=>by
  simp only[Gqs]at q;rw[Dl,wts,Aw];exact .cons ((Hs hm q.1).mono (le_refl _) (by omega)) ((Ih hm q.2).mono (le_refl _) (by omega))
end
end An
namespace L2
open PySem PySem.W PyProof.Rows
def feE{K:PySem.W.Frag}{e:Df}{n:Str}{s:Stmt}(h:Ea.Fe K n s)(hn:e.x=n:=by rfl)(hs:e.st=s:=by rfl):Fe K e:=by subst hn;subst hs;exact h
def zsE{K:PySem.W.Frag}(h:Ea.Zs K):Zs K:=h
end L2
namespace T01
open PySem L2
abbrev FQ:Stmt:=top 1
def IK:FnScope ["thing"] ["thing"] (AD FQ):=B2 (by kernel_rfl)
@[reducible] def JE:MS:=(AJ (C4 (Bb .int (A2 0)) (D6 (Bb .bool (A2 0)))))
def CH:FD:=mkF 1 1 JE
abbrev Cu:Df:=⟨"is_number",FQ,["thing"],1,CH⟩
abbrev DO:Stmt:=top 2
def FO:FnScope ["least","thing"] ["least","thing"] (AD DO):=B2 (by kernel_rfl)
@[reducible] def Fc:MS:=(AJ (C4 (Ag CH (A1 (A2 1) A7)) (mOp gGe (A2 1) (A2 0))))
def Bk:FD:=mkF 2 2 Fc
abbrev CS:Df:=⟨"is_number_from",DO,["least","thing"],2,Bk⟩
abbrev Eb:Stmt:=top 3
def GT:FnScope ["many","thing"] ["many","thing"] (AD Eb):=B2 (by kernel_rfl)
@[reducible] def HZ:MS:=(AJ (C4 (Bb .tuple (A2 1)) (mOp gEq (mCB (f1 true CQ) (A1 (A2 1) A7)) (A2 0))))
def CN:FD:=mkF 2 2 HZ
abbrev D2:Df:=⟨"is_tuple_of",Eb,["many","thing"],1,CN⟩
abbrev DP:Stmt:=top 5
def FP:FnScope ["one","other"] ["one","other"] (AD DP):=B2 (by kernel_rfl)
@[reducible] def Fd:MS:=(AB (AR 0 (mCB Cl (A1 (A2 0) A7)))
 (AB (BZ (AE (mOp gNe (A2 1) (mC (.int 0))))
  (C9 [0,1] (A1 (A2 1) (A1 (mOp BE (A2 0) (A2 1)) A7))))
 (AJ (A2 0))))
def B9:FD:=mkF 2 2 Fd
abbrev Bj:Df:=⟨"common_divisor",DP,["one","other"],1,B9⟩
abbrev Ec:Stmt:=top 6
def GU:FnScope ["thing","top","bottom"] ["thing"] (AD Ec):=B2 (by kernel_rfl)
@[reducible] def Ha:MS:=(AB (Ai (CA (BR (Ag CN (A1 (mC (.int 2)) (A1 (A2 0) A7)))))
 (AJ (mC (.bl false)))
 Ab)
 (AB (Es (A2 0) (DU 2 (BY (Au 1) (BY (Au 2) Do))))
 (AB (Ai (mOr (CA (BR (Ag CH (A1 (A2 1) A7)))) (CA (BR (Ag Bk (A1 (mC (.int 1)) (A1 (A2 2) A7))))))
  (AJ (mC (.bl false)))
  Ab)
 (AJ (mOp gEq (AA 0 B9 (A1 (A2 1) (A1 (A2 2) A7))) (mC (.int 1)))))))
def Bp:FD:=mkF 1 3 Ha
abbrev D3:Df:=⟨"is_fraction",Ec,["thing"],3,Bp⟩
abbrev Fy:Stmt:=top 7
def JB:FnScope ["top","bottom","shared"] ["top","bottom"] (AD Fy):=B2 (by kernel_rfl)
@[reducible] def KK:MS:=(AB (Ai (AE (mOp gLt (A2 1) (mC (.int 0))))
 (C9 [0,1] (A1 (BD (A2 0)) (A1 (BD (A2 1)) A7)))
 Ab)
 (AB (AR 2 (AA 0 B9 (A1 (A2 0) (A1 (A2 1) A7))))
 (AJ (AG (A1 (mOp Bm (A2 0) (A2 2)) (A1 (mOp Bm (A2 1) (A2 2)) A7))))))
def BL:FD:=mkF 2 3 KK
abbrev Bi:Df:=⟨"fraction",Fy,["top","bottom"],2,BL⟩
abbrev Kv:Stmt:=top 8
def OP:FnScope ["one","other"] ["one","other"] (AD Kv):=B2 (by kernel_rfl)
@[reducible] def TR:MS:=(AJ (AA 0 BL (A1 (mOp AL (mOp Al (mOp gIx (A2 0) (mC (.int 0))) (mOp gIx (A2 1) (mC (.int 1)))) (mOp Al (mOp gIx (A2 1) (mC (.int 0))) (mOp gIx (A2 0) (mC (.int 1))))) (A1 (mOp Al (mOp gIx (A2 0) (mC (.int 1))) (mOp gIx (A2 1) (mC (.int 1)))) A7))))
def GN:FD:=mkF 2 2 TR
abbrev Iv:Df:=⟨"plus",Kv,["one","other"],3,GN⟩
abbrev JR:Stmt:=top 9
def MH:FnScope ["one","other"] ["one","other"] (AD JR):=B2 (by kernel_rfl)
@[reducible] def QC:MS:=(AJ (AA 0 BL (A1 (mOp B3 (mOp Al (mOp gIx (A2 0) (mC (.int 0))) (mOp gIx (A2 1) (mC (.int 1)))) (mOp Al (mOp gIx (A2 1) (mC (.int 0))) (mOp gIx (A2 0) (mC (.int 1))))) (A1 (mOp Al (mOp gIx (A2 0) (mC (.int 1))) (mOp gIx (A2 1) (mC (.int 1)))) A7))))
def FM:FD:=mkF 2 2 QC
abbrev Gx:Df:=⟨"minus",JR,["one","other"],3,FM⟩
abbrev JO:Stmt:=top 10
def MC:FnScope ["one","other"] ["one","other"] (AD JO):=B2 (by kernel_rfl)
@[reducible] def Q8:MS:=(AJ (AA 0 BL (A1 (mOp Al (mOp gIx (A2 0) (mC (.int 0))) (mOp gIx (A2 1) (mC (.int 0)))) (A1 (mOp Al (mOp gIx (A2 0) (mC (.int 1))) (mOp gIx (A2 1) (mC (.int 1)))) A7))))
def Cn:FD:=mkF 2 2 Q8
abbrev FH:Df:=⟨"times",JO,["one","other"],3,Cn⟩
abbrev Kx:Stmt:=top 11
def OR:FnScope ["one","other"] ["one","other"] (AD Kx):=B2 (by kernel_rfl)
@[reducible] def TU:MS:=(AJ (mOp gLt (mOp Al (mOp gIx (A2 0) (mC (.int 0))) (mOp gIx (A2 1) (mC (.int 1)))) (mOp Al (mOp gIx (A2 1) (mC (.int 0))) (mOp gIx (A2 0) (mC (.int 1))))))
def GO:FD:=mkF 2 2 TU
abbrev Iw:Df:=⟨"less",Kx,["one","other"],1,GO⟩
abbrev Ks:Stmt:=top 13
def OM:FnScope ["_law_script"] ["_law_script"] (AD Ks):=B2 (by kernel_rfl)
@[reducible] def Rw:MS:=(AJ (G9 [((mC (.str "cells")),(Ah (E9 (Gh (A2 0) AT (Aa (mC (.int 63))))))),((mC (.str "next")),(mC (.int 0))),((mC (.str "left")),(mC (.int 0))),((mC (.str "turn")),(mC (.int 0)))]))
def F_tape:FD:=mkF 1 1 Rw
abbrev Ir:Df:=⟨"_law_tape",Ks,["_law_script"],1,F_tape⟩
abbrev Kw:Stmt:=top 14
def OQ:FnScope ["_law_tape_here","_law_many","_law_found","_law_cells","_law_at","_law_turn","_law_cell","_law_mixed"] ["_law_tape_here","_law_many"] (AD Kw):=B2 (by kernel_rfl)
@[reducible] def XF:MS:=(AB (CL (A2 0) (mC (.str "turn")) (mOp AL (mOp BV (A2 0) (mC (.str "turn"))) (mC (.int 1))))
 (AB (Ai (AE (mOp gGt (mOp BV (A2 0) (mC (.str "left"))) (mC (.int 0))))
  (AB (AR 2 (mOp BE (mOp BV (A2 0) (mC (.str "left"))) (A2 1)))
 (AB (CL (A2 0) (mC (.str "left")) (mOp Bg (mOp BV (A2 0) (mC (.str "left"))) (A2 1)))
 (AJ (A2 2))))
  Ab)
 (AB (Dd 3 4 5 (A1 (mOp BV (A2 0) (mC (.str "cells"))) (A1 (mOp BV (A2 0) (mC (.str "next"))) (A1 (mOp BV (A2 0) (mC (.str "turn"))) A7))))
 (AB (AR 6 (mIf (AE (D7 true (A2 3) (Ak A7))) (mOp gIx (A2 3) (mOp BE (A2 4) (mCB (f1 true CQ) (A1 (A2 3) A7)))) (mC (.int 23))))
 (AB (CL (A2 0) (mC (.str "next")) (mOp AL (A2 4) (mC (.int 1))))
 (AB (Ai (DV (AE (mOp gGe (A2 6) (mOp Ev (mC (.int 10)) (mC (.int 18))))) (AE (mOp gLt (A2 4) (mCB (f1 true CQ) (A1 (A2 3) A7)))))
  (AB (CL (A2 0) (mC (.str "left")) (mOp Bg (A2 6) (A2 1)))
 (AJ (mOp BE (A2 6) (A2 1))))
  Ab)
 (AB (AR 7 (mOp BE (mOp AL (mOp AL (mOp BE (A2 6) (mC (.int 2147483587))) (mOp BI (mC (.int 104729)) (A2 5))) (mC (.int 17))) (mC (.int 2147483629))))
 (AB (AR 7 (mOp BE (mOp AL (mOp BI (A2 7) (A2 7)) (mOp BI (mC (.int 48271)) (A2 5))) (mC (.int 2147483647))))
 (AB (AR 7 (mOp BE (mOp AL (mOp AL (mOp BI (A2 7) (A2 7)) (mOp BI (mC (.int 7919)) (A2 7))) (A2 5)) (mC (.int 2147483629))))
 (AJ (mOp BE (mOp Bg (A2 7) (mC (.int 128))) (A2 1))))))))))))
def F_pick:FD:=mkF 2 8 XF
abbrev CF:Df:=⟨"_law_pick",Kw,["_law_tape_here","_law_many"],1,F_pick⟩
abbrev HF:Stmt:=top 15
def K5:FnScope ["_law_tape_here","_law_some"] ["_law_tape_here"] (AD HF):=B2 (by kernel_rfl)
@[reducible] def LL:MS:=(AB (AR 1 (Ah (Ak (A1 (mC .non) (A1 (mC (.bl true)) (A1 (mC (.bl false)) (A1 (mC (.str "")) (A1 (mC (.str "late")) (A1 (mC (.str "0")) (A1 (AG A7) (A1 (Ah (Ak A7)) (A1 (AG (A1 (mC (.int 0)) A7)) (A1 (Ah (Ak (A1 (mC (.int 2)) A7))) (A1 (BD (mC (.int 1))) (A1 (mC (.int 0)) (A1 (mC (.int 1)) (A1 (mC (.int 3)) (A1 (mOp Ev (mC (.int 10)) (mC (.int 50))) (A1 (AG (A1 (AG A7) A7)) (A1 (AG (A1 (mC (.int 0)) (A1 (mC (.int 1)) A7))) (A1 (AG (A1 (mC (.str "ends")) (A1 (mC (.int 2)) A7))) A7)))))))))))))))))))))
 (AJ (mOp gIx (A2 1) (AA 2 F_pick (A1 (A2 0) (A1 (mC (.int 18)) A7))))))
def CZ:FD:=mkF 1 2 LL
abbrev Dg:Df:=⟨"_law_strange",HF,["_law_tape_here"],2,CZ⟩
abbrev IM:Stmt:=top 16
def OS:FnScope ["_law_tape_here","_law_thing","_law_deep","_law_at","_law_way","_law_odd","_law_some"] ["_law_tape_here","_law_thing","_law_deep"] (AD IM):=B2 (by kernel_rfl)
@[reducible] def LM(EG:FD):MS:=(AB (Ai (DV (BR (Bb .tuple (A2 1))) (DV (AE (mOp (Gu true) (A2 1) (AG A7))) (DV (AE (mOp gGt (A2 2) (mC (.int 0)))) (AE (mOp gGt (AA 2 F_pick (A1 (A2 0) (A1 (mC (.int 5)) A7))) (mC (.int 0)))))))
 (AB (AR 3 (AA 2 F_pick (A1 (A2 0) (A1 (mCB (f1 true CQ) (A1 (A2 1) A7)) A7))))
 (AJ (mOp AL (mOp C5 (Ay (A2 1) AT (Aa (A2 3))) (AG (A1 (Ag EG (A1 (A2 0) (A1 (mOp gIx (A2 1) (A2 3)) (A1 (mOp B3 (A2 2) (mC (.int 1))) A7)))) A7))) (Ay (A2 1) (Aa (mOp AL (A2 3) (mC (.int 1)))) AT))))
  Ab)
 (AB (AR 4 (AA 2 F_pick (A1 (A2 0) (A1 (mC (.int 7)) A7))))
 (AB (AR 5 (Ag CZ (A1 (A2 0) A7)))
 (AB (Ai (BR (Bb .tuple (A2 1)))
  (AB (AR 3 (AA 2 F_pick (A1 (A2 0) (A1 (mOp AL (mCB (f1 true CQ) (A1 (A2 1) A7)) (mC (.int 1))) A7))))
 (AB (AR 6 (Ah (Ak (A1 (Ah (De (A2 1))) (A1 (mOp AL (mOp C5 (Ay (A2 1) AT (Aa (A2 3))) (AG (A1 (A2 5) A7))) (Ay (A2 1) (Aa (A2 3)) AT)) (A1 (mOp C5 (Ay (A2 1) AT (Aa (A2 3))) (Ay (A2 1) (Aa (mOp AL (A2 3) (mC (.int 1)))) AT)) (A1 (mOp C5 (Ay (A2 1) AT (Aa (mOp AL (A2 3) (mC (.int 1))))) (Ay (A2 1) (Aa (A2 3)) AT)) A7)))))))
 (AJ (Bu (D1 (A2 6) (Ah (Ak (A1 (mOp C5 (mOp C5 (Ay (A2 1) AT (Aa (A2 3))) (ER (Ay (A2 1) (Aa (A2 3)) (Aa (mOp AL (A2 3) (mC (.int 2))))) (BD (mC (.int 1))))) (Ay (A2 1) (Aa (mOp AL (A2 3) (mC (.int 2)))) AT)) (A1 (CK (A2 1) (BD (mC (.int 1)))) (A1 (A2 5) A7)))))) (A2 4)))))
  Ab)
 (AB (Ai (BR (Bb .bool (A2 1)))
  (AJ (Bu (Ak (A1 (D6 (A2 1)) (A1 (mCB DW (A1 (A2 1) A7)) (A1 (mCB Dt (A1 (A2 1) A7)) (A1 (AG (A1 (A2 1) A7)) (A1 (mC .non) (A1 (Ah (Ak (A1 (A2 1) A7))) (A1 (A2 5) A7)))))))) (A2 4)))
  Ab)
 (AB (Ai (BR (Bb .int (A2 1)))
  (AJ (Bu (Ak (A1 (mOp AL (A2 1) (mC (.int 1))) (A1 (mOp B3 (A2 1) (mC (.int 1))) (A1 (mOp B3 (mC (.int 0)) (A2 1)) (A1 (mOp gEq (A2 1) (mC (.int 1))) (A1 (mCB Dt (A1 (A2 1) A7)) (A1 (AG (A1 (A2 1) A7)) (A1 (A2 5) A7)))))))) (A2 4)))
  Ab)
 (AB (Ai (BR (Bb .str (A2 1)))
  (AJ (Bu (Ak (A1 (mOp FG (A2 1) (mC (.str "s"))) (A1 (Fg (A2 1) AT (Aa (BD (mC (.int 1))))) (A1 (Ff (A2 1)) (A1 (CK (A2 1) (BD (mC (.int 1)))) (A1 (AG (A1 (A2 1) A7)) (A1 (mC (.str "steps")) (A1 (A2 5) A7)))))))) (A2 4)))
  Ab)
 (AJ (A2 5)))))))))
def F6:Nat->FD
 |0=>λ_ _=>none
 |n+1=>mkF 3 7 (LM (F6 n))
abbrev EG:FD:=F6 4
abbrev Ix:Df:=⟨"_law_bent",IM,["_law_tape_here","_law_thing","_law_deep"],6,EG⟩
abbrev Kr:Stmt:=top 17
def OL:FnScope ["_law_tape_here","_law_pieces","_law_found","_law_k"] ["_law_tape_here","_law_pieces"] (AD Kr):=B2 (by kernel_rfl)
@[reducible] def TM:MS:=(AB (AR 2 (mC (.int 0)))
 (AB (D0 (Dp (A1 (A2 1) A7)) (Au 3)
  (AR 2 (mOp AL (mOp BI (A2 2) (mOp Ev (mC (.int 10)) (mC (.int 6)))) (AA 2 F_pick (A1 (A2 0) (A1 (mOp Ev (mC (.int 10)) (mC (.int 6))) A7))))))
 (AJ (A2 2))))
def EE:FD:=mkF 2 4 TM
abbrev Iq:Df:=⟨"_law_wide",Kr,["_law_tape_here","_law_pieces"],2,EE⟩
abbrev Ej:Stmt:=top 18
def HY:FnScope ["_law_thing"] ["_law_thing"] (AD Ej):=B2 (by kernel_rfl)
@[reducible] def Ib:MS:=(AJ (C4 (Bb .int (A2 0)) (D6 (Bb .bool (A2 0)))))
def Db:FD:=mkF 1 1 Ib
abbrev DY:Df:=⟨"_law_is_number",Ej,["_law_thing"],1,Db⟩
abbrev IL:Stmt:=top 19
def Kq:FnScope ["_law_one","_law_other_here","_law_twos"] ["_law_one","_law_other_here"] (AD IL):=B2 (by kernel_rfl)
@[reducible] def N1:MS:=(AB (Ai (mOr (AE (mOp gEq (A2 0) (mC (.int 0)))) (AE (mOp gEq (A2 1) (mC (.int 0)))))
 (AJ (mOp AL (A2 0) (A2 1)))
 Ab)
 (AB (AR 2 (mC (.int 1)))
 (AB (BZ (DV (AE (mOp gEq (mOp BE (A2 0) (mC (.int 2))) (mC (.int 0)))) (AE (mOp gEq (mOp BE (A2 1) (mC (.int 2))) (mC (.int 0)))))
  (Dd 0 1 2 (A1 (mOp Bg (A2 0) (mC (.int 2))) (A1 (mOp Bg (A2 1) (mC (.int 2))) (A1 (mOp BI (mC (.int 2)) (A2 2)) A7)))))
 (AB (BZ (AE (mOp gEq (mOp BE (A2 0) (mC (.int 2))) (mC (.int 0))))
  (AR 0 (mOp Bg (A2 0) (mC (.int 2)))))
 (AB (BZ (AE (mOp gGt (A2 1) (mC (.int 0))))
  (AB (BZ (AE (mOp gEq (mOp BE (A2 1) (mC (.int 2))) (mC (.int 0))))
  (AR 1 (mOp Bg (A2 1) (mC (.int 2)))))
 (C9 [0,1] (A1 (mCB EW (A1 (A2 0) (A1 (A2 1) A7))) (A1 (mCB Cl (A1 (mOp B3 (A2 0) (A2 1)) A7)) A7)))))
 (AJ (mOp Al (A2 0) (A2 2))))))))
def Dc:FD:=mkF 2 3 N1
abbrev EY:Df:=⟨"_law_common",IL,["_law_one","_law_other_here"],1,Dc⟩
abbrev Dz:Stmt:=top 20
def Fv:FnScope ["_law_thing"] ["_law_thing"] (AD Dz):=B2 (by kernel_rfl)
@[reducible] def Gf:MS:=(AB (Ai (mOr (CA (BR (Bb .tuple (A2 0)))) (mOr (AE (mOp gNe (mCB (f1 true CQ) (A1 (A2 0) A7)) (mC (.int 2)))) (AE (Gk false (mC (.bl false)) (Cr 1 [] (Er (A2 0)) (Au 0) Gg (Ag Db (A1 (A2 0) A7)))))))
 (AJ (mC (.bl false)))
 Ab)
 (AJ (C4 (mOp gGe (mOp gIx (A2 0) (mC (.int 1))) (mC (.int 1))) (mOp gEq (AA 0 Dc (A1 (mCB Cl (A1 (mOp gIx (A2 0) (mC (.int 0))) A7)) (A1 (mOp gIx (A2 0) (mC (.int 1))) A7))) (mC (.int 1))))))
def BN:FD:=mkF 1 1 Gf
abbrev C7:Df:=⟨"_law_is_fraction",Dz,["_law_thing"],2,BN⟩
abbrev HH:Stmt:=top 21
def K6:FnScope ["_law_told","_law_top_here","_law_bottom"] ["_law_told","_law_top_here","_law_bottom"] (AD HH):=B2 (by kernel_rfl)
@[reducible] def LN:MS:=(AJ (C4 (Ag BN (A1 (A2 0) A7)) (mOp gEq (mOp Al (mOp gIx (A2 0) (mC (.int 0))) (A2 2)) (mOp Al (A2 1) (mOp gIx (A2 0) (mC (.int 1)))))))
def BF:FD:=mkF 3 3 LN
abbrev CW:Df:=⟨"_law_as_much",HH,["_law_told","_law_top_here","_law_bottom"],3,BF⟩
abbrev Ku:Stmt:=top 22
def OO:FnScope ["_law_one","_law_other_here","_law_side_here","_law_turn","_law_mine","_law_theirs"] ["_law_one","_law_other_here"] (AD Ku):=B2 (by kernel_rfl)
@[reducible] def TQ:MS:=(AB (AR 2 (mC (.int 1)))
 (AB (D0 (Dp (A1 (mC (.int 2000)) A7)) (Au 3)
  (AB (C9 [4,5] (A1 (mOp Bm (mOp gIx (A2 0) (mC (.int 0))) (mOp gIx (A2 0) (mC (.int 1)))) (A1 (mOp Bm (mOp gIx (A2 1) (mC (.int 0))) (mOp gIx (A2 1) (mC (.int 1)))) A7)))
 (AB (Ai (AE (mOp gNe (A2 4) (A2 5)))
  (AJ (mIf (AE (mOp gGt (A2 4) (A2 5))) (A2 2) (mOp B3 (mC (.int 0)) (A2 2))))
  Ab)
 (AB (C9 [0,1] (A1 (AG (A1 (mOp gIx (A2 0) (mC (.int 1))) (A1 (mOp B3 (mOp gIx (A2 0) (mC (.int 0))) (mOp Al (A2 4) (mOp gIx (A2 0) (mC (.int 1))))) A7))) (A1 (AG (A1 (mOp gIx (A2 1) (mC (.int 1))) (A1 (mOp B3 (mOp gIx (A2 1) (mC (.int 0))) (mOp Al (A2 5) (mOp gIx (A2 1) (mC (.int 1))))) A7))) A7)))
 (AB (Ai (mOr (AE (mOp gEq (mOp gIx (A2 0) (mC (.int 1))) (mC (.int 0)))) (AE (mOp gEq (mOp gIx (A2 1) (mC (.int 1))) (mC (.int 0)))))
  (AJ (mOp BI (A2 2) (mOp B3 (mCB DW (A1 (mOp gEq (mOp gIx (A2 1) (mC (.int 1))) (mC (.int 0))) A7)) (mCB DW (A1 (mOp gEq (mOp gIx (A2 0) (mC (.int 1))) (mC (.int 0))) A7)))))
  Ab)
 (AR 2 (mOp B3 (mC (.int 0)) (A2 2))))))))
 (AJ (mC (.int 0)))))
def GM:FD:=mkF 2 6 TQ
abbrev Iu:Df:=⟨"_law_side",Ku,["_law_one","_law_other_here"],1,GM⟩
abbrev Kt:Stmt:=top 23
def ON:FnScope ["_law_tape_here","_law_great"] ["_law_tape_here","_law_great"] (AD Kt):=B2 (by kernel_rfl)
@[reducible] def TN:MS:=(AB (Ai (BR (A2 1))
 (AJ (AA 2 EE (A1 (A2 0) (A1 (mC (.int 33)) A7))))
 Ab)
 (AJ (mIf (AE (mOp gGt (AA 2 F_pick (A1 (A2 0) (A1 (mC (.int 3)) A7))) (mC (.int 0)))) (AA 2 F_pick (A1 (A2 0) (A1 (mC (.int 100)) A7))) (AA 2 EE (A1 (A2 0) (A1 (mOp AL (mC (.int 1)) (AA 2 F_pick (A1 (A2 0) (A1 (mC (.int 6)) A7)))) A7))))))
def EF:FD:=mkF 2 2 TN
abbrev Ey:Df:=⟨"_law_size",Kt,["_law_tape_here","_law_great"],3,EF⟩
abbrev NW:Stmt:=top 24
def Qy:FnScope ["_law_tape_here","_law_great"] ["_law_tape_here","_law_great"] (AD NW):=B2 (by kernel_rfl)
@[reducible] def Uh:MS:=(AJ (mOp BI (AA 2 EF (A1 (A2 0) (A1 (A2 1) A7))) (Bu (Ak (A1 (mC (.int 1)) (A1 (BD (mC (.int 1))) A7))) (AA 2 F_pick (A1 (A2 0) (A1 (mC (.int 2)) A7))))))
def GL:FD:=mkF 2 2 Uh
abbrev Ht:Df:=⟨"_law_top",NW,["_law_tape_here","_law_great"],4,GL⟩
abbrev NX:Stmt:=top 25
def Qz:FnScope ["_law_top_here","_law_bottom","_law_common_here"] ["_law_top_here","_law_bottom"] (AD NX):=B2 (by kernel_rfl)
@[reducible] def Ui:MS:=(AB (AR 2 (AA 0 Dc (A1 (mCB Cl (A1 (A2 0) A7)) (A1 (A2 1) A7))))
 (AJ (AG (A1 (mOp Bm (A2 0) (A2 2)) (A1 (mOp Bm (A2 1) (A2 2)) A7)))))
def FN:FD:=mkF 2 3 Ui
abbrev Hu:Df:=⟨"_law_low",NX,["_law_top_here","_law_bottom"],2,FN⟩
abbrev JQ:Stmt:=top 26
def MF:FnScope ["_law_tape_here","_law_one","_law_great","_law_way"] ["_law_tape_here","_law_one","_law_great"] (AD JQ):=B2 (by kernel_rfl)
@[reducible] def QB:MS:=(AB (AR 3 (AA 2 F_pick (A1 (A2 0) (A1 (mC (.int 4)) A7))))
 (AB (Ai (AE (mOp gEq (A2 3) (mC (.int 0))))
  (AJ (A2 1))
  Ab)
 (AB (Ai (AE (mOp gEq (A2 3) (mC (.int 1))))
  (AJ (AA 0 FN (A1 (mOp AL (mOp gIx (A2 1) (mC (.int 0))) (Bu (Ak (A1 (mC (.int 1)) (A1 (BD (mC (.int 1))) A7))) (AA 2 F_pick (A1 (A2 0) (A1 (mC (.int 2)) A7))))) (A1 (mOp gIx (A2 1) (mC (.int 1))) A7))))
  Ab)
 (AJ (AA 0 FN (A1 (AA 2 GL (A1 (A2 0) (A1 (A2 2) A7))) (A1 (mIf (AE (mOp gEq (A2 3) (mC (.int 2)))) (mOp gIx (A2 1) (mC (.int 1))) (mOp AL (mC (.int 1)) (AA 2 EF (A1 (A2 0) (A1 (A2 2) A7))))) A7)))))))
def FL:FD:=mkF 3 4 QB
abbrev Gw:Df:=⟨"_law_other",JQ,["_law_tape_here","_law_one","_law_great"],5,FL⟩
abbrev Fx:Stmt:=top 27
def JA:FnScope ["_law_one","_law_other_here","_law_a","_law_b","_law_c","_law_d"] ["_law_one","_law_other_here"] (AD Fx):=B2 (by kernel_rfl)
@[reducible] def KJ:MS:=(AB (Es (AG (A1 (A2 0) (A1 (A2 1) A7))) (DU 2 (BY (DU 2 (BY (Au 2) (BY (Au 3) Do))) (BY (DU 2 (BY (Au 4) (BY (Au 5) Do))) Do))))
 (AB (Ai (CA (BR (AA 0 BF (A1 (AA 0 GN (A1 (A2 0) (A1 (A2 1) A7))) (A1 (mOp AL (mOp Al (A2 2) (A2 5)) (mOp Al (A2 4) (A2 3))) (A1 (mOp Al (A2 3) (A2 5)) A7))))))
  (AJ (mC (.bl false)))
  Ab)
 (AB (Ai (CA (BR (AA 0 BF (A1 (AA 0 FM (A1 (A2 0) (A1 (A2 1) A7))) (A1 (mOp B3 (mOp Al (A2 2) (A2 5)) (mOp Al (A2 4) (A2 3))) (A1 (mOp Al (A2 3) (A2 5)) A7))))))
  (AJ (mC (.bl false)))
  Ab)
 (AJ (C4 (AA 0 BF (A1 (AA 0 Cn (A1 (A2 0) (A1 (A2 1) A7))) (A1 (mOp Al (A2 2) (A2 4)) (A1 (mOp Al (A2 3) (A2 5)) A7)))) (mOp gEq (mCB C0 (A1 (AA 0 GO (A1 (A2 0) (A1 (A2 1) A7))) A7)) (mCB C0 (A1 (mOp gLt (AA 0 GM (A1 (A2 0) (A1 (A2 1) A7))) (mC (.int 0))) A7))))))))
def DE:FD:=mkF 2 6 KJ
abbrev EX:Df:=⟨"_law_reckoned",Fx,["_law_one","_law_other_here"],4,DE⟩
abbrev JP:Stmt:=top 28
def MD:FnScope ["_law_tape_here","_law_great","_law_top_here","_law_bottom","_law_one","_law_other_here","_law_under","_law_here","_law_there","_law_many","_law_bent_here","_law_found"] ["_law_tape_here","_law_great"] (AD JP):=B2 (by kernel_rfl)
@[reducible] def Q9:MS:=(AB (C9 [2,3] (A1 (AA 2 GL (A1 (A2 0) (A1 (A2 1) A7))) (A1 (mOp AL (mC (.int 1)) (AA 2 EF (A1 (A2 0) (A1 (A2 1) A7)))) A7)))
 (AB (AR 4 (AA 0 FN (A1 (A2 2) (A1 (A2 3) A7))))
 (AB (AR 5 (AA 2 FL (A1 (A2 0) (A1 (A2 4) (A1 (A2 1) A7)))))
 (AB (AR 6 (mOp BI (A2 3) (Bu (Ak (A1 (mC (.int 1)) (A1 (BD (mC (.int 1))) A7))) (AA 2 F_pick (A1 (A2 0) (A1 (mC (.int 2)) A7))))))
 (AB (Ai (mOr (CA (BR (AA 0 BF (A1 (AA 0 BL (A1 (A2 2) (A1 (A2 6) A7))) (A1 (A2 2) (A1 (A2 6) A7)))))) (AE (mOp gNe (mCB Cc (A1 (AA 0 BL (A1 (mC (.int 0)) (A1 (A2 6) A7))) A7)) (mC (.str "(0, 1)")))))
  (AJ (mC .non))
  Ab)
 (AB (D0 (Er (AG (A1 (AG (A1 (A2 4) (A1 (A2 5) A7))) (A1 (AG (A1 (A2 5) (A1 (A2 4) A7))) (A1 (AG (A1 (A2 4) (A1 (A2 4) A7))) (A1 (AG (A1 (A2 4) (A1 (AG (A1 (mC (.int 0)) (A1 (mC (.int 1)) A7))) A7))) (A1 (AG (A1 (AG (A1 (mC (.int 0)) (A1 (mC (.int 1)) A7))) (A1 (A2 4) A7))) A7))))))) (DU 2 (BY (Au 7) (BY (Au 8) Do)))
  (Ai (CA (BR (AA 0 DE (A1 (A2 7) (A1 (A2 8) A7)))))
  (AJ (mC .non))
  Ab))
 (AB (AR 9 (mOp AL (mC (.int 2)) (AA 2 F_pick (A1 (A2 0) (A1 (mC (.int 98)) A7)))))
 (AB (AR 10 (Ag EG (A1 (A2 0) (A1 (A2 4) (A1 (mC (.int 2)) A7)))))
 (AB (AR 11 (Ah (Ak (A1 (A2 4) (A1 (AG (A1 (A2 2) (A1 (A2 3) A7))) (A1 (AG (A1 (mOp gIx (A2 4) (mC (.int 0))) (A1 (mOp B3 (mC (.int 0)) (mOp gIx (A2 4) (mC (.int 1)))) A7))) (A1 (CK (A2 4) (BD (mC (.int 1)))) (A1 (mOp AL (A2 4) (AG (A1 (mC (.int 1)) A7))) (A1 (Ah (De (A2 4))) (A1 (A2 10) (A1 (A2 5) A7)))))))))))
 (AB (Ai (CA (BR (A2 1)))
  (FC (mMt CV (A2 11) (A1 (AG (A1 (mOp BI (mOp gIx (A2 4) (mC (.int 0))) (A2 9)) (A1 (mOp BI (mOp gIx (A2 4) (mC (.int 1))) (A2 9)) A7))) A7)))
  Ab)
 (AJ (Ah (D1 (A2 11) (Ah (Ak (A1 (Ag EG (A1 (A2 0) (A1 (A2 10) (A1 (mC (.int 2)) A7)))) (A1 (Ag CZ (A1 (A2 0) A7)) A7)))))))))))))))))
def FK:FD:=mkF 2 12 Q9
abbrev Gv:Df:=⟨"_law_round",JP,["_law_tape_here","_law_great"],7,FK⟩
abbrev Ei:Stmt:=top 29
def HW:FnScope ["_law_row","_law_k","_law_one","_law_other_here","_law_here","_law_there"] [] (AD Ei):=B2 (by kernel_rfl)
@[reducible] def Ia:MS:=(AB (AR 0 (Ah (Ak (A1 (mC (.int 0)) (A1 (mC (.int 1)) A7)))))
 (AB (D0 (Dp (A1 (mC (.int 1430)) A7)) (Au 1)
  (FC (mMt CV (A2 0) (A1 (mOp AL (mOp gIx (A2 0) (BD (mC (.int 2)))) (mOp gIx (A2 0) (BD (mC (.int 1))))) A7))))
 (AB (C9 [2,3] (A1 (AG (A1 (mOp gIx (A2 0) (mC (.int 715))) (A1 (mOp gIx (A2 0) (mC (.int 477))) A7))) (A1 (AG (A1 (mOp AL (mOp gIx (A2 0) (mC (.int 714))) (mOp gIx (A2 0) (mC (.int 716)))) (A1 (mOp Bm (mOp gIx (A2 0) (mC (.int 1431))) (mOp gIx (A2 0) (mC (.int 477)))) A7))) A7)))
 (AB (D0 (Er (AG (A1 (AG (A1 (A2 2) (A1 (A2 3) A7))) (A1 (AG (A1 (A2 3) (A1 (A2 2) A7))) A7)))) (DU 2 (BY (Au 4) (BY (Au 5) Do)))
  (Ai (CA (BR (AA 0 BF (A1 (AA 0 Cn (A1 (A2 4) (A1 (A2 5) A7))) (A1 (mOp gIx (A2 0) (mC (.int 1430))) (A1 (mOp gIx (A2 0) (mC (.int 1431))) A7))))))
  (AJ (mC (.bl false)))
  Ab))
 (AJ (mC (.bl true)))))))
def Ce:FD:=mkF 0 6 Ia
abbrev DX:Df:=⟨"_law_long_right",Ei,[],4,Ce⟩
abbrev NY:Stmt:=top 30
def R8:FnScope ["_law_script","_law_tape_here","_law_things","_law_far","_law_k","_law_more","_law_one","_law_other_here","_law_thing","_law_kept"] ["_law_script"] (AD NY):=B2 (by kernel_rfl)
@[reducible] def Uj:MS:=(AB (AR 1 (Ag F_tape (A1 (A2 0) A7)))
 (AB (AR 2 (Ah (Ak (A1 (AG (A1 (mC (.int 0)) (A1 (mC (.int 1)) A7))) (A1 (AG (A1 (mC (.int 0)) (A1 (mC (.int 2)) A7))) (A1 (AG (A1 (mC (.int 0)) (A1 (BD (mC (.int 1))) A7))) (A1 (AG (A1 (mC (.int 0)) (A1 (mC (.int 0)) A7))) (A1 (AG (A1 (mC (.int 1)) (A1 (mC (.int 0)) A7))) (A1 (AG (A1 (mC (.int 1)) (A1 (mC (.int 1)) A7))) (A1 (AG (A1 (BD (mC (.int 1))) (A1 (mC (.int 1)) A7))) (A1 (AG (A1 (mC (.int 1)) (A1 (BD (mC (.int 1))) A7))) (A1 (AG (A1 (mC (.int 2)) (A1 (mC (.int 4)) A7))) (A1 (AG (A1 (mC (.int 9)) (A1 (mC (.int 3)) A7))) (A1 (AG (A1 (BD (mC (.int 6))) (A1 (mC (.int 4)) A7))) (A1 (AG (A1 (mC (.bl true)) (A1 (mC (.int 1)) A7))) (A1 (AG A7) A7))))))))))))))))
 (AB (AR 2 (Ah (D1 (A2 2) (Ah (Ak (A1 (AG (A1 (mC (.int 1)) (A1 (mC (.bl true)) A7))) (A1 (AG (A1 (mC (.bl false)) (A1 (mC (.int 1)) A7))) (A1 (AG (A1 (mC (.int 0)) (A1 (mC (.bl true)) A7))) (A1 (AG (A1 (mC .non) (A1 (mC (.int 1)) A7))) (A1 (AG (A1 (mC (.int 1)) (A1 (mC .non) A7))) (A1 (AG (A1 (mC (.str "1")) (A1 (mC (.int 1)) A7))) (A1 (AG (A1 (mC (.int 1)) (A1 (mC (.str "2")) A7))) (A1 (AG (A1 (AG (A1 (mC (.int 1)) (A1 (mC (.int 2)) A7))) (A1 (mC (.int 3)) A7))) (A1 (AG (A1 (mC (.int 1)) A7)) (A1 (mC (.int 0)) A7)))))))))))))))
 (AB (AR 2 (Ah (D1 (A2 2) (Ah (Ak (A1 (AG (A1 (mC (.int 1)) (A1 (mC (.int 2)) (A1 (mC (.int 3)) A7)))) (A1 (Ah (Ak (A1 (mC (.int 1)) (A1 (mC (.int 2)) A7)))) (A1 (mC .non) (A1 (mC (.int 1)) (A1 (mC (.bl true)) (A1 (mC (.str "1/2")) (A1 (AG (A1 (mC (.int 1)) (A1 (AG (A1 (mC (.int 2)) A7)) A7))) (A1 (AG (A1 (Ah (Ak (A1 (mC (.int 1)) A7))) (A1 (mC (.int 2)) A7))) A7)))))))))))))
 (AB (AR 3 (AA 2 F_pick (A1 (A2 1) (A1 (mC (.int 6)) A7))))
 (AB (D0 (Dp (A1 (mC (.int 4)) A7)) (Au 4)
  (AB (AR 5 (Ag FK (A1 (A2 1) (A1 (C4 (mOp gEq (A2 3) (mC (.int 0))) (mOp gEq (A2 4) (mC (.int 0)))) A7))))
 (AB (Ai (AE (Gj false (A2 5)))
  (AJ (mC (.bl false)))
  Ab)
 (AR 2 (Ah (D1 (A2 2) (A2 5)))))))
 (AB (Ai (AE (mOp gEq (A2 3) (mC (.int 1))))
  (AB (Es (AG (A1 (mC (.int 1)) (A1 (mC (.int 1)) A7))) (DU 2 (BY (Au 6) (BY (Au 7) Do))))
 (AB (D0 (Dp (A1 (mC (.int 940)) A7)) (Au 4)
  (C9 [6,7] (A1 (A2 7) (A1 (mOp AL (A2 6) (A2 7)) A7))))
 (AB (AR 2 (Ah (D1 (A2 2) (Ah (Ak (A1 (AG (A1 (A2 6) (A1 (A2 7) A7))) (A1 (AG (A1 (mOp BI (mC (.int 2)) (A2 6)) (A1 (mOp BI (mC (.int 2)) (A2 7)) A7))) (A1 (AG (A1 (A2 7) (A1 (A2 6) A7))) (A1 (AG (A1 (mOp B3 (mC (.int 0)) (A2 6)) (A1 (A2 7) A7))) A7)))))))))
 (AB (Ai (CA (BR (AA 0 BF (A1 (AA 0 BL (A1 (mOp BI (mC (.int 3)) (A2 6)) (A1 (mOp B3 (mC (.int 0)) (mOp BI (mC (.int 3)) (A2 7))) A7))) (A1 (mOp B3 (mC (.int 0)) (A2 6)) (A1 (A2 7) A7))))))
  (AJ (mC (.bl false)))
  Ab)
 (Ai (CA (BR (AA 0 Ce A7)))
  (AJ (mC (.bl false)))
  Ab)))))
  Ab)
 (AB (D0 (Gi (A2 2)) (Au 8)
  (AB (AR 9 (mCB C1 (A1 (A2 8) A7)))
 (Ai (mOr (AE (mOp gNe (mCB C0 (A1 (Ag Bp (A1 (A2 8) A7)) A7)) (mCB C0 (A1 (Ag BN (A1 (A2 8) A7)) A7)))) (AE (mOp gNe (mCB C1 (A1 (A2 8) A7)) (A2 9))))
  (AJ (mC (.bl false)))
  Ab)))
 (AJ (mC (.bl true)))))))))))
def HR:FD:=mkF 1 10 Uj
abbrev KS:Df:=⟨"law",NY,["_law_script"],8,HR⟩
set_option maxHeartbeats 0 in
def oks{E:EnK}(B:BltA E.mg):(Dn E Cu->Kn E Cu)/\
 (Dn E CS->Kn E Cu->Kn E CS)/\
 (Dn E D2->Kn E D2)/\
 (Dn E Bj->Kn E Bj)/\
 (Dn E D3->Kn E Cu->Kn E CS->Kn E D2->Kn E Bj->Kn E D3)/\
 (Dn E Bi->Kn E Bj->Kn E Bi)/\
 (Dn E Iv->Kn E Bi->Kn E Iv)/\
 (Dn E Gx->Kn E Bi->Kn E Gx)/\
 (Dn E FH->Kn E Bi->Kn E FH)/\
 (Dn E Iw->Kn E Iw)/\
 (Dn E Ir->Kn E Ir)/\
 (Dn E CF->Kn E CF)/\
 (Dn E Dg->Kn E CF->Kn E Dg)/\
 (Dn E Ix->Kn E CF->Kn E Dg->Kn E Ix)/\
 (Dn E Iq->Kn E CF->Kn E Iq)/\
 (Dn E DY->Kn E DY)/\
 (Dn E EY->Kn E EY)/\
 (Dn E C7->Kn E DY->Kn E EY->Kn E C7)/\
 (Dn E CW->Kn E C7->Kn E CW)/\
 (Dn E Iu->Kn E Iu)/\
 (Dn E Ey->Kn E CF->Kn E Iq->Kn E Ey)/\
 (Dn E Ht->Kn E CF->Kn E Ey->Kn E Ht)/\
 (Dn E Hu->Kn E EY->Kn E Hu)/\
 (Dn E Gw->Kn E CF->Kn E Ey->Kn E Ht->Kn E Hu->Kn E Gw)/\
 (Dn E EX->Kn E Iv->Kn E Gx->Kn E FH->Kn E Iw->Kn E CW->Kn E Iu->Kn E EX)/\
 (Dn E Gv->Kn E Bi->Kn E CF->Kn E Dg->Kn E Ix->Kn E CW->Kn E Ey->Kn E Ht->Kn E Hu->Kn E Gw->Kn E EX->Kn E Gv)/\
 (Dn E DX->Kn E FH->Kn E CW->Kn E DX)/\
 (Dn E KS->Kn E D3->Kn E Bi->Kn E Ir->Kn E CF->Kn E C7->Kn E CW->Kn E Gv->Kn E DX->Kn E KS):=by
 refine⟨λD=>okK D IK rfl rfl λ_ _ _ _ _ _ _ hr=>?_,
  λD _=>okK D FO rfl rfl λ_ _ _ _ _ _ _ hr=>?_,
  λD=>okK D GT rfl rfl λ_ _ _ _ _ _ _ hr=>?_,
  λD=>okK D FP rfl rfl λ_ _ _ _ _ _ _ hr=>?_,
  λD _ _ _ _=>okK D GU rfl rfl λ_ _ _ _ _ _ _ hr=>?_,
  λD _=>okK D JB rfl rfl λ_ _ _ _ _ _ _ hr=>?_,
  λD _=>okK D OP rfl rfl λ_ _ _ _ _ _ _ hr=>?_,
  λD _=>okK D MH rfl rfl λ_ _ _ _ _ _ _ hr=>?_,
  λD _=>okK D MC rfl rfl λ_ _ _ _ _ _ _ hr=>?_,
  λD=>okK D OR rfl rfl λ_ _ _ _ _ _ _ hr=>?_,
  λD=>okK D OM rfl rfl λ_ _ _ _ _ _ _ hr=>?_,
  λD=>okK D OQ rfl rfl λ_ _ _ _ _ _ _ hr=>?_,
  λD _=>okK D K5 rfl rfl λ_ _ _ _ _ _ _ hr=>?_,
  λD _ _=>Nat.rec (motive:=λn=>Kn E ⟨"_law_bent",IM,["_law_tape_here","_law_thing","_law_deep"],n+2,F6 n⟩) (ok0 D) (λn ih=>okK (j:=n+2) D OS rfl (by omega) λ_ _ _ _ _ _ _ hr=>?_) 4,
  λD _=>okK D OL rfl rfl λ_ _ _ _ _ _ _ hr=>?_,
  λD=>okK D HY rfl rfl λ_ _ _ _ _ _ _ hr=>?_,
  λD=>okK D Kq rfl rfl λ_ _ _ _ _ _ _ hr=>?_,
  λD _ _=>okK D Fv rfl rfl λ_ _ _ _ _ _ _ hr=>?_,
  λD _=>okK D K6 rfl rfl λ_ _ _ _ _ _ _ hr=>?_,
  λD=>okK D OO rfl rfl λ_ _ _ _ _ _ _ hr=>?_,
  λD _ _=>okK D ON rfl rfl λ_ _ _ _ _ _ _ hr=>?_,
  λD _ _=>okK D Qy rfl rfl λ_ _ _ _ _ _ _ hr=>?_,
  λD _=>okK D Qz rfl rfl λ_ _ _ _ _ _ _ hr=>?_,
  λD _ _ _ _=>okK D MF rfl rfl λ_ _ _ _ _ _ _ hr=>?_,
  λD _ _ _ _ _ _=>okK D JA rfl rfl λ_ _ _ _ _ _ _ hr=>?_,
  λD _ _ _ _ _ _ _ _ _ _=>okK D MD rfl rfl λ_ _ _ _ _ _ _ hr=>?_,
  λD _ _=>okK D HW rfl rfl λ_ _ _ _ _ _ _ hr=>?_,
  λD _ _ _ _ _ _ _ _=>okK D R8 rfl rfl λ_ _ _ _ _ _ _ hr=>?_⟩
 all_goals (refine' ⟨_,_⟩;rotate_left;repeat' (first
  |((with_reducible show QE _ _ _ _ _);first|exact qv _ _|(first|exact SX _|exact SM _|exact UX _|exact SS _)|((with_reducible show QE _ _ _ _ (mOp _ _ _));first|((with_reducible show QE _ _ _ _ (mOp gIx _ _));refine' UW _ _ _)|((with_reducible show QE _ _ _ _ (mOp BV _ _));refine' PR _ (Nu hr) _ _)|((with_reducible show QE _ _ _ _ (mOp AL _ _));refine' Cq _ ((LI).or (IY _)) (DH L8 JV) _ _)|((with_reducible show QE _ _ _ _ (mOp B3 _ _));refine' Cq _ T4 Rs _ _)|((with_reducible show QE _ _ _ _ (mOp BI _ _));refine' Cq _ T8 Ry _ _)|((with_reducible show QE _ _ _ _ (mOp BE _ _));refine' Cq _ T9 Rz _ _)|((with_reducible show QE _ _ _ _ (mOp Bg _ _));refine' Cq _ Px Os _ _)|((with_reducible show QE _ _ _ _ (mOp Bm _ _));refine' Cq _ Mw MU _ _)|((with_reducible show QE _ _ _ _ (mOp Al _ _));refine' Cq _ Pw Oq _ _)|((with_reducible show QE _ _ _ _ (mOp Ev _ _));refine' Cq _ T5 Rt _ _)|((with_reducible show QE _ _ _ _ (mOp FG _ _));refine' Cq _ Q0 Ou _ _)|((with_reducible show QE _ _ _ _ (mOp C5 _ _));refine' Cq _ (((LI).or (IY _)).or (Pz _)) (DH (DH L8 JV) Ot) _ _)|((with_reducible show QE _ _ _ _ (mOp gLt _ _));refine' IU _ No Nd _ _)|((with_reducible show QE _ _ _ _ (mOp gGe _ _));refine' IU _ Np Nf _ _)|((with_reducible show QE _ _ _ _ (mOp gEq _ _));refine' IU _ ((Nq).or (JZ _ hr.units)) (DH L3 L7) _ _))|refine' SL _ _|((with_reducible show QE _ _ _ _ (Ah _));refine' SU _ _)|refine' SV _ _|((with_reducible show QE _ _ _ _ (AA _ _ _));first|refine' qcW _ (by assumption) hr _|exact qc0 _ (by assumption) hr|refine' qcW _ (by assumption) (hr.in1.deeper _) _)|((with_reducible show QE _ _ _ _ (Ag _ _));refine' qcG (by assumption) hr _)|((with_reducible show QE _ _ _ _ (mCB _ _));first|((with_reducible show QE _ _ _ _ (mCB (f1 _ CQ) _));refine' FB _ (Ll _) (VI Re) B.len L2.bt_len _)|((with_reducible show QE _ _ _ _ (mCB EW _));refine' FB _ (Lk rfl) Of B.min L2.bt_min _)|((with_reducible show QE _ _ _ _ (mCB Cl _));refine' FB _ NG Rh B.abs L2.bt_abs _)|((with_reducible show QE _ _ _ _ (mCB C0 _));refine' FB _ GF IR B.repr L2.bt_repr _)|((with_reducible show QE _ _ _ _ (mCB C1 _));refine' FB _ (Kb _ hr.gd hr.units) MQ B.repr L2.bt_repr _)|((with_reducible show QE _ _ _ _ (mCB Cc _));refine' FB _ (FT _ hr.gd hr.units) IQ B.repr L2.bt_repr _)|((with_reducible show QE _ _ _ _ (mCB Dt _));refine' Ni _ NF Rf B.str L2.bt_str _)|((with_reducible show QE _ _ _ _ (mCB DW _));refine' Ni _ Lm Rg B.int L2.bt_int _))|((with_reducible show QE _ _ _ _ (Bu _ _));refine' SW _ _ _)|((with_reducible show QE _ _ _ _ (Ay _ _ _));refine' SO _ _ _ _)|((with_reducible show QE _ _ _ _ (ER _ _));refine' PN _ _)|((with_reducible show QE _ _ _ _ (CK _ _));refine' PP _ _)|((with_reducible show QE _ _ _ _ (Fg _ _ _));refine' SN _ _ _ _)|((with_reducible show QE _ _ _ _ (Ff _));refine' SK _ _)|refine' Mj _ _ _ _|((with_reducible show QE _ _ _ _ (mMt _ _ _));first|((with_reducible show QE _ _ _ _ (mMt CV _ _));refine' UV _ PySem.F.slot_list_append PySem.F.type_list_append HJ Kz _ _))|refine' PQ _ _|((with_reducible show QE _ _ _ _ (Bb _ _));first|((with_reducible show QE _ _ _ _ (Bb .int _));refine' G4 _ .int B.isinstance B.int _)|((with_reducible show QE _ _ _ _ (Bb .bool _));refine' G4 _ .bool B.isinstance B.bool _)|((with_reducible show QE _ _ _ _ (Bb .str _));refine' G4 _ .str B.isinstance B.str _)|((with_reducible show QE _ _ _ _ (Bb .tuple _));refine' G4 _ .tuple B.isinstance B.tuple _))|((with_reducible show QE _ _ _ _ (C4 _ _));refine' SY _ _ _)|((with_reducible show QE _ _ _ _ (D6 _));refine' SR _ _)|refine' SQ _ _)
  |refine' PU _ _ _|exact SZ _
  |((with_reducible show QT _ _ _ _ _);first|((with_reducible show QT _ _ _ _ (AE (mOp _ _ _)));first|((with_reducible show QT _ _ _ _ (AE (mOp gLt _ _)));refine' E3 _ No Nd _ _)|((with_reducible show QT _ _ _ _ (AE (mOp gGt _ _)));refine' E3 _ Uf US _ _)|((with_reducible show QT _ _ _ _ (AE (mOp gGe _ _)));refine' E3 _ Np Nf _ _)|((with_reducible show QT _ _ _ _ (AE (mOp gEq _ _)));refine' E3 _ ((Nq).or (JZ _ hr.units)) (DH L3 L7) _ _)|((with_reducible show QT _ _ _ _ (AE (mOp gNe _ _)));refine' E3 _ ((Ue).or (Gc _ hr.units)) (DH Ru Rv) _ _)|((with_reducible show QT _ _ _ _ (AE (mOp (Gu true) _ _)));refine' E3 _ (Gc _ hr.units) Rx _ _))|refine' S5 _ _|((with_reducible show QT _ _ _ _ (BR _));refine' Md _ _)|((with_reducible show QT _ _ _ _ (DV _ _));refine' QW.toT _)|((with_reducible show QT _ _ _ _ (mOr _ _));refine' QW.toT _)|((with_reducible show QT _ _ _ _ (AE (Gj _ _)));refine' S6 _ _)|((with_reducible show QT _ _ _ _ (AE (D7 _ _ _)));refine' Oz _ (T6 _ hr.units) _ _)|((with_reducible show QT _ _ _ _ (AE (Gk _ _ _)));refine' Oy _ (TB _) _ _))
  |refine' Ox _ _|refine' S3 _ _|refine' S4 _ _ _|refine' UT _ _ _
  |((with_reducible show QN _ _ _ _ _);first|refine' SE _ _|((with_reducible show QN _ _ _ _ (Cr _ _ _ _ _ _));refine' qnA _ (λ_ _ _=>_) (λ_ _ _=>_) (λ_ _ _=>_))|((with_reducible show QN _ _ _ _ (D1 _ _));refine' SF _ _ _)|((with_reducible show QN _ _ _ _ (Gh _ _ _));refine' SD _ _ _ _)|((with_reducible show QN _ _ _ _ (E9 _));refine' Mh _ B.list _)|((with_reducible show QN _ _ _ _ (De _));refine' PD _ B.list _))
  |((with_reducible show QI _ _ _ _ _ _);first|((with_reducible show QI _ _ _ _ _ (Dp _));refine' PJ _ B.range _)|((with_reducible show QI _ _ _ _ _ (Er _));refine' SG _ _)|((with_reducible show QI _ _ _ _ _ (Gi _));refine' PK _ _))
  |exact qgA
  |refine' SH _ rfl _
  |exact PL _|refine' Mi _ _ _
  |exact SJ _|refine' SI _ _
  |exact P9 _|refine' P8 _ _
  |exact P7 _|refine' Mg _ _ _ _
  |((with_reducible show QSs _ _ _ _ _);first|((with_reducible show QSs _ _ _ _ (AB _ _));refine' Me _ _ _)|(first|exact P1 _|refine' P0 _ _))
  | ((with_reducible show QS _ _ _ _ _);first|((with_reducible show QS _ _ _ _ (AR _ (Ah (Cr _ _ _ _ _ _))));first|refine' VJ _ (λ_ _ _=>_) (λ_ _ _=>_) (λ_ _ _=>_)|refine' qsA _)|((with_reducible show QS _ _ _ _ (AR _ _));refine' qsA _)|refine' UU _ _ _ _|refine' S8 _ _|refine' SA _ rfl _ _ _|refine' P5 _ _|((with_reducible show QS _ _ _ _ (CL _ _ _));refine' P6 _ (Nu hr) _ _ _)|refine' S9 _ rfl (DT (by kernel_rfl)) rfl rfl (by decide) rfl rfl _|refine' P4 _ rfl (DT (by kernel_rfl)) rfl rfl rfl rfl rfl rfl _|refine' SC _ _ _|refine' Mf _ _ _|exact P3 _)))
open Bd
def Tn:F_pick=Bd.F_pick:=rfl
def Tm:F_tape=Bd.F_tape:=rfl
def T(_:Nat)(a b:MO):Prop:=∃τ:Tp,tp τ=[a,b]
def tap:Tap T F_pick where
 cl:=by
  rintro k a b ⟨τ,e⟩;have:=UJ τ;rw[e]at this;simpa using this
 le:=λh _=>h
 pick:=by
  rintro k a b many ⟨τ,e⟩ h0 h1;obtain⟨r,τ',d⟩:=draw τ many h0 h1;refine⟨r,.lst (τ'.cells.map λi=>.im (.int i)),.dic (Ar τ'),d.lo,d.hi,?_,τ',rfl⟩;rw[<- e,Tn];exact d.eq
open An
def C8{m:MA}{ls:Ls}{hd:Hd}{QE:D->Hd->Prop}(h:WA m ls hd λds x=>∃(a b:MO) (rest:Hd) (many:Int),x=a::b::rest/\ds=[.mu 1,.im (.int many)]/\T 0 a b/\0<many/\many<1073741824/\∀r a' b',T 0 a' b'->0<=r->r<many->QE (.im (.int r)) (a'::b'::rest)):WE (AA 2 F_pick m) ls hd QE:=by
 obtain⟨ds,x,e,a,b,rest,many,rfl,rfl,hT,h0,h1,q⟩:=h;exact tap.draw (n:=0) hT e h0 h1 λr a' b' hT' p1 p2=>q r a' b' hT' p1 p2
def Dx{ma mb:ME}{ls:Ls}{hd:Hd}{QA:List D->Hd->Prop}(h:WE ma ls hd λd x=>WE mb ls x λe y=>∃i j xs ys,d=.mu i/\e=.mu j/\y[i]?=some (.lst xs)/\y[j]?=some (.lst ys)/\BW (xs.length+ys.length)/\QA (xs++ys) y):WA (D1 ma mb) ls hd QA:=by
 obtain⟨d,x,e1,e,y,e2,i,j,xs,ys,rfl,rfl,e3,e4,c,q⟩:=h;exact⟨_,_,by simp only[D1,e1,bind_some,e2,e3,e4,c,if_true],q⟩
def keep{a b a' b':MO}{g g':Hd}{t:Tv}{d:D}{n:Nat}(hn:n<=(a::b::g).length)(h:Is n (a::b::g) t d):Is n (a'::b'::(g++g')) t d:=h.mono (le_refl _) λk k2 kn=>by
 obtain⟨j,rfl⟩:∃j,k=j+2:=⟨k-2,by omega⟩
 simp only[List.getElem?_cons_succ];simp at hn;rw[List.getElem?_append_left (by omega)]
def keeps{a b a' b':MO}{g g':Hd}{t:List Tv}{d:List D}{n:Nat}(hn:n<=(a::b::g).length)(h:Iss n (a::b::g) t d):Iss n (a'::b'::(g++g')) t d:=h.mono (le_refl _) λk k2 kn=>by
 obtain⟨j,rfl⟩:∃j,k=j+2:=⟨k-2,by omega⟩
 simp only[List.getElem?_cons_succ];simp at hn;rw[List.getElem?_append_left (by omega)]
def HD{a b:MO}{g:Hd}(hT:T 0 a b):WF CZ [.mu 1] (a::b::g) λd x=>∃a' b' g' t,x=a'::b'::(g++g')/\T 0 a' b'/\Is x.length x t d/\Bo (10^50) 200 2 2 t:=by
 unfold CZ;refine Aq rfl ?_;refine A9 (AW (Ao (Az ?_)));refine A0 (A5 (A0 (A5 (A0 (A5 (A0 (A5 (A0 (A5 (A0 (A5 ?_)))))))))));refine A0 (AC (A4 ⟨Ew,?_⟩));refine A0 (Ao (Az (A4 ⟨Ew,?_⟩)));refine A0 (AC (A0 (A5 (A4 ⟨Be,?_⟩))));refine A0 (Ao (Az (A0 (A5 (A4 ⟨Be,?_⟩)))));refine A0 (BP (A5 ⟨_,rfl,?_⟩));refine A0 (A5 (A0 (A5 (A0 (A5 ?_)))));refine A0 (A6 (A5 (A5 (GQ (k:=50) (by decide) ?_))));refine A0 (AC (A0 (AC (A4 ⟨Ew,A4 ⟨Be,?_⟩⟩))));refine A0 (AC (A0 (A5 (A0 (A5 (A4 ⟨AF,?_⟩))))));refine A0 (AC (A0 (A5 (A0 (A5 (A4 ⟨AF,A4 ⟨Ac (by simp),A8 ?_⟩⟩))))));generalize hds:[D.im .non,_,_,_,_,_,_,_,_,_,_,_,_,_,_,_,_,_]=ds;refine AM (A6 (A3 rfl (C8 (A0 (A3 rfl (A0 (A5 (A4 ⟨a,b,g++[.lst [],.lst [.im (.int 2)],.lst ds],18,by simp,rfl,hT,by decide,by decide,λr a b hT p q=>?_⟩))))))));have hl:(a::b::g++[MO.lst []]).length=g.length+3:=by simp
 have key:∀h:Hd,h=a::b::(g++[.lst [],.lst [.im (.int 2)],.lst ds])->Iss h.length h ([.non,.bl true,.bl false,.str "",.str "late",.str "0",.tup [],.lst [],.tup [.int 0],.lst [.int 2],.int (-1),.int 0,.int 1,.int 3,.int (10^50),.tup [.tup []],.tup [.int 0,.int 1],.tup [.str "ends",.int 2]]:List Tv) ds:=by
  rintro h rfl;subst hds;refine .cons (AQ .non) (.cons (AQ (.bl true)) (.cons (AQ (.bl false)) (.cons (AQ (.str "")) (.cons (AQ (.str "late")) (.cons (AQ (.str "0")) (.cons (AQ (.tup [])) ?_))))));refine .cons ?_ (.cons (AQ (.tup [.int 0])) (.cons ?_ (.cons (AQ (.int (-1))) (.cons (AQ (.int 0)) (.cons (AQ (.int 1)) (.cons (AQ (.int 3)) (.cons (AQ (.int (10^50))) (.cons (AQ (.tup [.tup []])) (.cons (AQ (.tup [.int 0,.int 1])) (.one (AQ (.tup [.str "ends",.int 2]))))))))))))
  .simp only[Is];exact⟨g.length+2,[],by simp,by omega,by simp,by simp,Iss.nil⟩
  .simp only[Is];exact⟨g.length+3,[.im (.int 2)],by simp,by omega,by simp,by simp,.one (AQ (.int 2))⟩
 obtain⟨d,t,e1,e2,e3⟩:=O0 (key _ rfl) p q;refine Co (ds:=ds) (by rw[NS,Nr];simp) e1 ⟨a,b,_,t,rfl,hT,e3,?_⟩;have all:∀t∈([.non,.bl true,.bl false,.str "",.str "late",.str "0",.tup [],.lst [],.tup [.int 0],.lst [.int 2],.int (-1),.int 0,.int 1,.int 3,.int (10^50),.tup [.tup []],.tup [.int 0,.int 1],.tup [.str "ends",.int 2]]:List Tv),Bo (10^50) 200 2 2 t:=by
  intro t ht;simp only[mem_cons,not_mem_nil,or_false]at ht;rcases ht with rfl|rfl|rfl|rfl|rfl|rfl|rfl|rfl|rfl|rfl|rfl|rfl|rfl|rfl|rfl|rfl|rfl|rfl
  all_goals refine⟨?_,?_,?_,?_⟩
  all_goals (simp only[Gq,Gqs,An.wt,wts,dep,Aw,An.tl]<;>decide +kernel)
 exact all t e2
def N5{i:Int}(h:i.natAbs<10^205):(Str.ofString (toString i)).length<=206:=by
 have h2:=int_text_length_le10 (a:=i) (k:=205) (by decide) h;rw[PySem.ofString_length];exact h2
def PB(m w dp l:Nat)(g:Hd)(d:D)(x:Hd):Prop:=∃a' b' g' t,x=a'::b'::(g++g')/\T 0 a' b'/\Is x.length x t d/\Bo (m+1) (2*w+400) (dp+4) (max l 2+1) t
def EO{hd:Hd}{d:D}{ds:List D}(h:AH d=some ds):Ap hd d=some ds:=by unfold Ap;rw[h]
def Hq{m:MA}{ls:Ls}{hd:Hd}{i:Nat}{r:Int}{Q:D->Hd->Prop}{mw w dp l:Nat}(h:WA m ls hd λds x=>ls[i]?=some (some (.im (.int r)))/\∃ts,Iss x.length x ts ds/\0<=r/\r<ts.length/\(∀t∈ts,Bo mw w dp l t)/\∀d t,Is x.length x t d->Bo mw w dp l t->Q d x):WE (Bu m (A2 i)) ls hd Q:=by
 obtain⟨ds,x,e,e1,ts,h1,h2,h3,h4,q⟩:=h;obtain⟨d,t,e2,ht,hi⟩:=O0 h1 h2 h3;exact Ki ⟨ds,x,e,A3 e1 ⟨r,d,rfl,e2,q d t hi (h4 t ht)⟩⟩
def E6{m w dp l:Nat}{t:Tv}(hm:10^50<=m)(h:Bo (10^50) 200 2 2 t):Bo (m+1) (2*w+400) (dp+4) (max l 2+1) t:=h.mono (by omega) (by omega) (by omega) (by omega)
def eqv_nil(ts:List Tv):PyData.eqv (pyT (.tup ts)) (I.py (.tup []))=ts.isEmpty:=by
 cases ts with
 |nil=>rfl
 |cons t r=>rw[pyT,Dl,I.py,I.pys];rfl
def GZ{n:Nat}{h g:Hd}{t:Tv}{d:D}(hn:n<=h.length)(q:Is n h t d):Is n (h++g) t d:=q.mono (le_refl _) λk _ kn=>List.getElem?_append_left (by omega)
def FX{n:Nat}{h g:Hd}{t:List Tv}{d:List D}(hn:n<=h.length)(q:Iss n h t d):Iss n (h++g) t d:=q.mono (le_refl _) λk _ kn=>List.getElem?_append_left (by omega)
def EJ{n n':Nat}{h:Hd}{t:Tv}{d:D}(hn:n<=n')(q:Is n h t d):Is n' h t d:=q.mono hn λk _ _=>rfl
def Dy{n n':Nat}{h:Hd}{t:List Tv}{d:List D}(hn:n<=n')(q:Iss n h t d):Iss n' h t d:=q.mono hn λk _ _=>rfl
section
variable{m w dp l:Nat}{a b:MO}{g:Hd}{d dO:D}{tO:Tv}{r k:Int}{ls:Ls}
def O9{ts:List Tv}{z3 z6:Option D}(hm:10^50<=m)(hw:w<=100000){h:Hd}{g1:Hd}(eh:h=a::b::(g++g1))(hT:T 0 a b)(hI:Is h.length h (.tup ts) d)(hO:Is h.length h tO dO)(bt:Bo m w dp l (.tup ts))(bO:Bo (10^50) 200 2 2 tO)(r0:0<=r)(r1:r<7):
 WS (AB (AR 3 (AA 2 F_pick (A1 (A2 0) (A1 (mOp AL (mCB (f1 true CQ) (A1 (A2 1) A7)) (mC (.int 1))) A7))))
 (AB (AR 6 (Ah (Ak (A1 (Ah (De (A2 1))) (A1 (mOp AL (mOp C5 (Ay (A2 1) AT (Aa (A2 3))) (AG (A1 (A2 5) A7))) (Ay (A2 1) (Aa (A2 3)) AT)) (A1 (mOp C5 (Ay (A2 1) AT (Aa (A2 3))) (Ay (A2 1) (Aa (mOp AL (A2 3) (mC (.int 1)))) AT)) (A1 (mOp C5 (Ay (A2 1) AT (Aa (mOp AL (A2 3) (mC (.int 1))))) (Ay (A2 1) (Aa (A2 3)) AT)) A7)))))))
 (AJ (Bu (D1 (A2 6) (Ah (Ak (A1 (mOp C5 (mOp C5 (Ay (A2 1) AT (Aa (A2 3))) (ER (Ay (A2 1) (Aa (A2 3)) (Aa (mOp AL (A2 3) (mC (.int 2))))) (BD (mC (.int 1))))) (Ay (A2 1) (Aa (mOp AL (A2 3) (mC (.int 2)))) AT)) (A1 (CK (A2 1) (BD (mC (.int 1)))) (A1 (A2 5) A7)))))) (A2 4)))))
  [some (.mu 1),some d,some (.im (.int k)),z3,some (.im (.int r)),some dO,z6] h λfl x=>∃d',fl=.rt d'/\PB m w dp l g d' x:=by
 obtain⟨ds,hv,hs⟩:=hI.view;obtain⟨g0,w0,p0,l0⟩:=bt.tup;have hlen:=hs.len;have hwl:=GP ts;have hl5:ds.length<=100000:=by omega
 subst eh;refine A9 (AW (C8 (A0 (A3 rfl (A0 (A6 (BA (A0 (A3 rfl (A4 (Hc (ds:=ds) (by rw[if_pos rfl];exact EO hv) rfl (A5 (B5 (A4 ⟨a,b,g++g1,(ds.length:Int)+1,rfl,rfl,hT,by omega,by omega,λr3 a b hT p q=>A8 ?_⟩))))))))))))));obtain⟨j,rfl⟩:∃j:Nat,r3=(j:Int):=⟨r3.toNat,by omega⟩
 have hs:Iss (a::b::(g++g1)).length (a::b::(g++g1)) ts ds:=by have:=keeps (g':=[]) (a':=a) (b':=b) (le_refl _) hs;rw[append_nil]at this;exact this
 have hO:Is (a::b::(g++g1)).length (a::b::(g++g1)) tO dO:=by have:=keep (g':=[]) (a':=a) (b':=b) (le_refl _) hO;rw[append_nil]at this;exact this
 generalize eH:a::b::(g++g1)=h at *;have hn:h.length=(a::b::(g++g1)).length:=by rw[<- eH]
 have tl:∀n,(ds.take n).length<=ds.length:=λn=>by rw[length_take];omega
 have dl:∀n,(ds.drop n).length<=ds.length:=λn=>by rw[length_drop];omega
 refine A9 (AW (Ao (Az (A0 (Ao (JK (A3 rfl ⟨ds,EO hv,?_⟩)))))));refine A0 (A6 (A6 (Hg (j:=3) rfl hv rfl (AC (A0 (A3 rfl (A4 ⟨Be,DF (AN _) (AN _) (by have:=tl j;simp;omega) (NV (j:=3) rfl hv rfl (F8 (AN _) (AN _) (by simp) (by have:=tl j;have:=dl j;simp;omega) ?_))⟩)))))));refine A0 (A6 (Hg (j:=3) rfl hv rfl (IG (c:=1) (j:=3) rfl hv rfl (DF (AN _) (AN _) (by have:=tl j;have:=dl (j+1);omega) ?_))));refine A0 (A6 (Qv (j:=3) rfl hv rfl (NV (j:=3) rfl hv rfl (DF (AN _) (AN _) (by have:=tl (j+1);have:=dl j;omega) (A4 ⟨Ac (by simp),A8 ?_⟩)))));generalize eA:[D.mu h.length,_,_,_]=A;refine AM (Hq (i:=4) (r:=r) (mw:=m+1) (w:=2*w+400) (dp:=dp+4) (l:=max l 2+1) (Dx (A3 rfl (Ao (Az ?_)))));refine A0 (A6 (A6 (Hg (j:=3) rfl hv rfl (O7 (Qt (j:=3) rfl hv rfl (BP (A5 ⟨_,rfl,rfl,_,AN _,DF (AN _) (AN _) (by have:=tl j;simp;omega) (IG (c:=2) (j:=3) rfl hv rfl (DF (AN _) (AN _) (by have:=tl j;have:=dl (j+2);simp;omega) ?_))⟩)))))));refine A0 (JJ (A3 rfl (BP (A5 ⟨_,rfl,rfl,ds,hv,A0 (A3 rfl (A4 ⟨LW,?_⟩))⟩))));generalize eB:[AV (List.take j ds++(List.take 2 (List.drop j ds)).reverse++List.drop (j+2) ds),AV ds.reverse,dO]=B;refine⟨h.length+1,h.length+2,A,B,by simp,by simp,by simp,by simp,Ac (by subst eA;subst eB;simp),rfl,[.lst ts,.tup ((ts.take j++[tO])++ts.drop j),.tup (ts.take j++ts.drop (j+1)),.tup (ts.take (j+1)++ts.drop j),.tup ((ts.take j++((ts.drop j).take 2).reverse)++ts.drop (j+2)),.tup ts.reverse,tO],?_,r0,by simpa using r1,?_,λd' t' hi bo=>⟨d',rfl,a,b,g1++[.lst ds,.lst A,.lst B],t',by rw[<- eH];simp,hT,hi,bo⟩⟩
 .subst eA;subst eB;have h2:2<=h.length:=by rw[hn];simp
  generalize eX:h++[MO.lst ds]++[MO.lst _]++[MO.lst _]=X;have hX:h.length<=X.length:=by rw[<- eX];simp
  have hX2:h.length<X.length:=by rw[<- eX];simp
  have u:Iss X.length X ts ds:=by rw[<- eX,append_assoc,append_assoc];exact Dy (by simp) (FX (le_refl _) hs)
  have o:Is X.length X tO dO:=by rw[<- eX,append_assoc,append_assoc];exact EJ (by simp) (GZ (le_refl _) hO)
  refine .cons ?_ (.cons (((u.take j).app (.one o)).app (u.drop j)).tup (.cons ((u.take j).app (u.drop (j+1))).tup (.cons ((u.take (j+1)).app (u.drop j)).tup (.cons (((u.take j).app ((u.drop j).take 2).rev).app (u.drop (j+2))).tup (.cons u.rev.tup (.one o))))));simp only[Is];exact⟨h.length,ds,rfl,h2,hX2,by rw[<- eX];simp,u⟩
 .have s0:=CT ts j;have s1:=CT ts (j+1);have s2:=CT ts (j+2);have s3:=CT (ts.drop j) 2;rw[List.drop_drop]at s3;have s4:=JH ((ts.drop j).take 2);have bw:=bO.wt;have tk:∀n u,u∈ts.take n->u∈ts:=λn u hu=>mem_of_mem_take hu;have dr:∀n u,u∈ts.drop n->u∈ts:=λn u hu=>List.mem_of_mem_drop hu;intro t ht;simp only[mem_cons,not_mem_nil,or_false]at ht;rcases ht with rfl|rfl|rfl|rfl|rfl|rfl|rfl
  .exact(ED hm bt (λu hu=>.inl hu) (by omega) (by omega)).2
  .refine(ED hm bt (λu hu=>?_) ?_ ?_).1
   .simp only[mem_append,mem_singleton]at hu;rcases hu with(hu|rfl)|hu
    .exact .inl (tk _ _ hu)
    .exact .inr bO
    .exact .inl (dr _ _ hu)
   .rw[Bq,Bq];simp only[wts];omega
   .simp;omega
  .refine(ED hm bt (λu hu=>?_) ?_ ?_).1
   .rcases mem_append.mp hu with hu|hu
    .exact .inl (tk _ _ hu)
    .exact .inl (dr _ _ hu)
   .rw[Bq];omega
   .simp;omega
  .refine(ED hm bt (λu hu=>?_) ?_ ?_).1
   .rcases mem_append.mp hu with hu|hu
    .exact .inl (tk _ _ hu)
    .exact .inl (dr _ _ hu)
   .rw[Bq];omega
   .simp;omega
  .refine(ED hm bt (λu hu=>?_) ?_ ?_).1
   .simp only[mem_append,List.mem_reverse]at hu;rcases hu with(hu|hu)|hu
    .exact .inl (tk _ _ hu)
    .exact .inl (dr _ _ (mem_of_mem_take hu))
    .exact .inl (dr _ _ hu)
   .rw[Bq,Bq];omega
   .simp;omega
  .refine(ED hm bt (λu hu=>.inl (by simpa using hu)) ?_ (by simp)).1;rw[JH];omega
  .exact E6 hm bO
def GI{t:Tv}(hm:10^50<=m)(bt:Bo m w dp l t):Bo (m+1) (2*w+400) (dp+4) (max l 2+1) (.tup [t])/\Bo (m+1) (2*w+400) (dp+4) (max l 2+1) (.lst [t]):=by
 have h1:=bt.gd;have h2:=bt.wt;have h3:=bt.dp;exact⟨F3 (λu hu=>by rw[mem_singleton]at hu;subst hu;exact h1.mono (by omega)) (by simp only[wts];omega) (by simp only[Aw];omega) (by simp),J4 (λu hu=>by rw[mem_singleton]at hu;subst hu;exact h1.mono (by omega)) (by simp only[wts];omega) (by simp only[Aw];omega) (by simp)⟩
def Qm{v:Bool}{z3 z6:Option D}(hm:10^50<=m){h:Hd}{g1:Hd}(eh:h=a::b::(g++g1))(hT:T 0 a b)(hO:Is h.length h tO dO)(bt:Bo m w dp l (.bl v))(bO:Bo (10^50) 200 2 2 tO)(r0:0<=r)(r1:r<7):
 WS (AJ (Bu (Ak (A1 (D6 (A2 1)) (A1 (mCB DW (A1 (A2 1) A7)) (A1 (mCB Dt (A1 (A2 1) A7)) (A1 (AG (A1 (A2 1) A7)) (A1 (mC .non) (A1 (Ah (Ak (A1 (A2 1) A7))) (A1 (A2 5) A7)))))))) (A2 4)))
  [some (.mu 1),some (.im (.bl v)),some (.im (.int k)),z3,some (.im (.int r)),some dO,z6] h λfl x=>∃d',fl=.rt d'/\PB m w dp l g d' x:=by
 refine AM (Hq (i:=4) (r:=r) (mw:=m+1) (w:=2*w+400) (dp:=dp+4) (l:=max l 2+1) (Az ?_));refine A0 (GR (AK (A3 rfl ⟨_,rfl,?_⟩)));refine A0 (BA (A0 (A3 rfl (A4 ⟨_,_,rfl,?_⟩))));refine A0 (BA (A0 (A3 rfl (A4 (O4 ?_)))));refine A0 (AC (A0 (A3 rfl (A4 ⟨Be,?_⟩))));refine A0 (A5 (A0 (Ao (Az (A0 (A3 rfl (A4 ⟨Be,?_⟩)))))));refine A0 (A3 rfl (A4 ⟨Ac (by simp),rfl,[.bl (!v),.int (if v then 1 else 0),.str (if v then "True" else "False":Str),.tup [.bl v],.non,.lst [.bl v],tO],?_,r0,by simpa using r1,?_,λd' t' hi bo=>⟨d',rfl,a,b,g1++[.lst [.im (.bl v)]],t',by rw[eh];simp,hT,hi,bo⟩⟩))
 .have h2:2<=h.length:=by rw[eh];simp
  refine .cons (AQ (.bl (!v))) (.cons (AQ (.int (if v then 1 else 0))) (.cons (AQ (.str (if v then "True" else "False":Str))) (.cons (AQ (.tup [.bl v])) (.cons (AQ .non) (.cons ?_ (.one (EJ (by simp) (GZ (le_refl _) hO))))))));simp only[Is];exact⟨h.length,_,rfl,h2,by simp,by simp,.one (AQ (.bl v))⟩
 .intro t ht;simp only[mem_cons,not_mem_nil,or_false]at ht;rcases ht with rfl|rfl|rfl|rfl|rfl|rfl|rfl
  .exact Ny (by omega)
  .refine GJ ?_ ?_
   .cases v<;>simp
   .have:Nat.log2 (Int.natAbs (if v then 1 else 0))<=1:=by cases v<;>decide
    omega
  .refine DZ ?_ ?_
   .cases v<;>decide
   .have:(if v then "True" else "False":Str).length<=5:=by cases v<;>decide
    omega
  .exact(GI hm bt).1
  .exact U5 (by omega)
  .exact(GI hm bt).2
  .exact E6 hm bO
def OB{v:Int}{z3 z6:Option D}(hm:10^50<=m)(hm2:m<=10^204){h:Hd}{g1:Hd}(eh:h=a::b::(g++g1))(hT:T 0 a b)(hO:Is h.length h tO dO)(bt:Bo m w dp l (.int v))(bO:Bo (10^50) 200 2 2 tO)(r0:0<=r)(r1:r<7):
 WS (AJ (Bu (Ak (A1 (mOp AL (A2 1) (mC (.int 1))) (A1 (mOp B3 (A2 1) (mC (.int 1))) (A1 (mOp B3 (mC (.int 0)) (A2 1)) (A1 (mOp gEq (A2 1) (mC (.int 1))) (A1 (mCB Dt (A1 (A2 1) A7)) (A1 (AG (A1 (A2 1) A7)) (A1 (A2 5) A7)))))))) (A2 4)))
  [some (.mu 1),some (.im (.int v)),some (.im (.int k)),z3,some (.im (.int r)),some dO,z6] h λfl x=>∃d',fl=.rt d'/\PB m w dp l g d' x:=by
 have hv:v.natAbs<=m:=by have:=bt.gd;simpa only[Gq]using this
 have hwv:v.natAbs.log2+2<=w:=by have:=bt.wt;simpa only[An.wt]using this
 have hb:v.natAbs<10^205:=lt_of_le_of_lt (le_trans hv hm2) (by decide);have lg:v.natAbs.log2<1920:=by
  by_cases z:v.natAbs=0
  .rw[z];decide
  .exact lt_of_lt_of_le ((log2_lt z).mpr (lt_of_lt_of_le hb (show 10^205<=2^690 by decide))) (by decide)
 refine AM (Hq (i:=4) (r:=r) (mw:=m+1) (w:=2*w+400) (dp:=dp+4) (l:=max l 2+1) (Az ?_));refine A0 (A6 (A3 rfl (A5 (B5 ?_))));refine A0 (A6 (A3 rfl (A5 (BO ?_))));refine A0 (A6 (A5 (A3 rfl (BO ?_))));refine A0 (A6 (A3 rfl (A5 (Am ?_))));refine A0 (BA (A0 (A3 rfl (A4 (O3 lg ?_)))));refine A0 (AC (A0 (A3 rfl (A4 ⟨Be,?_⟩))));refine A0 (A3 rfl (A4 ⟨Ac (by simp),rfl,[.int (v+1),.int (v-1),.int (0-v),.bl (decide (v=1)),.str (Str.ofString (toString v)),.tup [.int v],tO],?_,r0,by simpa using r1,?_,λd' t' hi bo=>⟨d',rfl,a,b,g1,t',eh,hT,hi,bo⟩⟩))
 .exact .cons (AQ (.int (v+1))) (.cons (AQ (.int (v-1))) (.cons (AQ (.int (0-v))) (.cons (AQ (.bl (decide (v=1)))) (.cons (AQ (.str (Str.ofString (toString v)))) (.cons (AQ (.tup [.int v])) (.one hO))))))
 .have lo:=N4 v.natAbs;intro t ht;simp only[mem_cons,not_mem_nil,or_false]at ht;rcases ht with rfl|rfl|rfl|rfl|rfl|rfl|rfl
  .refine GJ (by omega) ?_;have:=Fh (show(v+1).natAbs<=v.natAbs+1 by omega);omega
  .refine GJ (by omega) ?_;have:=Fh (show(v-1).natAbs<=v.natAbs+1 by omega);omega
  .refine GJ (by omega) ?_;have:=Fh (show(0-v).natAbs<=v.natAbs by omega);omega
  .exact Ny (by omega)
  .refine DZ (Qa v) ?_;have:=N5 hb;omega
  .exact(GI hm bt).1
  .exact E6 hm bO
def OA{v:Str}{z3 z6:Option D}(hm:10^50<=m)(hw:w<=100000){h:Hd}{g1:Hd}(eh:h=a::b::(g++g1))(hT:T 0 a b)(hO:Is h.length h tO dO)(bt:Bo m w dp l (.str v))(bO:Bo (10^50) 200 2 2 tO)(r0:0<=r)(r1:r<7):
 WS (AJ (Bu (Ak (A1 (mOp FG (A2 1) (mC (.str "s"))) (A1 (Fg (A2 1) AT (Aa (BD (mC (.int 1))))) (A1 (Ff (A2 1)) (A1 (CK (A2 1) (BD (mC (.int 1)))) (A1 (AG (A1 (A2 1) A7)) (A1 (mC (.str "steps")) (A1 (A2 5) A7)))))))) (A2 4)))
  [some (.mu 1),some (.im (.str v)),some (.im (.int k)),z3,some (.im (.int r)),some dO,z6] h λfl x=>∃d',fl=.rt d'/\PB m w dp l g d' x:=by
 have hv:Asc v:=by have:=bt.gd;simpa only[Gq]using this
 have hwv:v.length+1<=w:=by have:=bt.wt;simpa only[An.wt]using this
 obtain⟨u1,u2⟩:=U9 hv;have r2:=JU v;have c2:=U3 v none (some (-1));refine AM (Hq (i:=4) (r:=r) (mw:=m+1) (w:=2*w+400) (dp:=dp+4) (l:=max l 2+1) (Az ?_));refine A0 (A6 (A3 rfl (A5 (O6 (by
  have:("s":Str).length=1:=by decide
  omega) ?_))))
 refine A0 (Qk (A3 rfl (Fp (Cf (BP (A5 ⟨_,rfl,_,rfl,v,rfl,by omega,?_⟩))))));refine A0 (Qj (A3 rfl ⟨v,rfl,by omega,?_⟩));refine A0 (O8 (A3 rfl (BP (A5 ⟨_,rfl,rfl,v,rfl,by omega,?_⟩))));refine A0 (AC (A0 (A3 rfl (A4 ⟨Be,?_⟩))));refine A0 (A5 (A0 (A3 rfl (A4 ⟨Ac (by simp),rfl,[.str (v++"s"),.str (EZ v none (some (-1))),.str (Txt.upper v),.str (El v),.tup [.str v],.str "steps",tO],?_,r0,by simpa using r1,?_,λd' t' hi bo=>⟨d',rfl,a,b,g1,t',eh,hT,hi,bo⟩⟩))))
 .exact .cons (AQ (.str (v++"s"))) (.cons (AQ (.str (EZ v none (some (-1))))) (.cons (AQ (.str (Txt.upper v))) (.cons (AQ (.str (El v))) (.cons (AQ (.tup [.str v])) (.cons (AQ (.str "steps")) (.one hO))))))
 .intro t ht;simp only[mem_cons,not_mem_nil,or_false]at ht;rcases ht with rfl|rfl|rfl|rfl|rfl|rfl|rfl
  .refine DZ (Qc hv (by decide)) ?_;rw[QH];have:("s":Str).length=1:=by decide
   omega
  .exact DZ (Qb hv _ _) (by omega)
  .exact DZ u1 (by omega)
  .exact DZ (QZ hv) (by omega)
  .exact(GI hm bt).1
  .refine DZ (by decide) ?_;have:("steps":Str).length=5:=by decide
   omega
  .exact E6 hm bO
end
theorem J5:∀(f k:Nat),k<f->∀{m w dp l:Nat},10^50<=m->m<=10^204->w<=100000->dp<=25->∀{a b:MO} {g:Hd} {t:Tv} {d:D},T 0 a b->Is (a::b::g).length (a::b::g) t d->Bo m w dp l t ->
 WF (F6 f) [.mu 1,d,.im (.int (k:Int))] (a::b::g) (PB m w dp l g)
 |0,k,hk,_,_,_,_,_,_,_,_,_,_,_,_,_,_,_,_=>absurd hk (Nat.not_lt_zero _)
 |f+1,k,hk,m,w,dp,l,hm,hm2,hw,hdp,a,b,g,t,d,hT,hI,bt=>by
  show WF (mkF 3 7 (LM (F6 f))) _ _ _;refine Aq rfl ?_;change WS _ [some (.mu 1),some d,some (.im (.int (k:Int))),none,none,none,none] _ _;refine A9 (WP.mono (Q:=λfl x=>(∃d',fl=.rt d'/\PB m w dp l g d' x)∨∃a' b',fl=.nx [some (.mu 1),some d,some (.im (.int (k:Int))),none,none,none,none]/\x=a'::b'::g/\T 0 a' b') ?_ ?_)
  .refine AO (Fm (AX (Af (A3 rfl ⟨_,hI.isD .tuple,_,rfl,?_⟩))));by_cases ht:∃ts,t=.tup ts
   .obtain⟨ts,rfl⟩:=ht;rw[if_pos (by simp[ty])];obtain⟨ds,hv,hs⟩:=hI.view;obtain⟨g0,w0,p0,l0⟩:=bt.tup;have hlen:=hs.len;have hwl:=GP ts;refine Fm (AK (A6 (A3 rfl (AC (A4 ⟨Ew,?_⟩)))));rw[LK];have bp:=bt.dp;refine Qh (hI.pyN (by omega)) (DS 30 (.tup [])) ⟨(Hs (le_trans hm2 (by decide)) bt.gd).lay,by simp[I.py,I.pys,PyData.canLay0,PyData.canLayAll0],le_trans (Nat.min_le_right _ _) (by simp[I.py,I.pys,PyData.depth,PyData.depthAll])⟩ ⟨_,rfl,?_⟩;rw[eqv_nil];cases ts with
    |nil=>
     rw[if_neg (by simp)];exact⟨(λh=>by cases h),λ_=>AI (.inr ⟨a,b,rfl,rfl,hT⟩)⟩
    |cons t0 tr=>
     rw[if_pos (by simp)];refine Fm (AK (A6 (A3 rfl (A5 (Fo ⟨_,rfl,?_⟩)))));by_cases hk0:0<k
     .rw[if_pos (by simpa using hk0)];refine AK (A6 (C8 (A0 (A3 rfl (A0 (A5 (A4 ⟨a,b,g,5,rfl,rfl,hT,by decide,by decide,λr a b hT p q=>A5 (Fo ⟨_,rfl,λ_=>?_,λ_=>AI (.inr ⟨a,b,rfl,rfl,hT⟩)⟩)⟩)))))));have hs:Iss (a::b::g).length (a::b::g) (t0::tr) ds:=by have:=keeps (g':=[]) (a':=a) (b':=b) (le_refl _) hs;rw[append_nil]at this;exact this
      refine A9 (AW (C8 (A0 (A3 rfl (A0 (BA (A0 (A3 rfl (A4 (Hc (ds:=ds) (by rw[if_pos rfl];exact EO hv) rfl (A4 ⟨a,b,g,(ds.length:Int),rfl,rfl,hT,by rw[hlen];simp,by omega,λr3 a b hT p q=>A8 ?_⟩)))))))))));have hs:Iss (a::b::g).length (a::b::g) (t0::tr) ds:=by have:=keeps (g':=[]) (a':=a) (b':=b) (le_refl _) hs;rw[append_nil]at this;exact this
      obtain⟨j,rfl⟩:∃j:Nat,r3=(j:Int):=⟨r3.toNat,by omega⟩
      have hj:j<(t0::tr).length:=by omega
      obtain⟨dj,ej,ij⟩:=hs.get (List.getElem?_eq_getElem hj);have mj:(t0::tr)[j]∈(t0::tr):=List.getElem_mem hj;have hwj:wt ((t0::tr)[j])<=wts (t0::tr):=by
       have s1:=CT (t0::tr) j;rw[List.drop_eq_getElem_cons hj]at s1;simp only[wts]at s1 ⊢;omega
      have bj:Bo m (wt ((t0::tr)[j])) (dp-1) (tl ((t0::tr)[j])) ((t0::tr)[j]):=⟨g0 _ mj,le_refl _,by have:=EA mj;omega,le_refl _⟩
      refine AM (A6 (A6 (Hg (j:=3) rfl hv rfl (AC (A0 (Av (A0 (A3 rfl (A0 (A6 (A3 rfl (A3 rfl (Co (ds:=ds) (EO hv) (F5 rfl ej) (A0 (A6 (A3 rfl (A5 (BO ?_))))))))))))))))));rw[show((k:Int)-1)=((k-1:Nat):Int) by omega];refine A4 ((J5 f (k-1) (by omega) hm hm2 (show wt ((t0::tr)[j])<=100000 by omega) (by omega) hT ij bj).mono ?_);rintro d' x ⟨a,b,g',t',rfl,hT,hi,bo⟩;have u:Iss (a::b::(g++g')).length (a::b::(g++g')) (t0::tr) ds:=Dy (by simp) (keeps (le_refl _) hs);have tlj:(ds.take j).length<=ds.length:=by rw[length_take];omega
      have dlj:(ds.drop (j+1)).length<=ds.length:=by rw[length_drop];omega
      refine A4 ⟨Be,DF (AN _) (AN _) (by simp;omega) (IG (c:=1) (j:=3) rfl hv rfl (F8 (AN _) (AN _) (by simp) (by simp;omega) (.inl ⟨_,rfl,a,b,g',.tup (((t0::tr).take j++[t'])++(t0::tr).drop (j+1)),rfl,hT,(((u.take j).app (.one hi)).app (u.drop (j+1))).tup,?_⟩)))⟩;have s1:=CT (t0::tr) j;rw[List.drop_eq_getElem_cons hj]at s1;simp only[wts]at s1;have bw:=bo.wt;have bd:=bo.dp;refine F3 (λu hu=>?_) ?_ ?_ ?_
      .simp only[mem_append,mem_singleton]at hu;rcases hu with(hu|rfl)|hu
       .exact(g0 u (mem_of_mem_take hu)).mono (by omega)
       .exact bo.gd
       .exact(g0 u (List.mem_of_mem_drop hu)).mono (by omega)
      .rw[Bq,Bq];simp only[wts]at w0 ⊢;omega
      .have dt:Aw ((t0::tr).take j)<=Aw (t0::tr):=Gy λu hu=>EA (mem_of_mem_take hu);have dd:Aw ((t0::tr).drop (j+1))<=Aw (t0::tr):=Gy λu hu=>EA (List.mem_of_mem_drop hu);rw[Fj,Fj];simp only[Aw]at dt dd p0 ⊢;omega
      .simp at l0 ⊢;omega
     .rw[if_neg (by simpa using hk0)];exact⟨(λh=>by cases h),λ_=>AI (.inr ⟨a,b,rfl,rfl,hT⟩)⟩
   .rw[if_neg (by cases t<;>simp[ty]at ht ⊢)];exact⟨(λh=>by cases h),λ_=>AI (.inr ⟨a,b,rfl,rfl,hT⟩)⟩
  .rintro fl x (⟨d',rfl,h⟩|⟨a,b,rfl,rfl,hT⟩)
   .exact h
   refine A8 ?_;have hI:Is (a::b::g).length (a::b::g) t d:=by have:=keep (g':=[]) (a':=a) (b':=b) (le_refl _) hI;rw[append_nil]at this;exact this
   refine A9 (AW (C8 (A0 (A3 rfl (A0 (A5 (A4 ⟨a,b,g,7,rfl,rfl,hT,by decide,by decide,λr a b hT r0 r1=>A8 ?_⟩)))))));refine A9 (AW (Av (A0 (A3 rfl (A4 ((HD hT).mono ?_))))));rintro dO x ⟨a,b,g1,tO,rfl,hT,hO,bO⟩;refine A8 ?_;have hI:Is (a::b::(g++g1)).length (a::b::(g++g1)) t d:=EJ (by simp) (keep (le_refl _) hI);change WS _ [some (.mu 1),some d,some (.im (.int (k:Int))),none,some (.im (.int r)),some dO,none] _ _;have fin:∀(fl:Fl) (x:Hd),(∃d',fl=.rt d'/\PB m w dp l g d' x)->(match fl with|.rt d=>PB m w dp l g d x|.nx _=>PB m w dp l g (.im .non) x|_=>False):=by
    rintro fl x ⟨d',rfl,h⟩;exact h
   cases t with
   |tup ts=>
    refine A9 (AO (AX (Af (A3 rfl ⟨true,hI.isD .tuple,_,rfl,λ_=>?_,λh=>by cases h⟩))));exact WP.mono (O9 hm hw rfl hT hI hO bt bO r0 r1) (by rintro fl x ⟨d',rfl,h⟩;exact h)
   |bl v=>
    have hI2:=hI;simp only[Is]at hI;subst hI;refine A9 (AO (AX (Af (A3 rfl ⟨false,hI2.isD .tuple,_,rfl,(λh=>by cases h),λ_=>AI (A8 ?_)⟩))));refine A9 (AO (AX (Af (A3 rfl ⟨true,hI2.isD .bool,_,rfl,λ_=>?_,λh=>by cases h⟩))));exact WP.mono (Qm hm rfl hT hO bt bO r0 r1) (by rintro fl x ⟨d',rfl,h⟩;exact h)
   |int v=>
    have hI2:=hI;simp only[Is]at hI;subst hI;refine A9 (AO (AX (Af (A3 rfl ⟨false,hI2.isD .tuple,_,rfl,(λh=>by cases h),λ_=>AI (A8 ?_)⟩))));refine A9 (AO (AX (Af (A3 rfl ⟨false,hI2.isD .bool,_,rfl,(λh=>by cases h),λ_=>AI (A8 ?_)⟩))));refine A9 (AO (AX (Af (A3 rfl ⟨true,hI2.isD .int,_,rfl,λ_=>?_,λh=>by cases h⟩))));exact WP.mono (OB hm hm2 rfl hT hO bt bO r0 r1) (by rintro fl x ⟨d',rfl,h⟩;exact h)
   |str v=>
    have hI2:=hI;simp only[Is]at hI;subst hI;refine A9 (AO (AX (Af (A3 rfl ⟨false,hI2.isD .tuple,_,rfl,(λh=>by cases h),λ_=>AI (A8 ?_)⟩))));refine A9 (AO (AX (Af (A3 rfl ⟨false,hI2.isD .bool,_,rfl,(λh=>by cases h),λ_=>AI (A8 ?_)⟩))));refine A9 (AO (AX (Af (A3 rfl ⟨false,hI2.isD .int,_,rfl,(λh=>by cases h),λ_=>AI (A8 ?_)⟩))));refine A9 (AO (AX (Af (A3 rfl ⟨true,hI2.isD .str,_,rfl,λ_=>?_,λh=>by cases h⟩))));exact WP.mono (OA hm hw rfl hT hO bt bO r0 r1) (by rintro fl x ⟨d',rfl,h⟩;exact h)
   |non=>
    refine A9 (AO (AX (Af (A3 rfl ⟨false,hI.isD .tuple,_,rfl,(λh=>by cases h),λ_=>AI (A8 ?_)⟩))));refine A9 (AO (AX (Af (A3 rfl ⟨false,hI.isD .bool,_,rfl,(λh=>by cases h),λ_=>AI (A8 ?_)⟩))));refine A9 (AO (AX (Af (A3 rfl ⟨false,hI.isD .int,_,rfl,(λh=>by cases h),λ_=>AI (A8 ?_)⟩))));refine A9 (AO (AX (Af (A3 rfl ⟨false,hI.isD .str,_,rfl,(λh=>by cases h),λ_=>AI (A8 ?_)⟩))));exact AM (A3 rfl ⟨a,b,g1,tO,rfl,hT,hO,E6 hm bO⟩)
   |lst ts=>
    refine A9 (AO (AX (Af (A3 rfl ⟨false,hI.isD .tuple,_,rfl,(λh=>by cases h),λ_=>AI (A8 ?_)⟩))));refine A9 (AO (AX (Af (A3 rfl ⟨false,hI.isD .bool,_,rfl,(λh=>by cases h),λ_=>AI (A8 ?_)⟩))));refine A9 (AO (AX (Af (A3 rfl ⟨false,hI.isD .int,_,rfl,(λh=>by cases h),λ_=>AI (A8 ?_)⟩))));refine A9 (AO (AX (Af (A3 rfl ⟨false,hI.isD .str,_,rfl,(λh=>by cases h),λ_=>AI (A8 ?_)⟩))));exact AM (A3 rfl ⟨a,b,g1,tO,rfl,hT,hO,E6 hm bO⟩)
abbrev Sz(k:Nat)(i:Int):Prop:=i.natAbs<2^k
def Hn{i k:Nat}(h:i<2^k)(hk:0<k):i.log2<k:=by
 by_cases z:i=0
 .rw[z,show Nat.log2 0=0 from by decide];exact hk
 .exact(log2_lt z).mpr h
def Sz.mono{k k':Nat}{i:Int}(h:Sz k i)(hk:k<=k'):Sz k' i:=lt_of_lt_of_le h (Nat.pow_le_pow_right (by decide) hk)
def Sz.mul{k l:Nat}{i j:Int}(h:Sz k i)(h':Sz l j):Sz (k+l) (i*j):=by
 unfold Sz;rw[Int.natAbs_mul,Nat.pow_add];exact Nat.mul_lt_mul'' h h'
def Sz.add{k:Nat}{i j:Int}(h:Sz k i)(h':Sz k j):Sz (k+1) (i+j):=by
 unfold Sz at *;rw[Nat.pow_succ];omega
def Sz.sub{k:Nat}{i j:Int}(h:Sz k i)(h':Sz k j):Sz (k+1) (i-j):=by
 unfold Sz at *;rw[Nat.pow_succ];omega
def Aj{k l:Nat}{i j:Int}(h:Sz k i)(h':Sz l j)(hk:0<k:=by decide)(hl:0<l:=by decide)(bk:k<=100000:=by decide)(bl:l<=100000:=by decide):Eo i j:=⟨lt_of_lt_of_le (Hn h hk) bk,lt_of_lt_of_le (Hn h' hl) bl⟩
def Ez{k:Nat}{j:Int}(h0:0<j)(h:Sz k j)(hk:0<k)(bk:k<=9000):Br j:=⟨h0,lt_of_lt_of_le (Hn h hk) bk⟩
def Nv(a:Int){b:Nat}:WF B9 [.im (.int a),.im (.int (b:Int))] [] λd x=>d=.im (.int (Nat.gcd a.natAbs b:Nat)):=by
 unfold B9;refine Aq rfl ?_;refine A9 (AW (BA (A0 (A3 rfl (A4 (WP.eq (z:=.im (.int (a.natAbs:Int))) (h:=[]) (by simp[Cl];split<;>omega) (A8 ?_)))))));refine A9 (DJ (λm ls hd=>∃x y:Nat,m=y/\Nat.gcd x y=Nat.gcd a.natAbs b/\ls=[some (.im (.int (x:Int))),some (.im (.int (y:Int)))]/\hd=[]) (n:=b) ⟨a.natAbs,b,rfl,rfl,rfl,rfl⟩ ?_);rintro m ls hd ⟨x,y,rfl,hg,rfl,rfl⟩;refine AK (A6 (A3 rfl (A5 (Hx ⟨_,rfl,?_⟩))));by_cases hy:m=0
 .subst hy;rw[if_neg (by simp)];refine A8 (AM (A3 rfl ?_));show D.im (.int (x:Int))=_;rw[<- hg,Nat.gcd_zero_right]
 .rw[if_pos (by simp;omega)];refine Cv (A0 (A3 rfl (A0 (A6 (A3 rfl (A3 rfl (Dw (show BG (m:Int) by unfold BG;omega) (A4 ⟨rfl,?_⟩))))))));exact⟨x%m,Nat.mod_lt _ (by omega),m,x%m,rfl,by rw[<- hg,gcd_comm x m,Nat.gcd_rec m x,gcd_comm],by simp,rfl⟩
structure Rd(p q:Int):Prop where
 q0:0<q
 g1:Nat.gcd p.natAbs q.natAbs=1
def red{a b:Int}(hb:0<b):∃p q:Int,a/(Nat.gcd a.natAbs b.natAbs:Nat)=p/\b/(Nat.gcd a.natAbs b.natAbs:Nat)=q/\Rd p q/\p*b=a*q/\p.natAbs<=a.natAbs/\q.natAbs<=b.natAbs:=by
 have hs:0<Nat.gcd a.natAbs b.natAbs:=Nat.gcd_pos_of_pos_right _ (by omega);obtain⟨p,hp⟩:((Nat.gcd a.natAbs b.natAbs:Nat):Int) ∣ a:=Int.ofNat_dvd_left.mpr (Nat.gcd_dvd_left _ _);obtain⟨q,hq⟩:((Nat.gcd a.natAbs b.natAbs:Nat):Int) ∣ b:=Int.ofNat_dvd_left.mpr (Nat.gcd_dvd_right _ _);have e1:a/(Nat.gcd a.natAbs b.natAbs:Nat)=p:=Int.ediv_eq_of_eq_mul_right (by omega) hp;have e2:b/(Nat.gcd a.natAbs b.natAbs:Nat)=q:=Int.ediv_eq_of_eq_mul_right (by omega) hq;have na:a.natAbs=Nat.gcd a.natAbs b.natAbs*p.natAbs:=by
  have:=congrArg Int.natAbs hp;rw[Int.natAbs_mul,natAbs_natCast]at this;exact this
 have nb:b.natAbs=Nat.gcd a.natAbs b.natAbs*q.natAbs:=by
  have:=congrArg Int.natAbs hq;rw[Int.natAbs_mul,natAbs_natCast]at this;exact this
 refine⟨p,q,e1,e2,⟨?_,?_⟩,?_,?_,?_⟩
 .have s0:0<((Nat.gcd a.natAbs b.natAbs:Nat):Int):=by omega
  rw[hq]at hb;exact Int.pos_of_mul_pos_right hb s0
 .have:=Nat.gcd_div_gcd_div_gcd_of_pos_right (n:=a.natAbs) (m:=b.natAbs) (by omega);rw[Nat.div_eq_of_eq_mul_right hs na,Nat.div_eq_of_eq_mul_right hs nb]at this;exact this
 .generalize ((Nat.gcd a.natAbs b.natAbs:Nat):Int)=s at hp hq;rw[hp,hq]
  ac_rfl
 .rw[na];exact Nat.le_mul_of_pos_left _ hs
 .rw[nb];exact Nat.le_mul_of_pos_left _ hs
def EN{k:Nat}{i j:Int}(h:i.natAbs<=j.natAbs)(q:Sz k j):Sz k i:=lt_of_le_of_lt h q
def C6{k:Nat}(hk:0<k)(bk:k<=9000){t u:Int}(hu:u≠0)(su:Sz k u):WF BL [.im (.int t),.im (.int u)] [] λd x=>∃p q,d=.im (.tup [.int p,.int q])/\Rd p q/\p*u=t*q/\p.natAbs<=t.natAbs/\q.natAbs<=u.natAbs:=by
 unfold BL;refine Aq rfl ?_;have go:∀t' u':Int,0<u'->u'.natAbs=u.natAbs->t'.natAbs=t.natAbs->(∀p q:Int,p*u'=t'*q->p*u=t*q)->WS (AB (AR 2 (AA 0 B9 (A1 (A2 0) (A1 (A2 1) A7)))) (AJ (AG (A1 (mOp Bm (A2 0) (A2 2)) (A1 (mOp Bm (A2 1) (A2 2)) A7))))) [some (.im (.int t')),some (.im (.int u')),none] [] λf x=>∃d,f=.rt d/\∃p q,d=.im (.tup [.int p,.int q])/\Rd p q/\p*u=t*q/\p.natAbs<=t.natAbs/\q.natAbs<=u.natAbs:=by
  intro t' u' h0 eu et back;obtain⟨b,rfl⟩:∃b:Nat,u'=(b:Int):=⟨u'.toNat,by omega⟩
  obtain⟨p,q,e1,e2,rd,pe,lp,lq⟩:=red (a:=t') h0;rw[natAbs_natCast]at e1 e2 lq eu;have hs:0<Nat.gcd t'.natAbs b:=Nat.gcd_pos_of_pos_right _ (by omega);have hs2:Nat.gcd t'.natAbs b<=b:=Nat.gcd_le_right _ (by omega);have dv:Br ((Nat.gcd t'.natAbs b:Nat):Int):=Ez (by omega) (k:=k) (by unfold Sz;rw[natAbs_natCast];unfold Sz at su;omega) hk bk;refine A9 (AW (AS (A0 (A3 rfl (A0 (A3 rfl (A4 ⟨by simp,(Nv t' (b:=b)).mono ?_⟩)))))));rintro d x rfl;refine⟨_,rfl,A8 (AM (AC (A0 (A6 (A3 rfl (A3 rfl (CO dv (A0 (A6 (A3 rfl (A3 rfl (CO dv (A4 ⟨AF,_,rfl,p,q,?_,rd,back p q pe,by omega,by omega⟩)))))))))))))⟩;rw[e1,e2];rfl
 have out:∀{f:Fl} {x:Hd},(∃d,f=.rt d/\∃p q,d=.im (.tup [.int p,.int q])/\Rd p q/\p*u=t*q/\p.natAbs<=t.natAbs/\q.natAbs<=u.natAbs)->(match f with|.rt d=>∃p q,d=.im (.tup [.int p,.int q])/\Rd p q/\p*u=t*q/\p.natAbs<=t.natAbs/\q.natAbs<=u.natAbs|_=>False):=by
  rintro f x ⟨d,rfl,h⟩;exact h
 refine A9 (AO (AK (A6 (A3 rfl (A5 (Jr ⟨_,rfl,λh=>?_,λh=>?_⟩))))))
 .have h:u<0:=by simpa using h
  refine Cv (A0 (BP (A3 rfl ⟨_,rfl,A0 (BP (A3 rfl ⟨_,rfl,A4 ⟨rfl,A8 ?_⟩⟩))⟩)));refine(go (-t) (-u) (by omega) (by omega) (by omega) (λp q e=>?_)).mono ?_
  .rw[Int.mul_neg,Int.neg_mul]at e;omega
  .rintro f x ⟨d,rfl,h⟩;exact h
 .have h:¬ u<0:=by simpa using h
  refine AI (A8 ((go t u (by omega) rfl rfl (λp q e=>e)).mono ?_));rintro f x ⟨d,rfl,h⟩;exact h
abbrev frI(p q:Int):I:=.tup [.int p,.int q]
def CB{p q:Int}{hd:Hd}{QE:D->Hd->Prop}(h:QE (.im (.int p)) hd):WP (gIx (.im (frI p q)) (.im (.int 0)) hd) QE:=Co (ds:=[.im (.int p),.im (.int q)]) rfl (Vh _ _) h
def B8{p q:Int}{hd:Hd}{QE:D->Hd->Prop}(h:QE (.im (.int q)) hd):WP (gIx (.im (frI p q)) (.im (.int 1)) hd) QE:=Co (ds:=[.im (.int p),.im (.int q)]) rfl (F5 (k:=1) rfl rfl) h
section
variable{a b c d:Int}(sa:Sz 700 a)(sb:Sz 700 b)(sc:Sz 700 c)(sd:Sz 700 d)(hb:0<b)(hd:0<d)
include sa sb sc sd hb hd
theorem Kd:b*d≠0:=Int.ne_of_gt (mul_pos hb hd)
theorem Sj:WF GN [.im (frI a b),.im (frI c d)] [] λe x=>∃p q,e=.im (frI p q)/\Rd p q/\p*(b*d)=(a*d+c*b)*q/\Sz 1401 p/\Sz 1401 q:=by
 unfold GN;refine Aq rfl (AM (AS (A0 (A6 (A6 (A6 (A3 rfl (A5 (CB (A6 (A3 rfl (A5 (B8 (Ad (Aj sa sd) (A6 (A6 (A3 rfl (A5 (CB (A6 (A3 rfl (A5 (B8 (Ad (Aj sc sb) (B5 ?_)))))))))))))))))))))))));refine A0 (A6 (A6 (A3 rfl (A5 (B8 (A6 (A3 rfl (A5 (B8 (Ad (Aj sb sd) (A4 ⟨by simp,(C6 (k:=1400) (by decide) (by decide) (Kd sa sb sc sd hb hd) (sb.mul sd)).mono ?_⟩)))))))))));rintro e x ⟨p,q,rfl,rd,e,lp,lq⟩;exact⟨_,rfl,p,q,rfl,rd,e,EN lp ((sa.mul sd).add (sc.mul sb)),(EN lq (sb.mul sd)).mono (by decide)⟩
theorem Q4:WF FM [.im (frI a b),.im (frI c d)] [] λe x=>∃p q,e=.im (frI p q)/\Rd p q/\p*(b*d)=(a*d-c*b)*q/\Sz 1401 p/\Sz 1401 q:=by
 unfold FM;refine Aq rfl (AM (AS (A0 (A6 (A6 (A6 (A3 rfl (A5 (CB (A6 (A3 rfl (A5 (B8 (Ad (Aj sa sd) (A6 (A6 (A3 rfl (A5 (CB (A6 (A3 rfl (A5 (B8 (Ad (Aj sc sb) (BO ?_)))))))))))))))))))))))));refine A0 (A6 (A6 (A3 rfl (A5 (B8 (A6 (A3 rfl (A5 (B8 (Ad (Aj sb sd) (A4 ⟨by simp,(C6 (k:=1400) (by decide) (by decide) (Kd sa sb sc sd hb hd) (sb.mul sd)).mono ?_⟩)))))))))));rintro e x ⟨p,q,rfl,rd,e,lp,lq⟩;exact⟨_,rfl,p,q,rfl,rd,e,EN lp ((sa.mul sd).sub (sc.mul sb)),(EN lq (sb.mul sd)).mono (by decide)⟩
theorem JM:WF Cn [.im (frI a b),.im (frI c d)] [] λe x=>∃p q,e=.im (frI p q)/\Rd p q/\p*(b*d)=(a*c)*q/\Sz 1401 p/\Sz 1401 q:=by
 unfold Cn;refine Aq rfl (AM (AS (A0 (A6 (A6 (A3 rfl (A5 (CB (A6 (A3 rfl (A5 (CB (Ad (Aj sa sc) ?_)))))))))))));refine A0 (A6 (A6 (A3 rfl (A5 (B8 (A6 (A3 rfl (A5 (B8 (Ad (Aj sb sd) (A4 ⟨by simp,(C6 (k:=1400) (by decide) (by decide) (Kd sa sb sc sd hb hd) (sb.mul sd)).mono ?_⟩)))))))))));rintro e x ⟨p,q,rfl,rd,e,lp,lq⟩;exact⟨_,rfl,p,q,rfl,rd,e,(EN lp (sa.mul sc)).mono (by decide),(EN lq (sb.mul sd)).mono (by decide)⟩
theorem TZ:WF GO [.im (frI a b),.im (frI c d)] [] λe x=>e=.im (.bl (decide (a*d<c*b))):=by
 unfold GO;exact Aq rfl (AM (A6 (A6 (A6 (A3 rfl (A5 (CB (A6 (A3 rfl (A5 (B8 (Ad (Aj sa sd) (A6 (A6 (A3 rfl (A5 (CB (A6 (A3 rfl (A5 (B8 (Ad (Aj sc sb) (Jr rfl)))))))))))))))))))))))
end
def O2{i j k:Nat}{m:MA}{ls:Ls}{hd:Hd}{QS:Fl->Hd->Prop}(h:WA m ls hd λds x=>∃d1 d2 d3,ds=[d1,d2,d3]/\QS (.nx (((ls.set k (some d3)).set j (some d2)).set i (some d1))) x):WS (Dd i j k m) ls hd QS:=by
 obtain⟨ds,x,e,d1,d2,d3,rfl,q⟩:=h;exact⟨_,_,by simp[Dd,C9,e],q⟩
def TJ{n:Nat}(h:n%2=1):Nat.Coprime 2 n:=by
 unfold Nat.Coprime;rw[Nat.gcd_rec,h];decide
def Ij{a b:Nat}(h:b%2=1):Nat.gcd (2*a) b=Nat.gcd a b:=Nat.Coprime.gcd_mul_left_cancel a (TJ h)
def N9{a b:Nat}:Nat.gcd (min a b) ((a:Int)-b).natAbs=Nat.gcd a b:=by
 rcases Nat.le_total a b with h|h
 .rw[Nat.min_eq_left h,show((a:Int)-b).natAbs=b-a by omega];exact Nat.gcd_sub_self_right h
 .rw[Nat.min_eq_right h,show((a:Int)-b).natAbs=a-b by omega,Nat.gcd_sub_self_right h,gcd_comm]
def Iy{k:Nat}(hk:0<k)(bk:k<=9000){a b:Nat}(sa:a<2^k)(sb:b<2^k):WF Dc [.im (.int (a:Int)),.im (.int (b:Int))] [] λd x=>d=.im (.int (Nat.gcd a b:Nat)):=by
 unfold Dc;refine Aq rfl ?_;refine A9 (AO (EH (AK (A6 (A3 rfl (A5 (Am ⟨_,rfl,?_⟩)))))));by_cases a0:a=0
 .subst a0;rw[if_pos (by simp)];refine⟨λ_=>AM (A6 (A3 rfl (A3 rfl (B5 ?_)))),λh=>by cases h⟩;show D.im _=_;rw[Nat.gcd_zero_left];simp
 rw[if_neg (by simp;omega)];refine AK (A6 (A3 rfl (A5 (Am ⟨_,rfl,λh=>?_,λh=>AI (A8 ?_)⟩))))
 .have b0:b=0:=by simpa using h
  subst b0;refine AM (A6 (A3 rfl (A3 rfl (B5 ?_))));show D.im _=_;rw[Nat.gcd_zero_right];simp
 have b0:b≠0:=by simpa using h
 refine A9 (AW (A5 (A8 ?_)));refine A9 (DJ (λm ls hd=>∃x y z:Nat,m=x/\0<x/\0<y/\z*Nat.gcd x y=Nat.gcd a b/\ls=[some (.im (.int (x:Int))),some (.im (.int (y:Int))),some (.im (.int (z:Int)))]/\hd=[]) (n:=a) ⟨a,b,1,rfl,by omega,by omega,by simp,rfl,rfl⟩ ?_);rintro m ls hd ⟨x,y,z,rfl,x0,y0,hz,rfl,rfl⟩;have md:∀n:Nat,(n:Int)%2=((n%2:Nat):Int):=λn=>by omega
 have dv:FI 2:=⟨by decide,by decide⟩
 refine Fm (AK (A6 (A6 (A3 rfl (A5 (Dw (by unfold BG;decide) (A5 (Am ⟨_,rfl,?_⟩))))))));have both:(m%2=0/\y%2=0)∨¬ (m%2=0/\y%2=0):=Classical.em _;rcases both with⟨hx,hy⟩|nb
 .rw[if_pos (by simp;omega)];refine AK (A6 (A6 (A3 rfl (A5 (Dw (by unfold BG;decide) (A5 (Am ⟨_,rfl,?_⟩)))))));rw[if_pos (by simp;omega)];refine O2 (A0 (A6 (A3 rfl (A5 (F7 dv (A0 (A6 (A3 rfl (A5 (F7 dv (A0 (A6 (A5 (A3 rfl (Bw (by unfold BK;omega) (A4 ⟨_,_,_,rfl,?_⟩))))))))))))))));obtain⟨x',rfl⟩:∃x',m=2*x':=⟨m/2,by omega⟩
  obtain⟨y',rfl⟩:∃y',y=2*y':=⟨y/2,by omega⟩
  refine⟨x',by omega,x',y',2*z,rfl,by omega,by omega,?_,?_,rfl⟩
  .rw[<- hz,Nat.gcd_mul_left];ac_rfl
  .show [some (D.im (.int (((2*x':Nat):Int)/2))),some (D.im (.int (((2*y':Nat):Int)/2))),some (D.im (.int (2*(z:Int))))]=_;rw[show((2*x':Nat):Int)/2=(x':Int) by omega,show((2*y':Nat):Int)/2=(y':Int) by omega];rfl
 have rest:WS (AB (BZ (AE (mOp gEq (mOp BE (A2 0) (mC (.int 2))) (mC (.int 0))))
  (AR 0 (mOp Bg (A2 0) (mC (.int 2)))))
  (AB (BZ (AE (mOp gGt (A2 1) (mC (.int 0))))
   (AB (BZ (AE (mOp gEq (mOp BE (A2 1) (mC (.int 2))) (mC (.int 0))))
   (AR 1 (mOp Bg (A2 1) (mC (.int 2)))))
  (C9 [0,1] (A1 (mCB EW (A1 (A2 0) (A1 (A2 1) A7))) (A1 (mCB Cl (A1 (mOp B3 (A2 0) (A2 1)) A7)) A7)))))
  (AJ (mOp Al (A2 0) (A2 2))))) [some (.im (.int (m:Int))),some (.im (.int (y:Int))),some (.im (.int (z:Int)))] [] λf x=>f=.rt (.im (.int (Nat.gcd a b:Nat))):=by
  refine A9 (DJ (λn ls hd=>∃x:Nat,n=x/\0<x/\(x%2=0->y%2=1)/\z*Nat.gcd x y=Nat.gcd a b/\ls=[some (.im (.int (x:Int))),some (.im (.int (y:Int))),some (.im (.int (z:Int)))]/\hd=[]) (n:=m) ⟨m,rfl,x0,by omega,hz,rfl,rfl⟩ ?_);rintro n ls hd ⟨x,rfl,x0,hxy,hz,rfl,rfl⟩;refine AK (A6 (A6 (A3 rfl (A5 (Dw (by unfold BG;decide) (A5 (Am ⟨_,rfl,?_⟩)))))));by_cases hx:n%2=0
  .rw[if_pos (by simp;omega)];refine AW (A6 (A3 rfl (A5 (F7 dv ?_))));obtain⟨x',rfl⟩:∃x',n=2*x':=⟨n/2,by omega⟩
   refine⟨x',by omega,x',rfl,by omega,λ_=>hxy hx,?_,?_,rfl⟩
   .rw[<- hz,Ij (hxy hx)]
   .show [some (D.im (.int (((2*x':Nat):Int)/2))),_,_]=_;rw[show((2*x':Nat):Int)/2=(x':Int) by omega]
  rw[if_neg (by simp;omega)];refine A8 (A9 (DJ (λn ls hd=>∃x y:Nat,n=x+y/\x%2=1/\z*Nat.gcd x y=Nat.gcd a b/\ls=[some (.im (.int (x:Int))),some (.im (.int (y:Int))),some (.im (.int (z:Int)))]/\hd=[]) (n:=n+y) ⟨n,y,rfl,by omega,hz,rfl,rfl⟩ ?_));rintro q ls hd ⟨x,y,rfl,hx,hz,rfl,rfl⟩;refine AK (A6 (A3 rfl (A5 (Fo ⟨_,rfl,?_⟩))));by_cases hy:0<y
  .rw[if_pos (by simp;omega)];refine A9 (DJ (λn ls hd=>∃v:Nat,n=v/\0<v/\v<=y/\Nat.gcd x v=Nat.gcd x y/\ls=[some (.im (.int (x:Int))),some (.im (.int (v:Int))),some (.im (.int (z:Int)))]/\hd=[]) (n:=y) ⟨y,rfl,hy,le_refl _,rfl,rfl,rfl⟩ ?_);rintro n ls hd ⟨v,rfl,v0,vy,gv,rfl,rfl⟩;refine AK (A6 (A6 (A3 rfl (A5 (Dw (by unfold BG;decide) (A5 (Am ⟨_,rfl,?_⟩)))))));by_cases hv:n%2=0
   .rw[if_pos (by simp;omega)];refine AW (A6 (A3 rfl (A5 (F7 dv ?_))));obtain⟨v',rfl⟩:∃x',n=2*x':=⟨n/2,by omega⟩
    refine⟨v',by omega,v',rfl,by omega,by omega,?_,?_,rfl⟩
    .rw[<- gv,gcd_comm x,gcd_comm x,Ij hx]
    .show [_,some (D.im (.int (((2*v':Nat):Int)/2))),_]=_;rw[show((2*v':Nat):Int)/2=(v':Int) by omega]
   .rw[if_neg (by simp;omega)];refine A8 (Cv (A0 (BA (A0 (A3 rfl (A0 (A3 rfl (A4 (O5 ?_)))))))));refine A0 (BA (A0 (A6 (A3 rfl (A3 rfl (BO (A4 (WP.eq (z:=.im (.int (((x:Int)-n).natAbs:Int))) (h:=[]) (by simp[Cl];split<;>omega) (A4 ⟨rfl,?_⟩)))))))));refine⟨min x n+((x:Int)-n).natAbs,by omega,min x n,((x:Int)-n).natAbs,rfl,by omega,?_,?_,rfl⟩
    .rw[N9,gv];exact hz
    .show [some (D.im (.int (min (x:Int) (n:Int)))),_,_]=_;rw[show min (x:Int) (n:Int)=((min x n:Nat):Int) by omega]
  .rw[if_neg (by simp;omega)];obtain rfl:y=0:=by omega
   rw[Nat.gcd_zero_right]at hz;have g2:Nat.gcd a b<=a:=Nat.gcd_le_left _ (by omega);have gp:0<Nat.gcd a b:=Nat.gcd_pos_of_pos_left _ (by omega);have z0:0<z:=Nat.pos_of_ne_zero λe=>by rw[e,Nat.zero_mul]at hz;omega
   have zl:z<=Nat.gcd a b:=by rw[<- hz];exact Nat.le_mul_of_pos_right _ (by omega)
   have xl:x<=Nat.gcd a b:=by rw[<- hz];exact Nat.le_mul_of_pos_left _ z0
   refine A8 (AM (A6 (A3 rfl (A3 rfl (Ad (Aj (k:=k) (l:=k) (by unfold Sz;omega) (by unfold Sz;omega) hk hk (by omega) (by omega)) ?_)))));show Fl.rt _=_;rw[<- hz,Nat.mul_comm z x];rfl
 by_cases hx:m%2=0
 .rw[if_pos (by simp;omega)];refine AK (A6 (A6 (A3 rfl (A5 (Dw (by unfold BG;decide) (A5 (Am ⟨_,rfl,?_⟩)))))));rw[if_neg (by simp;omega)];exact A8 (rest.mono (by rintro f x rfl;rfl))
 .rw[if_neg (by simp;omega)];rw[if_neg (by simp)];exact A8 (rest.mono (by rintro f x rfl;rfl))
def BQ:Tv->Bool
 |.int _=>true
 |_=>false
def Bx:Tv->Int
 |.int i=>i
 |_=>0
def KI{n:Nat}{h:Hd}{t:Tv}{d:D}(hi:Is n h t d):WF CH [d] h λd' x=>d'=.im (.bl (BQ t))/\x=h:=by
 unfold CH;refine Aq rfl ?_;refine AM (Cg (AK (Af (A3 rfl ⟨_,hi.isD .int,_,rfl,?_⟩))));cases t with
 |int i=>
  rw[if_pos (by simp[ty])];exact GR (AK (Af (A3 rfl ⟨_,hi.isD .bool,_,rfl,by simp[ty,BQ]⟩)))
 |bl i=>
  rw[if_pos (by simp[ty])];exact GR (AK (Af (A3 rfl ⟨_,hi.isD .bool,_,rfl,by simp[ty,BQ]⟩)))
 |non=>rw[if_neg (by simp[ty])];exact⟨rfl,rfl⟩
 |str x=>rw[if_neg (by simp[ty])];exact⟨rfl,rfl⟩
 |tup x=>rw[if_neg (by simp[ty])];exact⟨rfl,rfl⟩
 |lst x=>rw[if_neg (by simp[ty])];exact⟨rfl,rfl⟩
def TY{n:Nat}{h:Hd}{t:Tv}{d:D}(hi:Is n h t d):WF Db [d] h λd' x=>d'=.im (.bl (BQ t))/\x=h:=KI hi
def G7{t:Tv}(h:BQ t=true):t=.int (Bx t):=by
 cases t<;>simp[BQ,Bx]at h ⊢
def D9(k:Int)(t:Tv):Bool:=BQ t&&decide (k<=Bx t)
def Tl{n:Nat}{h:Hd}{t:Tv}{d:D}{k:Int}(hi:Is n h t d):WF Bk [.im (.int k),d] h λd' x=>d'=.im (.bl (D9 k t))/\x=h:=by
 unfold Bk;refine Aq rfl ?_;refine AM (Cg (AK (Av (A0 (A3 rfl (A4 ((KI hi).mono ?_))))))) ;rintro d' x ⟨rfl,rfl⟩;refine⟨_,rfl,?_⟩;cases t with
 |int i=>
  simp only[Is]at hi;subst hi;rw[if_pos (by simp[BQ])];exact A6 (A3 rfl (A3 rfl (NM ⟨by simp only[D9,BQ,Bx,Bool.true_and];congr,rfl⟩)))
 |bl i=>rw[if_neg (by simp[BQ])];exact⟨rfl,rfl⟩
 |non=>rw[if_neg (by simp[BQ])];exact⟨rfl,rfl⟩
 |str x=>rw[if_neg (by simp[BQ])];exact⟨rfl,rfl⟩
 |tup x=>rw[if_neg (by simp[BQ])];exact⟨rfl,rfl⟩
 |lst x=>rw[if_neg (by simp[BQ])];exact⟨rfl,rfl⟩
def Dk(k:Nat):Tv->Bool
 |.tup ts=>decide (ts.length=k)
 |_=>false
def OD{n:Nat}{h:Hd}{t:Tv}{d:D}{k:Nat}(hi:Is n h t d):WF CN [.im (.int (k:Int)),d] h λd' x=>d'=.im (.bl (Dk k t))/\x=h:=by
 unfold CN;refine Aq rfl ?_;refine AM (Cg (AK (Af (A3 rfl ⟨_,hi.isD .tuple,_,rfl,?_⟩))));cases t with
 |tup ts=>
  obtain⟨ds,hv,hs⟩:=hi.view;have hl:=hs.len;rw[if_pos (by simp[ty])];refine A6 (BA (A0 (A3 rfl (A4 (Hc (ds:=ds) (by rw[if_pos rfl];exact EO hv) rfl (A3 rfl (Am ⟨?_,rfl⟩)))))));simp[Dk,hl];omega
 |int i=>rw[if_neg (by simp[ty])];exact⟨rfl,rfl⟩
 |bl i=>rw[if_neg (by simp[ty])];exact⟨rfl,rfl⟩
 |non=>rw[if_neg (by simp[ty])];exact⟨rfl,rfl⟩
 |str x=>rw[if_neg (by simp[ty])];exact⟨rfl,rfl⟩
 |lst x=>rw[if_neg (by simp[ty])];exact⟨rfl,rfl⟩
def Qr{F:List D->Hd->Option (D×Hd)}{spec:Tv->Bool}{N:Nat}{h:Hd}{ts:List Tv}{ds:List D}(hs:Iss N h ts ds)(hF:∀t∈ts,∀d,Is N h t d->WF F [d] h λd' x=>d'=.im (.bl (spec t))/\x=h){QA:List D->Hd->Prop}(q:QA (blD (ts.map spec)) h):WP (B7 (Au 0) Gg (Ag F (A1 (A2 0) A7)) [] ds [none] h) QA:=by
 refine UF (λr es ls hd=>∃us tr z,hd=h/\ts=us++tr/\Iss N h tr r/\es=blD (us.map spec)/\ls=[z]) ⟨[],ts,none,rfl,rfl,hs,rfl,rfl⟩ ?_ ?_
 .rintro d r es ls hd ⟨us,tr,z,hx,rfl,hr,rfl,rfl⟩;subst hd;cases tr with
  |nil=>simp only[Iss]at hr;cases hr
  |cons t tr=>
   simp only[Iss]at hr;obtain⟨d',r',e,hi,hr⟩:=hr;obtain⟨rfl,rfl⟩:=List.cons.inj e;refine⟨[some d],rfl,Qf ?_⟩;rw[if_pos rfl];refine Av (A0 (A3 rfl (A4 ((hF t (by simp) d hi).mono ?_))));rintro d' x ⟨rfl,hx⟩;subst x;exact⟨Bc _,us++[t],tr,_,rfl,by simp,hr,by simp[blD],rfl⟩
 .rintro es ls hd ⟨us,tr,z,hx,rfl,hr,rfl,rfl⟩;subst hd;cases tr with
  |nil=>simpa using q
  |cons t tr=>simp only[Iss]at hr;obtain⟨d',r',e,_⟩:=hr;cases e
def Qo{t:Tv}(h:Dk 2 t=true):∃a b,t=.tup [a,b]:=by
 cases t with
 |tup ts=>
  simp[Dk]at h
  match ts,h with
  |[a,b],_=>exact⟨a,b,rfl⟩
 |_=>simp[Dk]at h
def frT:Tv->Bool
 |.tup [a,b]=>BQ a&&(D9 1 b&&decide (Nat.gcd (Bx a).natAbs (Bx b).natAbs=1))
 |_=>false
def Il{t:Tv}(h:¬ Dk 2 t=true):frT t=false:=by
 unfold frT;split
 .simp[Dk]at h
 .rfl
def Tg{n:Nat}{h:Hd}{t:Tv}{d:D}(hi:Is n h t d):WF Bp [d] h λd' x=>d'=.im (.bl (frT t))/\x=h:=by
 unfold Bp;refine Aq rfl ?_;refine A9 (AO (Bl (AX (Av (A0 (A5 (A0 (A3 rfl (A4 ((OD (k:=2) hi).mono ?_))))))))));rintro d' x ⟨rfl,hx⟩;subst x;refine⟨_,rfl,?_⟩;by_cases ht:Dk 2 t=true
 .rw[ht];refine⟨(λh=>by cases h),λ_=>AI (A8 ?_)⟩;obtain⟨a,b,rfl⟩:=Qo ht;obtain⟨ds,hv,hs⟩:=hi.view;simp only[Iss]at hs;obtain⟨da,_,rfl,ia,db,_,rfl,ib,rfl⟩:=hs;refine A9 (Hv (A3 rfl ⟨[some d,some da,some db],by simp[DU,hv],A8 ?_⟩));refine A9 (AO (EH (Bl (AX (Av (A0 (A3 rfl (A4 ((KI ia).mono ?_)))))))));rintro d' x ⟨rfl,hx⟩;subst x;refine⟨_,rfl,?_⟩;by_cases ha:BQ a=true
  .rw[ha,if_neg (by simp)];refine Bl (AX (Av (A0 (A5 (A0 (A3 rfl (A4 ((Tl (k:=1) ib).mono ?_))))))));rintro d' x ⟨rfl,hx⟩;subst x;refine⟨_,rfl,?_⟩;by_cases hb:D9 1 b=true
   .rw[hb];refine⟨(λh=>by cases h),λ_=>AI (A8 ?_)⟩;have hnb:BQ b=true:=by unfold D9 at hb;rw[Bool.and_eq_true]at hb;exact hb.1
    have b1:1<=Bx b:=by unfold D9 at hb;rw[Bool.and_eq_true]at hb;exact of_decide_eq_true hb.2
    have e:frT (.tup [a,b])=decide (Nat.gcd (Bx a).natAbs (Bx b).natAbs=1):=by simp only[frT,ha,hb,Bool.true_and]
    rw[e];rw[G7 ha]at ia;rw[G7 hnb]at ib;generalize Bx a=x at *;generalize Bx b=y at *;simp only[Is]at ia ib;subst ia;subst ib;obtain⟨k,rfl⟩:∃k:Nat,y=(k:Int):=⟨y.toNat,by omega⟩
    rw[natAbs_natCast];refine AM (A6 (AS (A0 (A3 rfl (A0 (A3 rfl (A4 ⟨by simp,(Nv x (b:=k)).mono ?_⟩)))))));rintro d' x' rfl;refine⟨_,rfl,A5 (Am ⟨?_,rfl⟩)⟩
    congr 2
    simp;omega
   .rw[Bool.eq_false_iff.mpr hb];refine⟨λ_=>AM (A5 ⟨?_,rfl⟩),λh=>by cases h⟩;simp only[frT,Bool.eq_false_iff.mpr hb,Bool.false_and,Bool.and_false]
  .rw[Bool.eq_false_iff.mpr ha,if_pos (by simp)];refine⟨λ_=>AM (A5 ⟨?_,rfl⟩),λh=>by cases h⟩;simp only[frT,Bool.eq_false_iff.mpr ha,Bool.false_and]
 .rw[Bool.eq_false_iff.mpr ht];exact⟨λ_=>AM (A5 ⟨by rw[Il ht],rfl⟩),λh=>by cases h⟩
def Jb{n:Nat}{h:Hd}{t:Tv}{d:D}{m:Nat}(hm:m<2^9000)(hi:Is n h t d)(hg:Gq m t):WF BN [d] h λd' x=>d'=.im (.bl (frT t))/\x=h:=by
 unfold BN;refine Aq rfl ?_;refine A9 (AO (EH (Bl (AX (Af (A3 rfl ⟨_,hi.isD .tuple,_,rfl,?_⟩))))));by_cases hT:∃ts,t=.tup ts
 .obtain⟨ts,rfl⟩:=hT;obtain⟨ds,hv,hs⟩:=hi.view;have hl:=hs.len;rw[if_neg (by simp[ty])];refine EH (AK (A6 (BA (A0 (A3 rfl (A4 (Hc (ds:=ds) (by rw[if_pos rfl];exact EO hv) rfl (A5 (Hx ⟨_,rfl,?_⟩)))))))));by_cases l3:ts.length=2
  .rw[if_neg (by simp;omega)];refine AK (Ql (A5 (OC (Lv (A3 rfl ⟨ds,hv,Ac (by dsimp only;omega),?_⟩)))));refine Qr (spec:=BQ) hs (λt ht d hi=>TY hi) ⟨_,_,_,rfl,rfl,NB _,_,rfl,?_⟩;rw[QL]
   match ts,l3 with
   |[a,b],_=>
    simp only[Iss]at hs;obtain⟨da,_,rfl,ia,db,_,rfl,ib,rfl⟩:=hs;simp only[Gq,Gqs]at hg;by_cases hall:BQ a=true/\BQ b=true
    .obtain⟨ha,hb⟩:=hall;refine⟨(λh=>by simp[ha,hb]at h),λ_=>AI (A8 ?_)⟩;have pE:frT (.tup [a,b])=(decide (1<=Bx b)&&decide (Nat.gcd (Bx a).natAbs (Bx b).natAbs=1)):=by simp only[frT,D9,ha,hb,Bool.true_and]
     rw[pE];rw[G7 ha]at ia hg;rw[G7 hb]at ib hg;generalize Bx a=x at *;generalize Bx b=y at *;simp only[Gq]at hg;simp only[Is]at ia ib;subst ia;subst ib;refine AM (Cg (AK (A6 (A6 (A3 rfl (A5 (Co (EO hv) (F5 (k:=1) rfl rfl) (A5 (NM ⟨_,rfl,?_⟩)))))))));by_cases h1:1<=y
     .rw[if_pos (decide_eq_true h1)];obtain⟨k,rfl⟩:∃k:Nat,y=(k:Int):=⟨y.toNat,by omega⟩
      refine A6 (AS (A0 (BA (A0 (A6 (A3 rfl (A5 (Co (EO hv) (F5 (k:=0) rfl rfl) (A4 (WP.eq (z:=.im (.int (x.natAbs:Int))) (h:=h) (by simp[Cl];split<;>omega) ?_))))))))));refine A0 (A6 (A3 rfl (A5 (Co (EO hv) (F5 (k:=1) rfl rfl) (A4 ⟨by simp,(Iy (k:=9000) (by decide) (by decide) (a:=x.natAbs) (b:=k) (by omega) (by have:=hg.2.1;rw[natAbs_natCast]at this;omega)).mono ?_⟩)))));rintro d' x' rfl;refine⟨_,rfl,A5 (Am ⟨?_,rfl⟩)⟩;rw[decide_eq_true h1,Bool.true_and,natAbs_natCast]
      congr 2
      simp;omega
     .rw[if_neg (by simpa using h1)];exact⟨by rw[decide_eq_false h1];rfl,rfl⟩
    .refine⟨λ_=>AM (A5 ⟨?_,rfl⟩),λh=>?_⟩
     .have:frT (.tup [a,b])=false:=by
       simp only[frT,D9];rcases Bool.eq_false_or_eq_true (BQ a)with q|q
       .rcases Bool.eq_false_or_eq_true (BQ b)with q2|q2
        .exact absurd ⟨q,q2⟩ hall
        .simp[q2]
       .simp[q]
      rw[this]
     .exfalso;apply hall;simpa using h
  .rw[if_pos (by simp;omega)];refine⟨λ_=>AM (A5 ⟨?_,rfl⟩),λh=>by cases h⟩;rw[Il (by simp[Dk];exact l3)]
 .have:ty .tuple t=false:=by
   cases t with
   |tup ts=>exact absurd ⟨ts,rfl⟩ hT
   |_=>simp[ty]
  rw[this,if_pos (by simp)];refine⟨λ_=>AM (A5 ⟨?_,rfl⟩),λh=>by cases h⟩;rw[Il];cases t with
  |tup ts=>exact absurd ⟨ts,rfl⟩ hT
  |_=>simp[Dk]
def NR{k:Nat}{i:Int}(h:Sz k i)(hk:k<=8999):i.natAbs<=2^8999:=le_of_lt (h.mono hk)
def CM(p q:Int){n:Nat}{hd:Hd}:Is n hd (.tup [.int p,.int q]) (.im (frI p q)):=AQ (frI p q)
def UQ{p q:Int}(h:Rd p q):frT (.tup [.int p,.int q])=true:=by
 have:=h.q0;simp only[frT,BQ,D9,Bx,Bool.true_and,h.g1,decide_true,Bool.and_true];exact decide_eq_true (by omega)
def CY{p q t u:Int}(rd:Rd p q)(e:p*u=t*q)(sp:Sz 8000 p)(sq:Sz 8000 q)(st:Sz 8000 t)(su:Sz 8000 u):WF BF [.im (frI p q),.im (.int t),.im (.int u)] [] λd x=>d=.im (.bl true):=by
 unfold BF;refine Aq rfl (AM (Cg (AK (Av (A0 (A3 rfl (A4 ((Jb (m:=2^8999) (n:=0) (t:=.tup [.int p,.int q]) (Nat.pow_lt_pow_right (by decide) (by decide)) (CM p q) ?_).mono ?_))))))))
 .simp only[Gq,Gqs];exact⟨NR sp (by decide),NR sq (by decide),trivial⟩
 rintro d x ⟨rfl,rfl⟩;refine⟨_,rfl,?_⟩;rw[UQ rd,if_pos rfl];refine A6 (A6 (A6 (A3 rfl (A5 (CB (A3 rfl (Ad (Aj sp su) (A6 (A3 rfl (A6 (A3 rfl (A5 (B8 (Ad (Aj st sq) (Am ?_)))))))))))))));rw[decide_eq_true e]
def OH{x y u v m s:Int}:(0-s)*(y*(u-m*v)-v*(x-m*y))=s*(x*v-u*y):=by
 have e1:y*(u-m*v)=u*y-m*(v*y):=by rw[Int.mul_sub];congr 1<;>ac_rfl
 have e2:v*(x-m*y)=x*v-m*(v*y):=by rw[Int.mul_sub];congr 1<;>ac_rfl
 rw[e1,e2];generalize u*y=A;generalize x*v=B;generalize m*(v*y)=C;rw[show A-C-(B-C)=-(B-A) by omega,zero_sub,Int.neg_mul_neg]
def KF{x y:Int}(hy:0<y):∃r,x-x/y*y=r/\0<=r/\r<y:=by
 have h1:=Int.emod_nonneg x (Int.ne_of_gt hy);have h2:=Int.emod_lt_of_pos x hy;have h3:=Int.mul_ediv_add_emod x y;rw[Int.mul_comm]at h3;exact⟨x%y,by omega,h1,h2⟩
def JY{x y u v:Int}(hy:0<y)(hv:0<v)(h:x/y<u/v):x*v-u*y<0:=by
 obtain⟨r,e1,r0,r1⟩:=KF (x:=x) hy;obtain⟨r',e2,r0',r1'⟩:=KF (x:=u) hv;generalize x/y=m at *;generalize u/v=n at *;have hx:x=m*y+r:=by omega
 have hu:u=n*v+r':=by omega
 have a1:x*v<(m+1)*y*v:=by
  refine Int.mul_lt_mul_of_pos_right ?_ hv;rw[Int.add_mul,Int.one_mul];omega
 have a2:(m+1)*(v*y)<=n*(v*y):=Int.mul_le_mul_of_nonneg_right (by omega) (Int.le_of_lt (mul_pos hv hy));have a3:n*v*y<=u*y:=Int.mul_le_mul_of_nonneg_right (by omega) (Int.le_of_lt hy);have e3:(m+1)*y*v=(m+1)*(v*y):=by ac_rfl
 have e4:n*v*y=n*(v*y):=by ac_rfl
 omega
abbrev sgn(s:Int):Prop:=s=1∨s=-1
def Qx{a b c d:Int}(hb:0<b)(hd:0<d)(sb:Sz 700 b)(sd:Sz 700 d)(sa:Sz 700 a)(sc:Sz 700 c):WF GM [.im (frI a b),.im (frI c d)] [] λe x=>∃r:Int,e=.im (.int r)/\(r<0↔a*d<c*b):=by
 unfold GM;refine Aq rfl ?_;refine A9 (AW (A5 (A8 ?_)));refine A9 (Cw (Hy (A0 (A5 (A4 ⟨2000,rfl,E1 (by decide) (by decide),?_⟩)))));refine CC (λr ls hd=>∃(k:Nat) (x y u v s:Int) (z3 z4 z5:Option D),k<=2000/\r=AY (k:Int) (2000-k)/\0<y/\0<v/\Sz 700 y/\Sz 700 v/\Sz 700 x/\Sz 700 u/\sgn s/\s*(x*v-u*y)=a*d-c*b/\(0<k->y<x/\x*y*2^(k-1)<2^1400)/\ls=[some (.im (frI x y)),some (.im (frI u v)),some (.im (.int s)),z3,z4,z5]/\hd=[]) ⟨0,a,b,c,d,1,none,none,none,by decide,rfl,hb,hd,sb,sd,sa,sc,.inl rfl,by omega,λh=>absurd h (lt_irrefl 0),rfl,rfl⟩ ?_ ?_
 .rintro e r ls hd ⟨k,x,y,u,v,s,z3,z4,z5,hk,er,hy,hv,sy,sv,sx,su,hs,inv,dec,rfl,rfl⟩;cases q:2000-k with
  |zero=>rw[q]at er;cases er
  |succ m=>
   rw[q,AY]at er;obtain⟨rfl,rfl⟩:=List.cons.inj er;have dy:Br y:=Ez hy sy (by decide) (by decide);have dv:Br v:=Ez hv sv (by decide) (by decide);refine⟨_,rfl,?_⟩;change WS _ [some (.im (frI x y)),some (.im (frI u v)),some (.im (.int s)),some (.im (.int (k:Int))),z4,z5] _ _;refine A9 (Cv (A0 (A6 (A6 (A3 rfl (A5 (CB (A6 (A3 rfl (A5 (B8 (CO dy (A0 (A6 (A6 (A3 rfl (A5 (CB (A6 (A3 rfl (A5 (B8 (CO dv (A4 ⟨rfl,A8 ?_⟩))))))))))))))))))))))));change WS _ [some (.im (frI x y)),some (.im (frI u v)),some (.im (.int s)),some (.im (.int (k:Int))),some (.im (.int (x/y))),some (.im (.int (u/v)))] _ _;refine A9 (AO (AK (A6 (A3 rfl (A3 rfl (Hx ⟨_,rfl,λh=>?_,λh=>AI (A8 ?_)⟩))))))
   .have h:¬ x/y=u/v:=by simpa using h
    refine AM (Hz (AK (A6 (A3 rfl (A3 rfl (Fo ⟨_,rfl,λh2=>?_,λh2=>?_⟩))))))
    .have h2:u/v<x/y:=by simpa using h2
     have lt:=JY hv hy h2;refine A3 rfl ⟨s,rfl,?_⟩;rcases hs with rfl|rfl<;>omega
    .have h2:¬ u/v<x/y:=by simpa using h2
     have lt:=JY hy hv (show x/y<u/v by omega);refine A6 (A5 (A3 rfl (BO ⟨0-s,rfl,?_⟩)));rcases hs with rfl|rfl<;>omega
   have h:x/y=u/v:=by simpa using h
   rw[<- h];obtain⟨r,e1,r0,r1⟩:=KF (x:=x) hy;obtain⟨r',e2,r0',r1'⟩:=KF (x:=u) hv;rw[<- h]at e2;have sr:Sz 700 r:=by unfold Sz at sy ⊢;omega
   have sr':Sz 700 r':=by unfold Sz at sv ⊢;omega
   have sm:Sz 700 (x/y):=lt_of_le_of_lt (Int.natAbs_ediv_le_natAbs x y) sx;refine A9 (Cv (A0 (AC (A0 (A6 (A3 rfl (A5 (B8 (A0 (A6 (A6 (A3 rfl (A5 (CB (A6 (A3 rfl (A6 (A3 rfl (A5 (B8 (Ad (Aj sm sy) (BO (A4 ⟨AF,?_⟩)))))))))))))))))))))));refine A0 (AC (A0 (A6 (A3 rfl (A5 (B8 (A0 (A6 (A6 (A3 rfl (A5 (CB (A6 (A3 rfl (A6 (A3 rfl (A5 (B8 (Ad (Aj sm sv) (BO (A4 ⟨AF,A4 ⟨rfl,A8 ?_⟩⟩)))))))))))))))))))));rw[e1,e2];change WS _ [some (.im (frI y r)),some (.im (frI v r')),some (.im (.int s)),some (.im (.int (k:Int))),some (.im (.int (x/y))),some (.im (.int (x/y)))] _ _;have key:(0-s)*(y*r'-v*r)=a*d-c*b:=by rw[<- inv,<- OH (x:=x) (y:=y) (u:=u) (v:=v) (s:=s) (m:=x/y),e1,e2]
   have bl:∀p:Prop,[Decidable p]->∀{hd:Hd} {QE:D->Hd->Prop},QE (.im (.int (if p then 1 else 0))) hd->WP (DW [.im (.bl (decide p))] hd) QE:=λp _ hd QE q=>⟨_,_,by simp only[DW];rfl,by by_cases hp:p<;>simpa [hp]using q⟩
   refine A9 (WP.mono (Q:=λ(fl:Fl) (y':Hd)=>(∃t:Int,fl=.rt (.im (.int t))/\(t<0↔a*d<c*b))∨(fl=.nx [some (.im (frI y r)),some (.im (frI v r')),some (.im (.int s)),some (.im (.int (k:Int))),some (.im (.int (x/y))),some (.im (.int (x/y)))]/\y'=[]/\0<r/\0<r')) ?_ ?_)
   .refine AO (EH (AK (A6 (A6 (A3 rfl (A5 (B8 (A5 (Am ⟨_,rfl,?_⟩)))))))));have fin:r=0∨r'=0->WS (AJ (mOp BI (A2 2) (mOp B3 (mCB DW (A1 (mOp gEq (mOp gIx (A2 1) (mC (.int 1))) (mC (.int 0))) A7)) (mCB DW (A1 (mOp gEq (mOp gIx (A2 0) (mC (.int 1))) (mC (.int 0))) A7))))) [some (.im (frI y r)),some (.im (frI v r')),some (.im (.int s)),some (.im (.int (k:Int))),some (.im (.int (x/y))),some (.im (.int (x/y)))] [] λfl y'=>(∃t:Int,fl=.rt (.im (.int t))/\(t<0↔a*d<c*b))∨(fl=.nx [some (.im (frI y r)),some (.im (frI v r')),some (.im (.int s)),some (.im (.int (k:Int))),some (.im (.int (x/y))),some (.im (.int (x/y)))]/\y'=[]/\0<r/\0<r'):=by
     intro hz;refine AM (A6 (A3 rfl (A6 (BA (A0 (A6 (A6 (A3 rfl (A5 (B8 (A5 (Am (A4 (bl _ (BA (A0 (A6 (A6 (A3 rfl (A5 (B8 (A5 (Am (A4 (bl _ (BO (Bw ?_ (.inl ⟨_,rfl,?_⟩))))))))))))))))))))))))))))
     .unfold BK
      left
      rcases hs with rfl|rfl<;>decide
     .have pv:r=0->r'=0->a*d-c*b=0:=λh1 h2=>by rw[<- key,h1,h2];simp
      have p1:r=0->r'≠0->s*(y*r')=c*b-a*d:=λh1 h2=>by
       have:=key;rw[h1,Int.mul_zero,Int.sub_zero,zero_sub,Int.neg_mul]at this;omega
      have p2:r'=0->s*(v*r)=a*d-c*b:=λh1=>by
       have:=key;rw[h1,Int.mul_zero,zero_sub,zero_sub,Int.neg_mul_neg]at this;exact this
      by_cases z1:r=0
      .by_cases z2:r'=0
       .have:=pv z1 z2;rw[if_pos z1,if_pos z2];rcases hs with rfl|rfl<;>omega
       .have:=p1 z1 z2;have pos:0<y*r':=mul_pos hy (by omega);rw[if_pos z1,if_neg z2];rcases hs with rfl|rfl<;>omega
      .have z2:r'=0:=hz.resolve_left z1;have:=p2 z2;have pos:0<v*r:=mul_pos hv (by omega);rw[if_neg z1,if_pos z2];rcases hs with rfl|rfl<;>omega
    by_cases z1:r=0
    .rw[if_pos (decide_eq_true z1)];exact⟨λ_=>fin (.inl z1),λh=>by cases h⟩
    .rw[if_neg (by simpa using z1)];refine AK (A6 (A6 (A3 rfl (A5 (B8 (A5 (Am ⟨_,rfl,λh=>fin (.inr (of_decide_eq_true h)),λh=>AI (.inr ⟨rfl,rfl,by omega,?_⟩)⟩)))))));have:=of_decide_eq_false h;omega
   .rintro fl y' (⟨t,rfl,ht⟩|⟨rfl,rfl,p1,p2⟩)
    .exact Lw ⟨t,rfl,ht⟩
    .refine A8 (AW (A6 (A5 (A3 rfl (BO ?_)))));refine⟨Bc _,k+1,y,r,v,r',0-s,_,_,_,by omega,by rw[show 2000-(k+1)=m by omega];rfl,p1,p2,sr,sr',sy,sv,?_,key,λ_=>⟨r1,?_⟩,rfl,rfl⟩
     .rcases hs with rfl|rfl
      .exact .inr rfl
      .exact .inl rfl
     .rw[Nat.add_sub_cancel];by_cases k0:k=0
      .subst k0;rw[Int.pow_zero,mul_one];have h1:y*r<=y*y:=Int.mul_le_mul_of_nonneg_left (by omega) (by omega);have h2:(y*y).natAbs<2^(700+700):=sy.mul sy;have h3:((2^(700+700):Nat):Int)=2^1400:=by norm_cast
       have h4:0<=y*y:=Int.mul_nonneg (by omega) (by omega);omega
      .obtain⟨d1,d2⟩:=dec (by omega);obtain⟨j,rfl⟩:∃j,k=j+1:=⟨k-1,by omega⟩
       rw[Nat.add_sub_cancel]at d2;have x1:1<=x/y:=Int.le_ediv_of_mul_le hy (by omega);have x2:y<=x/y*y:=by
        have:=Int.mul_le_mul_of_nonneg_right x1 (Int.le_of_lt hy);omega
       have x3:2*r<=x:=by omega
       have x4:y*(2*r)<=y*x:=Int.mul_le_mul_of_nonneg_left x3 (Int.le_of_lt hy);have x5:y*(2*r)*2^j<=y*x*2^j:=Int.mul_le_mul_of_nonneg_right x4 (Int.pow_nonneg (by decide));have x6:y*r*2^(j+1)=y*(2*r)*2^j:=by rw[Int.pow_succ];ac_rfl
       have x7:y*x*2^j=x*y*2^j:=by ac_rfl
       omega
 .rintro ls hd ⟨k,x,y,u,v,s,z3,z4,z5,hk,er,hy,hv,sy,sv,sx,su,hs,inv,dec,rfl,rfl⟩;exfalso;have k2:k=2000:=by
   cases q:2000-k with
   |zero=>omega
   |succ m=>rw[q,AY]at er;cases er
  subst k2;obtain⟨d1,d2⟩:=dec (by decide);have p:1<=x*y:=mul_pos (by omega) hy;have p2:1*(2:Int)^1999<=x*y*2^1999:=Int.mul_le_mul_of_nonneg_right p (Int.pow_nonneg (by decide));have p3:(2:Int)^1400<=2^1999:=by decide +kernel
  have d2:x*y*2^1999<(2:Int)^1400:=d2;omega
def Dj{F:FD}{R:I->Prop}{m:MA}{ls:Ls}{hd:Hd}{QE:D->Hd->Prop}(h:WA m ls hd λds x=>∃(a b:MO) (rest:Hd) (as:List D),x=a::b::rest/\ds=.mu 1::as/\T 0 a b/\BJ 2 as=true/\(∀a b,T 0 a b->WF F (.mu 1::as) [a,b] λd x=>∃i a' b' g,d=.im i/\R i/\T 0 a' b'/\x=a'::b'::g)/\∀i a' b',T 0 a' b'->R i->QE (.im i) (a'::b'::rest)):WE (AA 2 F m) ls hd QE:=by
 obtain⟨ds,x,e,a,b,rest,as,rfl,rfl,hT,hc,hF,k⟩:=h;exact tap.call (n:=0) (c:=0) hT e hc hF k
def Qi{n:Nat}(hn:n<=33):∀a b,T 0 a b->WF EE [.mu 1,.im (.int (n:Int))] [a,b] λd x=>∃i a' b' g,d=.im i/\(∃v:Int,i=.int v/\0<=v/\v<1000000^n)/\T 0 a' b'/\x=a'::b'::g:=by
 intro a b hT;unfold EE;refine Aq rfl ?_;refine A9 (AW (A5 (A8 ?_)));refine A9 (Cw (Hy (A0 (A3 rfl (A4 ⟨(n:Int),rfl,E1 (by omega) (by omega),?_⟩)))));refine CC (λr ls hd=>∃(k:Nat) (v:Int) (z:Option D) (a b:MO),k<=n/\r=AY (k:Int) (n-k)/\0<=v/\v<1000000^k/\ls=[some (.mu 1),some (.im (.int (n:Int))),some (.im (.int v)),z]/\hd=[a,b]/\T 0 a b) ⟨0,0,none,a,b,by omega,by simp,by omega,by decide,rfl,rfl,hT⟩ ?_ ?_
 .rintro e r ls hd ⟨k,v,z,a,b,hk,er,v0,v1,rfl,rfl,hT⟩;cases q:n-k with
  |zero=>rw[q]at er;cases er
  |succ m=>
   rw[q,AY]at er;obtain⟨rfl,rfl⟩:=List.cons.inj er;refine⟨_,rfl,AW (A6 (A6 (A3 rfl (A6 (A5 (A5 (GQ (k:=6) (by decide) (Bw (by unfold BK;right;decide) ?_))))))))⟩;refine C8 (A0 (A3 rfl (A0 (A6 (A5 (A5 (GQ (k:=6) (by decide) (A4 ⟨a,b,[],1000000,rfl,rfl,hT,by decide,by decide,λr a b hT p q=>B5 ?_⟩))))))));refine⟨Bc _,k+1,_,_,a,b,by omega,by rw[show n-(k+1)=m by omega];rfl,?_,?_,rfl,rfl,hT⟩
   .have:=Int.mul_nonneg v0 (show(0:Int)<=10^6 by decide);omega
   .rw[Int.pow_succ];have h1:v*1000000+r<1000000^k*1000000:=by omega
    exact h1
 .rintro ls hd ⟨k,v,z,a,b,hk,er,v0,v1,rfl,rfl,hT⟩;have:k=n:=by
   cases q:n-k with
   |zero=>omega
   |succ m=>rw[q,AY]at er;cases er
  subst this;exact A8 (AM (A3 rfl ⟨_,a,b,[],rfl,⟨v,rfl,v0,v1⟩,hT,rfl⟩))
abbrev BB:Int:=1000000^33
def UZ{n:Nat}(h:n<=33):(1000000:Int)^n<=BB:=by
 have h1:(1000000:Nat)^n<=1000000^33:=Nat.pow_le_pow_right (by decide) h;have h2:((1000000^n:Nat):Int)=(1000000:Int)^n:=by rw[Int.natCast_pow];rfl
 have h3:((1000000^33:Nat):Int)=BB:=by decide +kernel
 rw[<- h2,<- h3];exact Int.ofNat_le.mpr h1
def IH(g:Bool):∀a b,T 0 a b->WF EF [.mu 1,.im (.bl g)] [a,b] λd x=>∃i a' b' y,d=.im i/\(∃v:Int,i=.int v/\0<=v/\v<BB)/\T 0 a' b'/\x=a'::b'::y:=by
 intro a b hT;unfold EF;refine Aq rfl ?_;have w:∀n:Nat,n<=33->∀a b,T 0 a b->WF EE [.mu 1,.im (.int (n:Int))] [a,b] λd x=>∃i a' b' g,d=.im i/\(∃v:Int,i=.int v/\0<=v/\v<BB)/\T 0 a' b'/\x=a'::b'::g:=λn hn a b hT=>(Qi hn a b hT).mono λd x ⟨i,a,b,g,e,⟨v,e1,v0,v1⟩,hT,hx⟩=>⟨i,a,b,g,e,⟨v,e1,v0,Int.lt_of_lt_of_le v1 (UZ hn)⟩,hT,hx⟩
 refine A9 (AO (AX (A3 rfl ⟨g,rfl,λ_=>?_,λ_=>AI (A8 ?_)⟩)))
 .refine AM (Dj (R:=λi=>∃v:Int,i=.int v/\0<=v/\v<BB) (A0 (A3 rfl (A0 (A5 (A4 ⟨a,b,[],[.im (.int 33)],rfl,rfl,hT,by simp,w 33 (by decide),?_⟩))))));exact λi a b hT hr=>⟨i,a,b,[],rfl,hr,hT,rfl⟩
 refine AM (Hz (AK (A6 (C8 (A0 (A3 rfl (A0 (A5 (A4 ⟨a,b,[],3,rfl,rfl,hT,by decide,by decide,λr a b hT p q=>A5 (Fo ⟨_,rfl,λ_=>?_,λ_=>?_⟩)⟩)))))))))
 .exact C8 (A0 (A3 rfl (A0 (A5 (A4 ⟨a,b,[],100,rfl,rfl,hT,by decide,by decide,λr a b hT p q=>⟨_,a,b,[],rfl,⟨r,rfl,p,Int.lt_trans q (by decide +kernel)⟩,hT,rfl⟩⟩)))))
 .refine Dj (R:=λi=>∃v:Int,i=.int v/\0<=v/\v<BB) (A0 (A3 rfl (A0 (A6 (A5 (C8 (A0 (A3 rfl (A0 (A5 (A4 ⟨a,b,[],6,rfl,rfl,hT,by decide,by decide,λr a b hT p q=>B5 ?_⟩)))))))))));obtain⟨k,rfl⟩:∃k:Nat,r=(k:Int):=⟨r.toNat,by omega⟩
  refine A4 ⟨a,b,[],[.im (.int ((1+k:Nat):Int))],rfl,rfl,hT,by simp,w (1+k) (by omega),?_⟩;exact λi a b hT hr=>⟨i,a,b,[],rfl,hr,hT,rfl⟩
def at2{r:Int}(h0:0<=r)(h1:r<2):∃s:Int,(s=1∨s=-1)/\atI [D.im (.int 1),.im (.int (-1))] r=some (.im (.int s)):=by
 obtain⟨k,rfl⟩:∃k:Nat,r=(k:Int):=⟨r.toNat,by omega⟩
 have:k<2:=by omega
 match k,this with
 |0,_=>exact⟨1,.inl rfl,rfl⟩
 |1,_=>exact⟨-1,.inr rfl,rfl⟩
def II{ls:Ls}{a b:MO}{rest:Hd}{QE:D->Hd->Prop}(h0:ls[0]?=some (some (.mu 1)))(hT:T 0 a b)(k:∀s:Int,(s=1∨s=-1)->∀a b,T 0 a b->QE (.im (.int s)) (a::b::rest)):WE (Bu (Ak (A1 (mC (.int 1)) (A1 (BD (mC (.int 1))) A7))) (AA 2 F_pick (A1 (A2 0) (A1 (mC (.int 2)) A7)))) ls (a::b::rest) QE:=by
 refine Ki (Az (A0 (A5 (A0 (BP (A5 ⟨_,rfl,A4 ⟨AF,?_⟩⟩))))));refine C8 (A0 (A3 h0 (A0 (A5 (A4 ⟨a,b,rest,2,rfl,rfl,hT,by decide,by decide,λr a b hT p q=>?_⟩)))));obtain⟨s,hs,e⟩:=at2 p q;exact⟨_,_,rfl,e,k s hs a b hT⟩
def NQ(g:Bool):∀a b,T 0 a b->WF GL [.mu 1,.im (.bl g)] [a,b] λd x=>∃i a' b' y,d=.im i/\(∃v:Int,i=.int v/\-BB<v/\v<BB)/\T 0 a' b'/\x=a'::b'::y:=by
 intro a b hT;unfold GL;refine Aq rfl (AM (A6 (Dj (R:=λi=>∃v:Int,i=.int v/\0<=v/\v<BB) (A0 (A3 rfl (A0 (A3 rfl (A4 ⟨a,b,[],[.im (.bl g)],rfl,rfl,hT,by simp,IH g,?_⟩))))))));rintro i a b hT ⟨v,rfl,v0,v1⟩;refine II rfl hT λs hs a b hT=>Bw ?_ ⟨_,a,b,[],rfl,⟨_,rfl,?_⟩,hT,rfl⟩
 .unfold BK;right;rcases hs with rfl|rfl<;>decide
 .rcases hs with rfl|rfl
  .rw[mul_one];omega
  .rw[Int.mul_neg,mul_one];omega
structure Fr(p q:Int):Prop where
 rd:Rd p q
 p1:p.natAbs<=10^198
 q1:q.natAbs<=10^198
def Nz:BB=((10^198:Nat):Int):=by decide +kernel
def F4{i:Int}(h:i.natAbs<=10^198):Sz 700 i:=lt_of_le_of_lt h (by decide +kernel)
def Hm{t u:Int}(hu:0<u)(bt:t.natAbs<=10^198)(bu:u.natAbs<=10^198):WF FN [.im (.int t),.im (.int u)] [] λd x=>∃p q,d=.im (frI p q)/\Fr p q/\p.natAbs<=t.natAbs/\q.natAbs<=u.natAbs:=by
 obtain⟨b,rfl⟩:∃b:Nat,u=(b:Int):=⟨u.toNat,by omega⟩
 obtain⟨p,q,e1,e2,rd,pe,lp,lq⟩:=red (a:=t) hu;rw[natAbs_natCast]at e1 e2 lq bu;have hs:0<Nat.gcd t.natAbs b:=Nat.gcd_pos_of_pos_right _ (by omega);have hs2:Nat.gcd t.natAbs b<=b:=Nat.gcd_le_right _ (by omega);have big:(10:Nat)^198<2^700:=by decide +kernel
 have dv:Br ((Nat.gcd t.natAbs b:Nat):Int):=Ez (by omega) (k:=700) (by unfold Sz;rw[natAbs_natCast];omega) (by decide) (by decide);unfold FN;refine Aq rfl ?_;refine A9 (AW (AS (A0 (BA (A0 (A3 rfl (A4 (WP.eq (z:=.im (.int (t.natAbs:Int))) (h:=[]) (by simp[Cl];split<;>omega) (A0 (A3 rfl (A4 ⟨by simp,(Iy (k:=700) (by decide) (by decide) (a:=t.natAbs) (b:=b) (by omega) (by omega)).mono ?_⟩)))))))))));rintro d x rfl;refine⟨_,rfl,A8 (AM (AC (A0 (A6 (A3 rfl (A3 rfl (CO dv (A0 (A6 (A3 rfl (A3 rfl (CO dv (A4 ⟨AF,p,q,?_,⟨rd,by omega,by omega⟩,lp,by omega⟩)))))))))))))⟩;rw[e1,e2];rfl
def Pv{p q:Int}(h:Fr p q)(hp:p.natAbs<10^198)(g:Bool):∀a b,T 0 a b->WF FL [.mu 1,.im (frI p q),.im (.bl g)] [a,b] λd x=>∃i a' b' y,d=.im i/\(∃p q,i=frI p q/\Fr p q)/\T 0 a' b'/\x=a'::b'::y:=by
 intro a b hT;have q0:=h.rd.q0;have h1:=h.p1;have h2:=h.q1;have bb:=Nz;unfold FL;refine Aq rfl ?_;refine A9 (AW (C8 (A0 (A3 rfl (A0 (A5 (A4 ⟨a,b,[],4,rfl,rfl,hT,by decide,by decide,λr a b hT p0 q0'=>A8 ?_⟩)))))));refine A9 (AO (AK (A6 (A3 rfl (A5 (Am ⟨_,rfl,λ_=>?_,λ_=>AI (A8 ?_)⟩))))))
 .exact AM (A3 rfl ⟨_,a,b,[],rfl,⟨p,q,rfl,h⟩,hT,rfl⟩)
 refine A9 (AO (AK (A6 (A3 rfl (A5 (Am ⟨_,rfl,λ_=>?_,λ_=>AI (A8 ?_)⟩))))))
 .refine AM (AS (A0 (A6 (A6 (A3 rfl (A5 (CB (II rfl hT λs hs a b hT=>B5 (A0 (A6 (A3 rfl (A5 (B8 (A4 ⟨by simp,(Hm (t:=p+s) q0 (by omega) h2).mono ?_⟩))))))))))))));rintro d x ⟨p',q',rfl,hf,-,-⟩;exact⟨_,rfl,_,a,b,[],rfl,⟨p',q',rfl,hf⟩,hT,rfl⟩
 refine AM (AS (A0 (Dj (R:=λi=>∃v:Int,i=.int v/\-BB<v/\v<BB) (A0 (A3 rfl (A0 (A3 rfl (A4 ⟨a,b,[],[.im (.bl g)],rfl,rfl,hT,by simp,NQ g,?_⟩))))))));rintro i a b hT ⟨v,rfl,v0,v1⟩;refine A0 (Hz (AK (A6 (A3 rfl (A5 (Am ⟨_,rfl,λ_=>?_,λ_=>?_⟩))))))
 .refine A6 (A3 rfl (A5 (B8 (A4 ⟨by simp,(Hm (t:=v) q0 (by omega) h2).mono ?_⟩))));rintro d x ⟨p',q',rfl,hf,-,-⟩;exact⟨_,rfl,_,a,b,[],rfl,⟨p',q',rfl,hf⟩,hT,rfl⟩
 .refine A6 (A5 (Dj (R:=λi=>∃v:Int,i=.int v/\0<=v/\v<BB) (A0 (A3 rfl (A0 (A3 rfl (A4 ⟨a,b,[],[.im (.bl g)],rfl,rfl,hT,by simp,IH g,?_⟩)))))));rintro i a b hT ⟨w,rfl,w0,w1⟩;refine B5 (A4 ⟨by simp,(Hm (t:=v) (u:=1+w) (by omega) (by omega) (by omega)).mono ?_⟩);rintro d x ⟨p',q',rfl,hf,-,-⟩;exact⟨_,rfl,_,a,b,[],rfl,⟨p',q',rfl,hf⟩,hT,rfl⟩
def K8{a b c d:Int}(h:Fr a b)(h':Fr c d):WF DE [.im (frI a b),.im (frI c d)] [] λe x=>e=.im (.bl true):=by
 have sa:=F4 h.p1;have sb:=F4 h.q1;have sc:=F4 h'.p1;have sd:=F4 h'.q1;have hb:=h.rd.q0;have hd:=h'.rd.q0;have s1:Sz 8000 (b*d):=(sb.mul sd).mono (by decide);unfold DE;refine Aq rfl ?_;refine A9 (Hv (AC (A0 (A3 rfl (A0 (A3 rfl (A4 ⟨AF,[some (.im (frI a b)),some (.im (frI c d)),some (.im (.int a)),some (.im (.int b)),some (.im (.int c)),some (.im (.int d))],rfl,A8 ?_⟩)))))));refine A9 (AO (Bl (AX (AS (A0 (AS (A0 (A3 rfl (A0 (A3 rfl (A4 ⟨by simp,(Sj sa sb sc sd hb hd).mono ?_⟩)))))))))));rintro e x ⟨p,q,rfl,rd,e,sp,sq⟩;refine⟨_,rfl,A0 (A6 (A6 (A3 rfl (A3 rfl (Ad (Aj sa sd) (A6 (A3 rfl (A3 rfl (Ad (Aj sc sb) (B5 (A0 (A6 (A3 rfl (A3 rfl (Ad (Aj sb sd) (A4 ⟨by simp,(CY rd e (sp.mono (by decide)) (sq.mono (by decide)) (((sa.mul sd).add (sc.mul sb)).mono (by decide)) s1).mono ?_⟩))))))))))))))))⟩;rintro e x rfl;refine⟨_,rfl,_,rfl,(λh=>by cases h),λ_=>AI (A8 ?_)⟩;refine A9 (AO (Bl (AX (AS (A0 (AS (A0 (A3 rfl (A0 (A3 rfl (A4 ⟨by simp,(Q4 sa sb sc sd hb hd).mono ?_⟩)))))))))));rintro e x ⟨p,q,rfl,rd,e,sp,sq⟩;refine⟨_,rfl,A0 (A6 (A6 (A3 rfl (A3 rfl (Ad (Aj sa sd) (A6 (A3 rfl (A3 rfl (Ad (Aj sc sb) (BO (A0 (A6 (A3 rfl (A3 rfl (Ad (Aj sb sd) (A4 ⟨by simp,(CY rd e (sp.mono (by decide)) (sq.mono (by decide)) (((sa.mul sd).sub (sc.mul sb)).mono (by decide)) s1).mono ?_⟩))))))))))))))))⟩;rintro e x rfl;refine⟨_,rfl,_,rfl,(λh=>by cases h),λ_=>AI (A8 ?_)⟩;refine AM (Cg (AK (AS (A0 (AS (A0 (A3 rfl (A0 (A3 rfl (A4 ⟨by simp,(JM sa sb sc sd hb hd).mono ?_⟩))))))))));rintro e x ⟨p,q,rfl,rd,e,sp,sq⟩;refine⟨_,rfl,A0 (A6 (A3 rfl (A3 rfl (Ad (Aj sa sc) (A0 (A6 (A3 rfl (A3 rfl (Ad (Aj sb sd) (A4 ⟨by simp,(CY rd e (sp.mono (by decide)) (sq.mono (by decide)) ((sa.mul sc).mono (by decide)) s1).mono ?_⟩))))))))))⟩;rintro e x rfl;refine⟨_,rfl,_,rfl,?_⟩;rw[if_pos rfl];refine A6 (BA (A0 (AS (A0 (A3 rfl (A0 (A3 rfl (A4 ⟨by simp,(TZ sa sb sc sd hb hd).mono ?_⟩))))))));rintro e x rfl;refine⟨_,rfl,A4 (EI (BA (A0 (A6 (AS (A0 (A3 rfl (A0 (A3 rfl (A4 ⟨by simp,(Qx hb hd sb sd sa sc).mono ?_⟩))))))))))⟩;rintro e x ⟨r,rfl,hr⟩;refine⟨_,rfl,A5 (Jr (A4 (EI (Qg ?_))))⟩;rw[show decide (r<0)=decide (a*d<c*b)from decide_eq_decide.mpr hr];simp
abbrev Th(t:Tv):Prop:=Bo (10^202) 8000 12 12 t
def Nt{i:Nat}(h:i<=10^202):i.log2<=680:=Nat.le_of_lt_succ (Hn (k:=681) (lt_of_le_of_lt h (by decide +kernel)) (by decide))
def FJ{p q:Int}(hp:p.natAbs<=10^200)(hq:q.natAbs<=10^200):Bo (10^200) 1500 1 2 (.tup [.int p,.int q]):=by
 have z:(10:Nat)^200<=10^202:=by decide +kernel
 have l1:=Nt (le_trans hp z);have l2:=Nt (le_trans hq z);refine F3 (λt ht=>?_) (by simp only[wts,An.wt];omega) (by simp[Aw,dep]) (by simp);simp only[mem_cons,not_mem_nil,or_false]at ht;rcases ht with rfl|rfl<;>simpa only[Gq]
def F9{m w dp l:Nat}{t:Tv}(h:Bo m w dp l t)(h1:m<=10^202)(h2:w<=8000)(h3:dp<=12)(h4:l<=12):Th t:=h.mono h1 h2 h3 h4
def Nw:Fr 0 1:=⟨⟨by decide,by decide⟩,by decide,by decide⟩
abbrev prD(x:Int×Int×Int×Int):D:=.im (.tup [frI x.1 x.2.1,frI x.2.2.1 x.2.2.2])
def QM{p q u:Int}(rd:Rd p q)(hu:u≠0)(e:p*u=0*q):p=0/\q=1:=by
 rw[Int.zero_mul]at e;have hp:p=0:=(Int.mul_eq_zero.mp e).resolve_right hu;subst hp;have h1:=rd.g1;have h0:=rd.q0;rw[Int.natAbs_zero,Nat.gcd_zero_left]at h1;exact⟨rfl,by omega⟩
def Og:G6 (PyData.tuple [.int 0,.int 1]):=by
 have:=Hs (m:=10) (by decide) (t:=.tup [.int 0,.int 1]) (by simp only[Gq,Gqs];decide);exact this.repr rfl (by decide) (by decide)
def Lst(g:Hd)(n:Nat)(d:D)(x:Hd):Prop:=∃a b g' k ts ds,d=.mu k/\x=a::b::(g++g')/\T 0 a b/\x[k]?=some (.lst ds)/\Iss x.length x ts ds/\ts.length<=n/\∀t∈ts,Th t
def U6{m w dp l:Nat}(h1:10^50<=m)(h2:m<=10^204)(h3:w<=100000)(h4:dp<=25){a b:MO}{g:Hd}{t:Tv}{d:D}(hT:T 0 a b)(hi:Is (a::b::g).length (a::b::g) t d)(bt:Bo m w dp l t){QE:D->Hd->Prop}(k:∀d a b g' t,T 0 a b->Is (a::b::(g++g')).length (a::b::(g++g')) t d->Bo (m+1) (2*w+400) (dp+4) (max l 2+1) t->QE d (a::b::(g++g'))):WF EG [.mu 1,d,.im (.int 2)] (a::b::g) QE:=(J5 4 2 (by decide) h1 h2 h3 h4 hT hi bt).mono (by
 rintro d x ⟨a,b,g',t,rfl,hT,hi,bo⟩;exact k d a b g' t hT hi bo)
def Ko{a b:MO}{g:Hd}(hT:T 0 a b){QE:D->Hd->Prop}(k:∀d a b g' t,T 0 a b->Is (a::b::(g++g')).length (a::b::(g++g')) t d->Bo (10^50) 200 2 2 t->QE d (a::b::(g++g'))):WF CZ [.mu 1] (a::b::g) QE:=(HD hT).mono (by
 rintro d x ⟨a,b,g',t,rfl,hT,hi,bo⟩;exact k d a b g' t hT hi bo)
set_option maxHeartbeats 1000000 in
def OY(gr:Bool){a b:MO}{g:Hd}(hT:T 0 a b):WF FK [.mu 1,.im (.bl gr)] (a::b::g) (Lst g 20):=by
 unfold FK;refine Aq rfl ?_;refine A9 (Cv (A0 (Dj (R:=λi=>∃v:Int,i=.int v/\-BB<v/\v<BB) (A0 (A3 rfl (A0 (A3 rfl (A4 ⟨a,b,g,[.im (.bl gr)],rfl,rfl,hT,by simp,NQ gr,?_⟩))))))));rintro i a b hT ⟨t,rfl,t0,t1⟩;refine A0 (A6 (A5 (Dj (R:=λi=>∃v:Int,i=.int v/\0<=v/\v<BB) (A0 (A3 rfl (A0 (A3 rfl (A4 ⟨a,b,g,[.im (.bl gr)],rfl,rfl,hT,by simp,IH gr,?_⟩))))))));rintro i a b hT ⟨u,rfl,u0,u1⟩;have bb:=Nz;refine B5 (A4 ⟨rfl,A8 ?_⟩);obtain⟨w,hw⟩:∃w,w=1+u:=⟨_,rfl⟩
 rw[<- hw];have bt:t.natAbs<10^198:=by omega
 have bw:w.natAbs<=10^198:=by omega
 have w0:0<w:=by omega
 change WS _ [some (.mu 1),some (.im (.bl gr)),some (.im (.int t)),some (.im (.int w)),none,none,none,none,none,none,none,none] _ _;refine A9 (AW (AS (A0 (A3 rfl (A0 (A3 rfl (A4 ⟨by simp,(Hm w0 (by omega) bw).mono ?_⟩)))))));rintro d x ⟨p,q,rfl,hf,lp,lq⟩;refine⟨_,rfl,A8 ?_⟩;refine A9 (AW (Dj (R:=λi=>∃p q,i=frI p q/\Fr p q) (A0 (A3 rfl (A0 (A3 rfl (A0 (A3 rfl (A4 ⟨a,b,g,[.im (frI p q),.im (.bl gr)],rfl,rfl,hT,by simp,Pv hf (by omega) gr,?_⟩)))))))));rintro i a b hT ⟨p',q',rfl,hf'⟩;refine A8 (A9 (AW (A6 (A3 rfl (II rfl hT λs hs a b hT=>Bw (by unfold BK;right;rcases hs with rfl|rfl<;>decide) (A8 ?_))))));obtain⟨v,hv⟩:∃v,v=w*s:=⟨_,rfl⟩
 rw[<- hv];have v0:v≠0:=by rw[hv];rcases hs with rfl|rfl<;>omega
 have bv:v.natAbs<=10^198:=by rw[hv];rcases hs with rfl|rfl<;>omega
 have sv:=F4 bv;refine A9 (AO (EH (Bl (AX (AS (A0 (AS (A0 (A3 rfl (A0 (A3 rfl (A4 ⟨by simp,(C6 (k:=700) (by decide) (by decide) v0 sv).mono ?_⟩))))))))))));rintro d x ⟨p1,q1,rfl,rd1,e1,lp1,lq1⟩;have sp1:Sz 8000 p1:=(F4 (le_trans lp1 (by omega))).mono (by decide);have sq1:Sz 8000 q1:=(F4 (le_trans lq1 bv)).mono (by decide);refine⟨_,rfl,A0 (A3 rfl (A0 (A3 rfl (A4 ⟨by simp,(CY rd1 e1 sp1 sq1 ((F4 (by omega)).mono (by decide)) (sv.mono (by decide))).mono ?_⟩))))⟩;rintro d x rfl;refine⟨_,rfl,_,rfl,?_⟩;rw[if_neg (by simp)];refine AK (A6 (BA (A0 (AS (A0 (A5 (A0 (A3 rfl (A4 ⟨by simp,(C6 (k:=700) (by decide) (by decide) v0 sv).mono ?_⟩)))))))));rintro d x ⟨p2,q2,rfl,rd2,e2,-,-⟩;obtain⟨rfl,rfl⟩:=QM rd2 v0 e2;refine⟨_,rfl,A4 (FU (p:=PyData.tuple [.int 0,.int 1]) (DS 30 _) Og (A5 (Hw ⟨_,rfl,(λh=>?_),λ_=>AI (A8 ?_)⟩)))⟩
 .rw[show(PyData.tuple [.int 0,.int 1]).shown=("(0, 1)":Str)from rfl]at h;simp at h
 refine A9 (Cw (Lv (AC (A0 (AC (A0 (A3 rfl (A0 (A3 rfl (A4 ⟨AF,A0 (AC (A0 (A3 rfl (A0 (A3 rfl (A4 ⟨AF,A0 (AC (A0 (A3 rfl (A0 (A3 rfl (A4 ⟨AF,A0 (AC (A0 (A3 rfl (A0 (AC (A0 (A5 (A0 (A5 (A4 ⟨AF,A4 ⟨AF,A0 (AC (A0 (AC (A0 (A5 (A0 (A5 (A4 ⟨AF,A0 (A3 rfl (A4 ⟨AF,A4 ⟨Ac (by simp),[prD (p,q,p',q'),prD (p',q',p,q),prD (p,q,p,q),prD (p,q,0,1),prD (0,1,p,q)],rfl,?_⟩⟩))⟩))))))))⟩⟩))))))))))⟩))))))⟩))))))⟩))))))))));refine CC (λr ls hd=>∃(L:List (Int×Int×Int×Int)) (z7 z8:Option D),r=L.map prD/\(∀x∈L,Fr x.1 x.2.1/\Fr x.2.2.1 x.2.2.2)/\ls=[some (.mu 1),some (.im (.bl gr)),some (.im (.int t)),some (.im (.int w)),some (.im (frI p q)),some (.im (frI p' q')),some (.im (.int v)),z7,z8,none,none,none]/\hd=a::b::g) ⟨[(p,q,p',q'),(p',q',p,q),(p,q,p,q),(p,q,0,1),(0,1,p,q)],none,none,rfl,?_,rfl,rfl⟩ ?_ ?_
 .intro x hx;simp only[mem_cons,not_mem_nil,or_false]at hx;rcases hx with rfl|rfl|rfl|rfl|rfl
  .exact⟨hf,hf'⟩
  .exact⟨hf',hf⟩
  .exact⟨hf,hf⟩
  .exact⟨hf,Nw⟩
  .exact⟨Nw,hf⟩
 .rintro d r ls hd ⟨L,z7,z8,er,hL,rfl,rfl⟩;cases L with
  |nil=>cases er
  |cons x L=>
   obtain⟨rfl,rfl⟩:=List.cons.inj er;obtain⟨x1,x2⟩:=hL x (by simp);refine⟨[some (.mu 1),some (.im (.bl gr)),some (.im (.int t)),some (.im (.int w)),some (.im (frI p q)),some (.im (frI p' q')),some (.im (.int v)),some (.im (frI x.1 x.2.1)),some (.im (frI x.2.2.1 x.2.2.2)),none,none,none],rfl,?_⟩;refine AO (Bl (AX (AS (A0 (A3 rfl (A0 (A3 rfl (A4 ⟨by simp,(K8 x1 x2).mono ?_⟩))))))));rintro d x rfl;exact⟨_,rfl,_,rfl,(λh=>by cases h),λ_=>AI ⟨Bc _,L,_,_,rfl,λy hy=>hL y (by simp[hy]),rfl,rfl⟩⟩
 rintro ls hd ⟨L,z7,z8,er,hL,rfl,rfl⟩;refine A8 (A9 (AW (A6 (A5 (C8 (A0 (A3 rfl (A0 (A5 (A4 ⟨a,b,g,98,rfl,rfl,hT,by decide,by decide,λn a b hT n0 n1=>B5 (A8 ?_)⟩))))))))));have one:∀{n:Nat} {hd:Hd},Is n hd (.tup [.int p,.int q]) (.im (frI p q)):=λ{n hd}=>CM p q
 have b198:(10:Nat)^198<=10^200:=by decide +kernel
 have b1:Bo (10^200) 1500 1 2 (.tup [.int p,.int q]):=FJ (le_trans hf.p1 b198) (le_trans hf.q1 b198);refine A9 (AW (Av (A0 (A3 rfl (A0 (A3 rfl (A0 (A5 (A4 ((J5 4 2 (by decide) (m:=10^200) (by decide +kernel) (by decide +kernel) (by decide) (by decide) hT one b1).mono ?_))))))))));rintro db x ⟨a,b,g1,tb,rfl,hT,ib,bb1⟩;obtain⟨M,hM1,hM2,hM3,bb1⟩:∃M,10^50<=M/\M<=10^204/\M+1<=10^202/\Bo M 3400 5 3 tb:=⟨10^200+1,by decide +kernel,by decide +kernel,by decide +kernel,bb1⟩
 refine A8 (A9 (AW (Ao (Az (A0 (A3 rfl (A0 (AC (A0 (A3 rfl (A0 (A3 rfl (A4 ⟨AF,A0 (AC (A0 (A6 (A3 rfl (A5 (CB (A0 (A6 (A5 (A6 (A3 rfl (A5 (B8 (BO (A4 ⟨AF,?_⟩)))))))))))))))⟩)))))))))))));refine A0 (JJ (A3 rfl (BP (A5 ⟨_,rfl,rfl,[.im (.int p),.im (.int q)],rfl,?_⟩))));refine A0 (A6 (A3 rfl (AC (A0 (A5 (A4 ⟨Be,F8 (xs:=[.im (.int p),.im (.int q)]) (ys:=[.im (.int 1)]) rfl rfl (by simp) (by simp) ?_⟩))))));refine A0 (Ao (JK (A3 rfl ⟨[.im (.int p),.im (.int q)],rfl,A0 (A3 rfl (A0 (A3 rfl (A4 ⟨Ac (by simp),A8 ?_⟩))))⟩)));generalize hE:[D.im (frI p q),_,_,_,_,_,_,_]=E;obtain⟨G,hG⟩:∃G,G=g1++[.lst [.im (.int p),.im (.int q)]]:=⟨_,rfl⟩
 have iE:∀a b y,Iss (g++G).length.succ.succ (a::b::(g++G++y)) [.tup [.int p,.int q],.tup [.int t,.int w],.tup [.int p,.int (0-q)],.tup [.int q,.int p],.tup [.int p,.int q,.int 1],.lst [.int p,.int q],tb,.tup [.int p',.int q']] E:=by
  intro a2 b2 y;rw[<- hE];refine .cons (CM _ _) (.cons (CM _ _) (.cons (CM _ _) (.cons (CM _ _) (.cons (AQ (.tup [.int p,.int q,.int 1])) (.cons ?_ (.cons ?_ (.one (CM _ _))))))))
  .simp only[Is];refine⟨_,[.im (.int p),.im (.int q)],rfl,by simp,by rw[hG];simp,by rw[hG];simp,.cons (by simp only[Is]) (.one (by simp only[Is]))⟩
  .have:=keep (g':=[.lst [.im (.int p),.im (.int q)]]++y) (a':=a2) (b':=b2) (le_refl _) ib;rw[hG];refine EJ (by simp) (?_:Is (a::b::(g++g1)).length _ tb db);simpa using this
 have hq:=hf.q1;have bE:∀t'∈[Tv.tup [.int p,.int q],.tup [.int t,.int w],.tup [.int p,.int (0-q)],.tup [.int q,.int p],.tup [.int p,.int q,.int 1],.lst [.int p,.int q],tb,.tup [.int p',.int q']],Th t':=by
  have pr:∀x y:Int,x.natAbs<=10^198->y.natAbs<=10^198->Th (.tup [.int x,.int y]):=λx y hx hy=>F9 (FJ (le_trans hx b198) (le_trans hy b198)) (by decide +kernel) (by decide) (by decide) (by decide);obtain⟨q1',q2',q3',q4'⟩:=b1.tup;intro t' ht;simp only[mem_cons,not_mem_nil,or_false]at ht;rcases ht with rfl|rfl|rfl|rfl|rfl|rfl|rfl|rfl
  .exact pr _ _ hf.p1 hf.q1
  .exact pr _ _ (by omega) bw
  .exact pr _ _ hf.p1 (by omega)
  .exact pr _ _ hf.q1 hf.p1
  .refine F3 (λz hz=>?_) ?_ (by simp[Aw,dep]) (by simp)
   .simp only[mem_cons,not_mem_nil,or_false]at hz;rcases hz with rfl|rfl|rfl
    .exact(q1' _ (by simp)).mono (by decide +kernel)
    .exact(q1' _ (by simp)).mono (by decide +kernel)
    .simp only[Gq];decide +kernel
   .simp only[wts,An.wt]at q2' ⊢;have:Nat.log2 (Int.natAbs 1)=0:=by decide
    omega
  .exact J4 (λz hz=>(q1' z hz).mono (by decide +kernel)) (by omega) (by omega) (by simp)
  .exact F9 bb1 (le_trans (Nat.le_succ M) hM3) (by decide) (by decide) (by decide)
  .exact pr _ _ hf'.p1 hf'.q1
 have eh:a::b::(g++g1)++[.lst [.im (.int p),.im (.int q)]]=a::b::(g++G):=by rw[hG];simp
 rw[eh];generalize hTs:[Tv.tup [.int p,.int q],.tup [.int t,.int w],.tup [.int p,.int (0-q)],.tup [.int q,.int p],.tup [.int p,.int q,.int 1],.lst [.int p,.int q],tb,.tup [.int p',.int q']]=TS at iE bE;have lTs:TS.length=8:=by rw[<- hTs];rfl
 clear hTs hE;have lE:E.length=8:=by rw[(iE a b []).len,lTs]
 obtain⟨n0,hn0⟩:∃n0,n0=(a::b::(g++G)).length:=⟨_,rfl⟩
 have en0:(g++G).length.succ.succ=n0:=by rw[hn0];rfl
 rw[en0]at iE;have n2:2<=n0:=by rw[hn0];simp
 rw[<- hn0];change WS _ [some (.mu 1),some (.im (.bl gr)),some (.im (.int t)),some (.im (.int w)),some (.im (frI p q)),some (.im (frI p' q')),some (.im (.int v)),z7,z8,some (.im (.int (2+n))),some db,some (.mu n0)] (a::b::(g++G)++[.lst E]) _;refine A9 (WP.mono (Q:=λ(fl:Fl) (x:Hd)=>fl=.nx [some (.mu 1),some (.im (.bl gr)),some (.im (.int t)),some (.im (.int w)),some (.im (frI p q)),some (.im (frI p' q')),some (.im (.int v)),z7,z8,some (.im (.int (2+n))),some db,some (.mu n0)]/\∃ts ds,x=a::b::(g++G++[.lst ds])/\(∀a b y,Iss n0 (a::b::(g++G++y)) ts ds)/\ts.length<=9/\∀t∈ts,Th t) ?_ ?_)
 .refine AO (Bl (AX (A3 rfl ⟨gr,rfl,λ_=>?_,λ_=>AI ⟨rfl,TS,E,rfl,iE,by omega,bE⟩⟩)));refine JI (NO (A3 rfl ⟨⟨E,by rw[hn0];simp⟩,A0 (AC (A0 (A6 (A6 (A3 rfl (A5 (CB (A3 rfl (Bw (by unfold BK;right;omega) (A0 (A6 (A6 (A3 rfl (A5 (B8 (A3 rfl (Bw (by unfold BK;right;omega) (A4 ⟨AF,A4 (Kh (ds:=E) (by rw[hn0];simp) (Fi (by omega)) ?_)⟩))))))))))))))))))⟩));refine⟨rfl,TS++[.tup [.int (p*(2+n)),.int (q*(2+n))]],E++[.im (frI (p*(2+n)) (q*(2+n)))],?_,λa b y=>(iE a b y).app (.one (CM _ _)),by simp;omega,λx hx=>?_⟩
  .rw[hn0,List.set_append_right _ _ (le_refl _),Nat.sub_self];rfl
  .rcases mem_append.mp hx with hx|hx
   .exact bE x hx
   .rw[mem_singleton]at hx;subst hx;have m:∀y:Int,y.natAbs<=10^198->(y*(2+n)).natAbs<=10^200:=λy hy=>by
     rw[Int.natAbs_mul];have h1:(2+n).natAbs<=100:=by omega
     exact le_trans (Nat.mul_le_mul hy h1) (by decide +kernel)
    exact F9 (FJ (m p hf.p1) (m q hf.q1)) (by decide +kernel) (by decide) (by decide) (by decide)
 rintro fl x ⟨rfl,ts,ds,rfl,is,lts,bts⟩;have i1:Is (a::b::(g++G++[.lst ds])).length (a::b::(g++G++[.lst ds])) tb db:=by
  have:=keep (g':=[.lst [.im (.int p),.im (.int q)]]++[.lst ds]) (a':=a) (b':=b) (le_refl _) ib;rw[hG];refine EJ (by simp) (?_:Is (a::b::(g++g1)).length _ tb db);simpa using this
 refine A8 (AM (Ao (Dx (A3 rfl (Ao (Az (A0 ?_)))))));refine Av ?_;refine A0 (A3 rfl ?_);refine A0 (A3 rfl ?_);refine A0 (A5 ?_);refine A4 ?_;have hb:=@U6 M 3400 5 3 hM1 hM2 (by decide) (by decide) a b (g++G++[.lst ds]) tb db hT i1 bb1;refine hb ?_;intro d1 a b g2 t2 hT i2 b2;have hz:=@Ko a b (g++G++[.lst ds]++g2) hT;refine A0 (Av (A0 (A3 rfl (A4 ?_))));refine hz ?_;intro d2 a b g3 t3 hT i3 b3;refine A4 ⟨AF,n0,_,ds,[d1,d2],rfl,rfl,?_,?_,?_,?_⟩
 .rw[hn0];simp
 .simp
 .have:=(is a b []).len;exact Ac (by simp;omega)
 .refine⟨a,b,G++[.lst ds]++g2++g3++[.lst [d1,d2]]++[.lst (ds++[d1,d2])],_,ts++[t2,t3],ds++[d1,d2],rfl,by simp,hT,by simp,?_,by simp;omega,?_⟩
  .have h1:=is a b ([.lst ds]++g2++g3++[.lst [d1,d2]]++[.lst (ds++[d1,d2])]);have h2:=keep (g':=g3++[.lst [d1,d2]]++[.lst (ds++[d1,d2])]) (a':=a) (b':=b) (le_refl _) i2;have h3:=GZ (g:=[.lst [d1,d2]]++[.lst (ds++[d1,d2])]) (le_refl _) i3;refine Iss.app (Dy (n:=n0) (by rw[hn0];simp) ?_) (.cons (EJ (n:=(a::b::(g++G++[.lst ds]++g2)).length) (by simp) ?_) (.one (EJ (n:=(a::b::(g++G++[.lst ds]++g2++g3)).length) (by simp) ?_)))
   .simpa using h1
   .simpa using h2
   .simpa using h3
  .intro z hz;rcases mem_append.mp hz with hz|hz
   .exact bts z hz
   .simp only[mem_cons,not_mem_nil,or_false]at hz;rcases hz with rfl|rfl
    .exact F9 b2 hM3 (by decide) (by decide) (by decide)
    .exact F9 b3 (by decide +kernel) (by decide) (by decide) (by decide)
def svl{h:Hd}{q:Nat}{ds:List D}(e:h[q]?=some (.lst ds)):Ap h (.mu q)=some ds:=by rw[NS,Nr,e]
def fb:Nat->Nat->Nat->Nat
 |0,a,_=>a
 |n+1,a,b=>fb n b (a+b)
theorem LY:∀(n a b:Nat),fb (n+2) a b=fb n a b+fb (n+1) a b
 |0,a,b=>by simp[fb]
 |n+1,a,b=>by
  show fb (n+2) b (a+b)=fb n b (a+b)+fb (n+1) b (a+b);exact LY n b (a+b)
def fib(n:Nat):Int:=(fb n 0 1:Nat)
def Je(n:Nat):fib (n+2)=fib n+fib (n+1):=by
 unfold fib;rw[LY];omega
def BH(k:Nat):List D:=(List.range k).map λi=>D.im (.int (fib i))
def OX(k:Nat):(BH k).length=k:=by simp[BH]
def GV(k:Nat):BH (k+2)=BH k++[.im (.int (fib k)),.im (.int (fib (k+1)))]:=by
 unfold BH;rw[List.range_succ,List.range_succ];simp
def OW(k:Nat):BH (k+1)=BH k++[.im (.int (fib k))]:=by
 unfold BH;rw[List.range_succ];simp
def RW{n k:Nat}(h:k<n):atI (BH n) (k:Int)=some (.im (.int (fib k))):=F5 rfl (by simp[BH,h])
def V2(xs:List D)(u v:D):atI (xs++[u,v]) (-2)=some u:=by
 have e:ixN (xs++[u,v]).length (-2)=some xs.length:=by
  unfold ixN;rw[show(xs++[u,v]).length=xs.length+2 by simp,if_neg (by decide),if_pos (by omega)]
  congr 1
  omega
 unfold atI;rw[e];simp
def V3(xs:List D)(u v:D):atI (xs++[u,v]) (-1)=some v:=by
 rw[show xs++[u,v]=(xs++[u])++[v] by simp];exact NJ _ _
structure Nums(A B C E G:Int)(N M:Int):Prop where
 e1:A*E=N
 e2:B*G=M
 b0:0<B
 g0:0<G
 sA:Sz 700 A
 sB:Sz 700 B
 sE:Sz 700 E
 sG:Sz 700 G
 sN:Sz 8000 N
 sM:Sz 8000 M
 eC:M/B=G
def VL:Nums (fib 715) (fib 477) 0 (fib 714+fib 716) (fib 1431/fib 477) (fib 1430) (fib 1431):=⟨by decide +kernel,by decide +kernel,by decide +kernel,by decide +kernel,by decide +kernel,by decide +kernel,by decide +kernel,by decide +kernel,by decide +kernel,by decide +kernel,rfl⟩
def ID{a b c d N M:Int}(sa:Sz 700 a)(sb:Sz 700 b)(sc:Sz 700 c)(sd:Sz 700 d)(hb:0<b)(hd:0<d)(e1:a*c=N)(e2:b*d=M)(sN:Sz 8000 N)(sM:Sz 8000 M){QE:D->Hd->Prop}{ls:Ls}{hd':Hd}{mx my mn mm:ME}(hx:WE mx ls hd' λd' x=>d'=.im (frI a b)/\x=hd')(hy:WE my ls hd' λd' x=>d'=.im (frI c d)/\x=hd')(hn:WE mn ls hd' λd' x=>d'=.im (.int N)/\x=hd')(hm:WE mm ls hd' λd' x=>d'=.im (.int M)/\x=hd')(q:QE (.im (.bl true)) hd'):WE (AA 0 BF (A1 (AA 0 Cn (A1 mx (A1 my A7))) (A1 mn (A1 mm A7)))) ls hd' QE:=by
 refine AS (A0 (AS (A0 (hx.mono ?_))));rintro _ _ ⟨rfl,rfl⟩;refine A0 (hy.mono ?_);rintro _ _ ⟨rfl,rfl⟩;refine A4 ⟨by simp,(JM sa sb sc sd hb hd).mono ?_⟩;rintro e x ⟨p,q,rfl,rd,e,sp,sq⟩;refine⟨_,rfl,A0 (hn.mono ?_)⟩;rintro _ _ ⟨rfl,rfl⟩;refine A0 (hm.mono ?_);rintro _ _ ⟨rfl,rfl⟩;rw[e1,e2]at e;refine A4 ⟨by simp,(CY rd e (sp.mono (by decide)) (sq.mono (by decide)) sN sM).mono ?_⟩;rintro e x rfl;exact⟨_,rfl,q⟩
def long_w:WF Ce [] [] λd x=>d=.im (.bl true):=by
 unfold Ce;refine Aq rfl ?_;refine A9 (AW (Ao (Az (A0 (A5 (A0 (A5 (A4 ⟨AF,A8 ?_⟩))))))));refine A9 (Cw (Hy (A0 (A5 (A4 ⟨1430,rfl,E1 (by decide) (by decide),?_⟩)))));refine CC (λr ls hd=>∃(k:Nat) (z:Option D),k<=1430/\r=AY (k:Int) (1430-k)/\ls=[some (.mu 0),z,none,none,none,none]/\hd=[.lst (BH (k+2))]) ⟨0,none,by decide,rfl,rfl,by rw[GV];rfl⟩ ?_ ?_
 .rintro d r ls hd ⟨k,z,hk,er,rfl,rfl⟩;cases q:1430-k with
  |zero=>rw[q]at er;cases er
  |succ m=>
   rw[q,AY]at er;obtain⟨rfl,rfl⟩:=List.cons.inj er;refine⟨_,rfl,?_⟩;refine JI (NO (A3 rfl ⟨⟨BH (k+2),rfl⟩,A0 (A6 (A6 (A3 rfl (BP (A5 ⟨_,rfl,Co (ds:=BH (k+2)) (svl rfl) (by rw[GV];exact V2 _ _ _) (A6 (A3 rfl (BP (A5 ⟨_,rfl,Co (ds:=BH (k+2)) (svl rfl) (by rw[GV];exact V3 _ _ _) (B5 (A4 (Kh (ds:=BH (k+2)) rfl (Fi (by rw[OX];omega)) ?_)))⟩))))⟩)))))⟩));refine⟨Bc _,k+1,_,by omega,by rw[show 1430-(k+1)=m by omega];rfl,rfl,?_⟩;rw[<- Je,<- OW];rfl
 rintro ls hd ⟨k,z,hk,er,rfl,rfl⟩;have hk2:k=1430:=by
  cases q:1430-k with
  |zero=>omega
  |succ m=>rw[q,AY]at er;cases er
 subst hk2;have N:=VL;have dB:Br (fib 477):=Ez N.b0 N.sB (by decide) (by decide);have at':∀{k:Nat},k<1432->∀{QE:D->Hd->Prop},QE (.im (.int (fib k))) [.lst (BH 1432)]->WP (gIx (.mu 0) (.im (.int (k:Int))) [.lst (BH 1432)]) QE:=λ{k} hk QE q=>Co (ds:=BH 1432) (svl rfl) (RW hk) q
 refine A8 (A9 (Cv (A0 (AC (A0 (A6 (A3 rfl (A5 (at' (k:=715) (by decide) (A0 (A6 (A3 rfl (A5 (at' (k:=477) (by decide) (A4 ⟨AF,?_⟩)))))))))))))));refine A0 (AC (A0 (A6 (A6 (A3 rfl (A5 (at' (k:=714) (by decide) (A6 (A3 rfl (A5 (at' (k:=716) (by decide) (B5 (A0 (A6 (A6 (A3 rfl (A5 (at' (k:=1431) (by decide) (A6 (A3 rfl (A5 (at' (k:=477) (by decide) (CO dB (A4 ⟨AF,A4 ⟨rfl,A8 ?_⟩⟩))))))))))))))))))))))));have l30:∀{ls:Ls},ls[0]?=some (some (.mu 0))->WE (mOp gIx (A2 0) (mC (.int 1430))) ls [.lst (BH 1432)] λd' x=>d'=.im (.int (fib 1430))/\x=[.lst (BH 1432)]:=λh=>A6 (A3 h (A5 (at' (k:=1430) (by decide) ⟨rfl,rfl⟩)));have l31:∀{ls:Ls},ls[0]?=some (some (.mu 0))->WE (mOp gIx (A2 0) (mC (.int 1431))) ls [.lst (BH 1432)] λd' x=>d'=.im (.int (fib 1431))/\x=[.lst (BH 1432)]:=λh=>A6 (A3 h (A5 (at' (k:=1431) (by decide) ⟨rfl,rfl⟩)));generalize fib 715=A at *;generalize fib 477=B at *;generalize fib 714+fib 716=E at *;generalize fib 1431/B=G at *;generalize fib 1430=NN at *;generalize fib 1431=MM at *;change WS _ [some (.mu 0),z,some (.im (frI A B)),some (.im (frI E G)),none,none] _ _;refine A9 (Cw (Lv (AC (A0 (AC (A0 (A3 rfl (A0 (A3 rfl (A4 ⟨AF,A0 (AC (A0 (A3 rfl (A0 (A3 rfl (A4 ⟨AF,A4 ⟨AF,[prD (A,B,E,G),prD (E,G,A,B)],rfl,?_⟩⟩))))))⟩))))))))));refine CC (λr ls hd=>∃(L:List (Int×Int×Int×Int)) (z4 z5:Option D),r=L.map prD/\(∀x∈L,x=(A,B,E,G)∨x=(E,G,A,B))/\ls=[some (.mu 0),z,some (.im (frI A B)),some (.im (frI E G)),z4,z5]/\hd=[.lst (BH 1432)]) ⟨[(A,B,E,G),(E,G,A,B)],none,none,rfl,(λx hx=>by simpa using hx),rfl,rfl⟩ ?_ ?_
 .rintro d r ls hd ⟨L,z4,z5,er,hL,rfl,rfl⟩;cases L with
  |nil=>cases er
  |cons x L=>
   obtain⟨rfl,rfl⟩:=List.cons.inj er;refine⟨[some (.mu 0),z,some (.im (frI A B)),some (.im (frI E G)),some (.im (frI x.1 x.2.1)),some (.im (frI x.2.2.1 x.2.2.2))],rfl,?_⟩;have ok:∀{QE:D->Hd->Prop},QE (.im (.bl true)) [.lst (BH 1432)]->WE (AA 0 BF (A1 (AA 0 Cn (A1 (A2 4) (A1 (A2 5) A7))) (A1 (mOp gIx (A2 0) (mC (.int 1430))) (A1 (mOp gIx (A2 0) (mC (.int 1431))) A7)))) [some (.mu 0),z,some (.im (frI A B)),some (.im (frI E G)),some (.im (frI x.1 x.2.1)),some (.im (frI x.2.2.1 x.2.2.2))] [.lst (BH 1432)] QE:=λq=>by
    rcases hL x (by simp)with rfl|rfl
    .exact ID N.sA N.sB N.sE N.sG N.b0 N.g0 N.e1 N.e2 N.sN N.sM (A3 rfl ⟨rfl,rfl⟩) (A3 rfl ⟨rfl,rfl⟩) (l30 rfl) (l31 rfl) q
    .exact ID N.sE N.sG N.sA N.sB N.g0 N.b0 (by rw[Int.mul_comm];exact N.e1) (by rw[Int.mul_comm];exact N.e2) N.sN N.sM (A3 rfl ⟨rfl,rfl⟩) (A3 rfl ⟨rfl,rfl⟩) (l30 rfl) (l31 rfl) q
   exact AO (Bl (AX (ok ⟨_,rfl,(λh=>by cases h),λ_=>AI ⟨Bc _,L,_,_,rfl,λy hy=>hL y (by simp[hy]),rfl,rfl⟩⟩)))
 .rintro ls hd ⟨L,z4,z5,er,hL,rfl,rfl⟩;exact A8 (AM (A5 rfl))
def JW{d:D}{hd:Hd}(h:∀i,d=.im i->∃is,i=.tup is):C1 [d] hd=Cc [d] hd:=by
 cases d with
 |im i=>obtain⟨is,rfl⟩:=h i rfl;rfl
 |_=>rfl
def rT:Tv->Str
 |.non=>"None"
 |.bl b=>if b then "True" else "False"
 |.int i=>toString i
 |.str x=>reprText x
 |t=>(pyT t).shown
def NL{N:Nat}{hd:Hd}{t:Tv}{d:D}{QE:D->Hd->Prop}(hi:Is N hd t d)(h:Th t)(q:QE (.im (.str (rT t))) hd):WP (C1 [d] hd) QE:=by
 have ok:=Hs (m:=10^202) (by decide) h.gd;have hw:=h.wt;have hp:=h.dp;cases t with
 |non=>simp only[Is]at hi;subst hi;exact⟨_,_,rfl,q⟩
 |bl b=>simp only[Is]at hi;subst hi;exact⟨_,_,rfl,q⟩
 |int i=>
  simp only[Is]at hi;subst hi;have:=ok.sh;simp only[pyT,PyData.showable]at this;have h:i.natAbs.log2<1920:=of_decide_eq_true this;exact⟨_,_,by show Ex [.im (.int i)] hd=_;unfold Ex;exact if_pos h,q⟩
 |str x=>
  simp only[Is]at hi;subst hi;have hs:(reprText x).length<=sizeLine:=by
   have:=PyData.shown_le 250 (by decide) (pyT (.str x)) (PyData.leavesShort_of_canLay0 250 _ ok.lay ok.it);have hw2:=ok.wt;rw[sizeLine_eq];simp only[pyT,PyData.shown]at this hw2;omega
  exact⟨_,_,if_pos hs,q⟩
 |tup ts=>
  have e:C1 [d] hd=Cc [d] hd:=JW λi ei=>by
   subst ei;simp only[Is]at hi;obtain⟨ds,e,_⟩:=hi;unfold AV at e;cases z:B4 ds with
   |none=>rw[z]at e;cases e
   |some is=>rw[z]at e;cases e;exact⟨_,rfl⟩
  rw[e];exact FU (hi.pyN (by omega)) (ok.repr rfl (by omega) (by omega)) q
 |lst ts=>
  have e:C1 [d] hd=Cc [d] hd:=JW λi ei=>by
   subst ei;simp only[Is]at hi;obtain⟨k,ds,e,_⟩:=hi;cases e
  rw[e];exact FU (hi.pyN (by omega)) (ok.repr rfl (by omega) (by omega)) q
mutual
def gqB:Tv->Bool
 |.non=>true
 |.bl _=>true
 |.int i=>decide (i.natAbs<=1000)
 |.str x=>x.cps.toList.all λc=>decide (c<128)
 |.tup ts=>Ii ts
 |.lst ts=>Ii ts
def Ii:List Tv->Bool
 |[]=>true
 |t::ts=>gqB t&&Ii ts
end
mutual
theorem LV{m:Nat}(hm:1000<=m):∀{t:Tv},gqB t=true->Gq m t
 |.non,_=>trivial
 |.bl _,_=>trivial
 |.int i,h=>by simp only[gqB,decide_eq_true_eq]at h;simp only[Gq];omega
 |.str x,h=>by
  simp only[gqB,all_eq_true,decide_eq_true_eq]at h;simp only[Gq];exact h
 |.tup ts,h=>by simp only[gqB]at h;simp only[Gq];exact Gp hm h
 |.lst ts,h=>by simp only[gqB]at h;simp only[Gq];exact Gp hm h
theorem Gp{m:Nat}(hm:1000<=m):∀{ts:List Tv},Ii ts=true->Gqs m ts
 |[],_=>trivial
 |t::ts,h=>by
  simp only[Ii,Bool.and_eq_true]at h;simp only[Gqs];exact⟨LV hm h.1,Gp hm h.2⟩
end
def thB(t:Tv):Bool:=gqB t&&(decide (wt t<=8000)&&(decide (dep t<=12)&&decide (tl t<=12)))
def Qq{ts:List Tv}(h:ts.all thB=true):∀t∈ts,Th t:=λt ht=>by
 have:=all_eq_true.mp h t ht;simp only[thB,Bool.and_eq_true,decide_eq_true_eq]at this;exact⟨LV (by decide +kernel) this.1,this.2.1,this.2.2.1,this.2.2.2⟩
abbrev IA:List I:=[.tup [.int 0,.int 1],.tup [.int 0,.int 2],.tup [.int 0,.int (-1)],.tup [.int 0,.int 0],.tup [.int 1,.int 0],.tup [.int 1,.int 1],.tup [.int (-1),.int 1],.tup [.int 1,.int (-1)],.tup [.int 2,.int 4],.tup [.int 9,.int 3],.tup [.int (-6),.int 4],.tup [.bl true,.int 1],.tup []]
abbrev IB:List I:=[.tup [.int 1,.bl true],.tup [.bl false,.int 1],.tup [.int 0,.bl true],.tup [.non,.int 1],.tup [.int 1,.non],.tup [.str "1",.int 1],.tup [.int 1,.str "2"],.tup [.tup [.int 1,.int 2],.int 3],.tup [.int 1],.int 0]
abbrev TC:List Tv:=[.tup [.int 1,.int 2,.int 3],.lst [.int 1,.int 2],.non,.int 1,.bl true,.str "1/2",.tup [.int 1,.tup [.int 2]],.tup [.lst [.int 1],.int 2]]
def Qd:(Dm IA++Dm IB++TC).all thB=true:=by decide +kernel
structure St(n:Nat)(a b:MO)(g:Hd)(k:Nat)(ts:List Tv)(ds:List D):Prop where
 hT:T 0 a b
 k2:2<=k
 at':(a::b::g)[k]?=some (.lst ds)
 is:Iss (a::b::g).length (a::b::g) ts ds
 ln:ts.length<=n
 th:∀t∈ts,Th t
def St.cat{n m:Nat}{a b a' b':MO}{g g':Hd}{k k':Nat}{ts ts':List Tv}{ds ds':List D}(s:St n a b g k ts ds)(hn:n+m<=1000)(hT:T 0 a' b')(e2:(a'::b'::(g++g'))[k']?=some (.lst ds'))(i2:Iss (a'::b'::(g++g')).length (a'::b'::(g++g')) ts' ds')(l2:ts'.length<=m)(t2:∀t∈ts',Th t):(a'::b'::(g++g'))[k]?=some (.lst ds)/\BW (ds.length+ds'.length)/\St (n+m) a' b' (g++g'++[.lst (ds++ds')]) (a'::b'::(g++g')).length (ts++ts') (ds++ds'):=by
 have hk:k<(a::b::g).length:=(List.getElem?_eq_some_iff.mp s.at').1;have l:=s.ln;have e1:(a'::b'::(g++g'))[k]?=some (.lst ds):=by
  obtain⟨j,rfl⟩:∃j,k=j+2:=⟨k-2,by have:=s.k2;omega⟩
  have:=s.at';simp only[List.getElem?_cons_succ]at this ⊢;rw[List.getElem?_append_left (by simp at hk;omega)];exact this
 refine⟨e1,Ac (by have:=s.is.len;have:=i2.len;omega),hT,by simp,by simp,?_,by simp;omega,λt ht=>?_⟩
 .have h1:=keeps (g':=g'++[.lst (ds++ds')]) (a':=a') (b':=b') (le_refl _) s.is;have h2:=FX (g:=[.lst (ds++ds')]) (le_refl _) i2;refine(Dy (n:=(a::b::g).length) (by simp) ?_).app (Dy (n:=(a'::b'::(g++g')).length) (by simp) ?_)
  .simpa using h1
  .simpa using h2
 .rcases mem_append.mp ht with q|q
  .exact s.th t q
  .exact t2 t q
def two{a b a' b':MO}{rest:Hd}{k:Nat}(h:2<=k):(a'::b'::rest)[k]?=(a::b::rest)[k]? := by
 obtain⟨j,rfl⟩:∃j,k=j+2:=⟨k-2,by omega⟩
 rfl
def LX:(fib 941).natAbs<=10^199/\(fib 942).natAbs<=10^199/\0<fib 942:=⟨by decide +kernel,by decide +kernel,by decide +kernel⟩
abbrev dC:List D:=[.im (.tup [.int 1,.int 2,.int 3]),.mu 5,.im .non,.im (.int 1),.im (.bl true),.im (.str "1/2"),.im (.tup [.int 1,.tup [.int 2]]),AV [.mu 6,.im (.int 2)]]
abbrev G5:Hd:=[.lst (IA.map D.im),.lst (IB.map D.im),.lst (IA.map D.im++IB.map D.im),.lst [.im (.int 1),.im (.int 2)],.lst [.im (.int 1)]]
abbrev G0:Hd:=[.lst (IA.map D.im),.lst (IB.map D.im),.lst (IA.map D.im++IB.map D.im),.lst [.im (.int 1),.im (.int 2)],.lst [.im (.int 1)],.lst dC,.lst (IA.map D.im++IB.map D.im++dC)]
def UA{a b:MO}:Iss (a::b::G5).length (a::b::G5) TC dC:=by
 refine .cons (AQ (.tup [.int 1,.int 2,.int 3])) (.cons ?_ (.cons (AQ .non) (.cons (AQ (.int 1)) (.cons (AQ (.bl true)) (.cons (AQ (.str "1/2")) (.cons (AQ (.tup [.int 1,.tup [.int 2]])) (.one (Iss.tup (.cons ?_ (.one (AQ (.int 2))))))))))))
 .simp only[Is];exact⟨5,_,rfl,by decide,by simp,rfl,.cons (AQ (.int 1)) (.one (AQ (.int 2)))⟩
 .simp only[Is];exact⟨6,_,rfl,by decide,by simp,rfl,.one (AQ (.int 1))⟩
def V4{n:Nat}{hd:Hd}{t:Tv}{d:D}(hi:Is n hd t d)(ht:Th t){q0 q1 q2 q3 q4 q5 q6 q7 q9:Option D}:
 WS (AB (AR 9 (mCB C1 (A1 (A2 8) A7)))
 (Ai (mOr (AE (mOp gNe (mCB C0 (A1 (Ag Bp (A1 (A2 8) A7)) A7)) (mCB C0 (A1 (Ag BN (A1 (A2 8) A7)) A7)))) (AE (mOp gNe (mCB C1 (A1 (A2 8) A7)) (A2 9))))
  (AJ (mC (.bl false)))
  Ab)) [q0,q1,q2,q3,q4,q5,q6,q7,some d,q9] hd λf x=>∃z9,f=.nx [q0,q1,q2,q3,q4,q5,q6,q7,some d,z9]/\x=hd:=by
 refine A9 (AW (BA (A0 (A3 rfl (A4 (NL hi ht (A8 ?_)))))));refine AO (EH (AK (A6 (BA (A0 (Av (A0 (A3 rfl (A4 ((Tg hi).mono ?_))))))))));rintro _ _ ⟨rfl,rfl⟩;refine A4 (EI (BA (A0 (Av (A0 (A3 rfl (A4 ((Jb (m:=10^202) (by decide +kernel) hi ht.gd).mono ?_))))))));rintro _ _ ⟨rfl,rfl⟩;refine A4 (EI (Hw ⟨_,rfl,?_⟩));rw[if_neg (by simp)];exact AK (A6 (BA (A0 (A3 rfl (A4 (NL hi ht (A3 rfl (Hw ⟨_,rfl,(λh=>by simp at h),λ_=>AI ⟨_,rfl,rfl⟩⟩))))))))
def Uq(ns:List Int):WF HR [.ro ns] [] λd x=>d=.im (.bl true):=by
 unfold HR;refine Aq rfl ?_;obtain⟨τ,et⟩:=OF ns;refine A9 (AW (Av (A0 (A3 rfl (A4 (WP.eq (Tm ▸ et) (A8 ?_)))))));have hT:∀a b,tp τ=[a,b]->T 0 a b:=λa b e=>⟨τ,e⟩
 obtain⟨a,b,etp⟩:∃a b,tp τ=[a,b]:=⟨_,_,rfl⟩
 have hT:=hT a b etp;rw[etp];clear et;refine A9 (AW (Ao (Az (A0 (AC (A0 (A5 (A0 (A5 (A4 ⟨AF,A0 (AC (A0 (A5 (A0 (A5 (A4 ⟨AF,A0 (AC (A0 (A5 (A0 (BP (A5 ⟨_,rfl,A4 ⟨AF,A0 (AC (A0 (A5 (A0 (A5 (A4 ⟨AF,A0 (AC (A0 (A5 (A0 (A5 (A4 ⟨AF,A0 (AC (A0 (A5 (A0 (A5 (A4 ⟨AF,A0 (AC (A0 (BP (A5 ⟨_,rfl,A0 (A5 (A4 ⟨AF,A0 (AC (A0 (A5 (A0 (BP (A5 ⟨_,rfl,A4 ⟨AF,A0 (AC (A0 (A5 (A0 (A5 (A4 ⟨AF,A0 (AC (A0 (A5 (A0 (A5 (A4 ⟨AF,A0 (AC (A0 (BP (A5 ⟨_,rfl,A0 (A5 (A4 ⟨AF,A0 (AC (A0 (A5 (A0 (A5 (A4 ⟨AF,A0 (AC (A4 ⟨Ew,A4 ⟨Ac (by simp),A8 ?_⟩⟩))⟩))))))⟩))⟩))))⟩))))))⟩))))))⟩⟩))))))⟩))⟩))))⟩))))))⟩))))))⟩))))))⟩⟩))))))⟩))))))⟩))))))))));change WS _ [some (.ro ns),some (.mu 1),some (.mu 2),none,none,none,none,none,none,none] [a,b,.lst (IA.map D.im)] _;refine A9 (AW (Ao (Dx (A3 rfl (Ao (Az (A0 (AC (A0 (A5 (A0 (A5 (A4 ⟨AF,A0 (AC (A0 (A5 (A0 (A5 (A4 ⟨AF,A0 (AC (A0 (A5 (A0 (A5 (A4 ⟨AF,A0 (AC (A0 (A5 (A0 (A5 (A4 ⟨AF,A0 (AC (A0 (A5 (A0 (A5 (A4 ⟨AF,A0 (AC (A0 (A5 (A0 (A5 (A4 ⟨AF,A0 (AC (A0 (A5 (A0 (A5 (A4 ⟨AF,A0 (AC (A0 (AC (A0 (A5 (A0 (A5 (A4 ⟨AF,A0 (A5 (A4 ⟨AF,A0 (AC (A0 (A5 (A4 ⟨Be,A0 (A5 (A4 ⟨Ac (by simp),2,3,IA.map D.im,IB.map D.im,rfl,rfl,rfl,rfl,Ac (by simp),A8 ?_⟩))⟩))))⟩))⟩))))))))⟩))))))⟩))))))⟩))))))⟩))))))⟩))))))⟩))))))⟩)))))))))))));change WS _ [some (.ro ns),some (.mu 1),some (.mu 4),none,none,none,none,none,none,none] [a,b,.lst (IA.map D.im),.lst (IB.map D.im),.lst (IA.map D.im++IB.map D.im)] _;refine A9 (AW (Ao (Dx (A3 rfl (Ao (Az (A0 (AC (A0 (A5 (A0 (A5 (A0 (A5 (A4 ⟨LW,A0 (Ao (Az (A0 (A5 (A0 (A5 (A4 ⟨AF,A0 (A5 (A0 (A5 (A0 (A5 (A0 (A5 (A0 (AC (A0 (A5 (A0 (AC (A0 (A5 (A4 ⟨Be,A4 ⟨AF,A0 (AC (A0 (Ao (Az (A0 (A5 (A4 ⟨Be,A0 (A5 (A4 ⟨AF,A4 ⟨Ac (by simp),4,7,IA.map D.im++IB.map D.im,_,rfl,rfl,rfl,rfl,Ac (by simp),A8 ?_⟩⟩))⟩)))))))⟩⟩))))))))))))))))⟩)))))))⟩)))))))))))))));have s0:St 31 a b G0 8 (Dm IA++Dm IB++TC) (IA.map D.im++IB.map D.im++dC):=by
  refine⟨hT,by decide,rfl,((GB IA).app (GB IB)).app ?_,by decide,Qq Qd⟩;exact Dy (by simp) (FX (le_refl _) UA)
 change WS _ [some (.ro ns),some (.mu 1),some (.mu 8),none,none,none,none,none,none,none] (a::b::G0) _
 revert s0
 generalize G0=g;generalize IA.map D.im++IB.map D.im++dC=ds;generalize Dm IA++Dm IB++TC=ts;intro s0;refine A9 (AW (C8 (A0 (A3 rfl (A0 (A5 (A4 ⟨a,b,g,6,rfl,rfl,hT,by decide,by decide,λfar a' b' hT' p q=>A8 ?_⟩)))))));have s0:St 31 a' b' g 8 ts ds:=⟨hT',s0.k2,by have:=s0.at';rw[two s0.k2 (a:=a) (b:=b)];exact this,by have:=keeps (g':=[]) (a':=a') (b':=b') (le_refl _) s0.is;rw[append_nil]at this;exact this,s0.ln,s0.th⟩
 refine A9 (Cw (Hy (A0 (A5 (A4 ⟨4,rfl,E1 (by decide) (by decide),?_⟩)))));refine CC (λr ls hd=>∃(j:Nat) (a b:MO) (g:Hd) (k:Nat) (ts:List Tv) (ds:List D) (z4 z5:Option D),j<=4/\r=AY (j:Int) (4-j)/\St (31+20*j) a b g k ts ds/\ls=[some (.ro ns),some (.mu 1),some (.mu k),some (.im (.int far)),z4,z5,none,none,none,none]/\hd=a::b::g) ⟨0,a',b',g,8,ts,ds,none,none,by decide,rfl,s0,rfl,rfl⟩ ?_ ?_
 .rintro d r ls hd ⟨j,a,b,g,k,ts,ds,z4,z5,hj,er,st,rfl,rfl⟩;cases q:4-j with
  |zero=>rw[q]at er;cases er
  |succ m=>
   rw[q,AY]at er;obtain⟨rfl,rfl⟩:=List.cons.inj er;refine⟨[some (.ro ns),some (.mu 1),some (.mu k),some (.im (.int far)),some (.im (.int (j:Int))),z5,none,none,none,none],rfl,?_⟩;refine A9 (AW (Av (A0 (A3 rfl (A0 (WP.mono (Q:=λ(d:D) (x:Hd)=>∃gr,d=.im (.bl gr)/\x=a::b::g) ?_ ?_))))))
   .refine Cg (AK (A6 (A3 rfl (A5 (Am ⟨_,rfl,?_⟩)))));split
    .exact A6 (A3 rfl (A5 (Am ⟨_,rfl,rfl⟩)))
    .exact⟨_,rfl,rfl⟩
   rintro _ _ ⟨gr,rfl,rfl⟩;refine A4 ((OY gr st.hT).mono ?_);rintro d x ⟨a',b',g',k',ts',ds',rfl,rfl,hT',e',i',l',t'⟩;obtain⟨c1,c2,c3⟩:=st.cat (m:=20) (by omega) hT' e' i' l' t';refine A8 (A9 (AO (AK (WP.eq (z:=.im (.bl false)) (h:=a'::b'::(g++g')) (by simp[Gj]) ⟨_,rfl,(λh=>by cases h),λ_=>AI (A8 ?_)⟩))));refine AW (Ao (Dx (A3 rfl (A3 rfl ⟨k,k',ds,ds',rfl,rfl,c1,e',c2,?_⟩))));exact⟨Bc _,j+1,a',b',_,_,_,_,_,_,by omega,by rw[show 4-(j+1)=m by omega];rfl,by rw[show 31+20*(j+1)=31+20*j+20 by omega];exact c3,rfl,by simp⟩
 rintro ls hd ⟨j,a,b,g,k,ts,ds,z4,z5,hj,-,st,rfl,rfl⟩;have st:St 111 a b g k ts ds:=⟨st.hT,st.k2,st.at',st.is,by have:=st.ln;omega,st.th⟩
 refine A8 (A9 (WP.mono (Q:=λ(fl:Fl) (x:Hd)=>∃(a b:MO) (g:Hd) (k:Nat) (ts:List Tv) (ds:List D) (z4 z5 z6 z7:Option D),fl=.nx [some (.ro ns),some (.mu 1),some (.mu k),some (.im (.int far)),z4,z5,z6,z7,none,none]/\x=a::b::g/\St 200 a b g k ts ds) ?_ ?_))
 .refine AO (AK (A6 (A3 rfl (A5 (Am ⟨_,rfl,λ_=>?_,λ_=>AI ⟨a,b,g,k,ts,ds,_,_,_,_,rfl,rfl,st.hT,st.k2,st.at',st.is,by have:=st.ln;omega,st.th⟩⟩)))));refine A9 (Hv (AC (A0 (A5 (A0 (A5 (A4 ⟨AF,[some (.ro ns),some (.mu 1),some (.mu k),some (.im (.int far)),z4,z5,some (.im (.int 1)),some (.im (.int 1)),none,none],rfl,A8 ?_⟩)))))));refine A9 (Cw (Hy (A0 (A5 (A4 ⟨940,rfl,E1 (by decide) (by decide),?_⟩)))));refine CC (λr ls hd=>∃(j:Nat) (z4:Option D),j<=940/\r=AY (j:Int) (940-j)/\ls=[some (.ro ns),some (.mu 1),some (.mu k),some (.im (.int far)),z4,z5,some (.im (.int (fib (j+1)))),some (.im (.int (fib (j+2)))),none,none]/\hd=a::b::g) ⟨0,z4,by decide,rfl,rfl,rfl⟩ ?_ ?_
  .rintro d r ls hd ⟨j,z4,hj,er,rfl,rfl⟩;cases q:940-j with
   |zero=>rw[q]at er;cases er
   |succ m=>
    rw[q,AY]at er;obtain⟨rfl,rfl⟩:=List.cons.inj er;refine⟨_,rfl,Cv (A0 (A3 rfl (A0 (A6 (A3 rfl (A3 rfl (B5 (A4 ⟨rfl,?_⟩))))))))⟩;rw[<- Je (j+1)];exact⟨Bc _,j+1,_,by omega,by rw[show 940-(j+1)=m by omega];rfl,rfl,rfl⟩
  rintro ls hd ⟨j,z4,hj,er,rfl,rfl⟩;have hj2:j=940:=by
   cases q:940-j with
   |zero=>omega
   |succ m=>rw[q,AY]at er;cases er
  subst hj2;obtain⟨f1,f2,f3⟩:=LX;change He _ _ (.nx [some (.ro ns),some (.mu 1),some (.mu k),some (.im (.int far)),z4,z5,some (.im (.int (fib 941))),some (.im (.int (fib 942))),none,none]) _;generalize fib 941=F at *;generalize fib 942=G at *;have b199:(10:Nat)^199*2<=10^200:=by decide +kernel
  have m2:∀i:Int,BK 2 i:=λi=>by unfold BK;left;decide
  have m3:∀i:Int,BK 3 i:=λi=>by unfold BK;left;decide
  refine A8 (A9 (AW (Ao (Dx (A3 rfl (Ao (Az (A0 (AC (A0 (A3 rfl (A0 (A3 rfl (A4 ⟨AF,A0 (AC (A0 (A6 (A5 (A3 rfl (Bw (m2 _) (A0 (A6 (A5 (A3 rfl (Bw (m2 _) (A4 ⟨AF,A0 (AC (A0 (A3 rfl (A0 (A3 rfl (A4 ⟨AF,A0 (AC (A0 (A6 (A5 (A3 rfl (BO (A0 (A3 rfl (A4 ⟨AF,A4 ⟨Ac (by simp),?_⟩⟩)))))))))⟩))))))⟩))))))))))))⟩))))))))))))));have i4:Iss (a::b::(g++[.lst [.im (frI F G),.im (frI (2*F) (2*G)),.im (frI G F),.im (frI (0-F) G)]])).length (a::b::(g++[.lst [.im (frI F G),.im (frI (2*F) (2*G)),.im (frI G F),.im (frI (0-F) G)]])) [.tup [.int F,.int G],.tup [.int (2*F),.int (2*G)],.tup [.int G,.int F],.tup [.int (0-F),.int G]] [.im (frI F G),.im (frI (2*F) (2*G)),.im (frI G F),.im (frI (0-F) G)]:=.cons (CM _ _) (.cons (CM _ _) (.cons (CM _ _) (.one (CM _ _))));have t4:∀t∈[Tv.tup [.int F,.int G],.tup [.int (2*F),.int (2*G)],.tup [.int G,.int F],.tup [.int (0-F),.int G]],Th t:=λt ht=>by
   have pr:∀x y:Int,x.natAbs<=10^200->y.natAbs<=10^200->Th (.tup [.int x,.int y]):=λx y hx hy=>F9 (FJ hx hy) (by decide +kernel) (by decide) (by decide) (by decide);simp only[mem_cons,not_mem_nil,or_false]at ht;rcases ht with rfl|rfl|rfl|rfl<;>exact pr _ _ (by omega) (by omega)
  obtain⟨c1,c2,c3⟩:=st.cat (m:=4) (k':=(a::b::g).length) (by decide) st.hT (by simp) i4 (by simp) t4;refine⟨k,_,ds,_,rfl,rfl,?_,by simp,c2,A8 ?_⟩
  .have:=c1;simpa using this
  have sF:Sz 700 F:=lt_of_le_of_lt f1 (by decide +kernel);have sG:Sz 700 G:=lt_of_le_of_lt f2 (by decide +kernel);have s3:Sz 2 3:=by decide
  refine A9 (AO (Bl (AX (AS (A0 (AS (A0 (A6 (A5 (A3 rfl (Bw (m3 _) (A0 (A6 (A5 (A6 (A5 (A3 rfl (Bw (m3 _) (BO (A4 ⟨by simp,(C6 (k:=702) (t:=3*F) (u:=0-3*G) (by decide) (by decide) (by omega) ?_).mono ?_⟩))))))))))))))))))))
  .have:=s3.mul sG;unfold Sz at this ⊢;rw[zero_sub,Int.natAbs_neg];exact this
  rintro d x ⟨p,q,rfl,rd,e,lp,lq⟩;have sp:Sz 8000 p:=(EN lp (s3.mul sF)).mono (by decide);have sq:Sz 8000 q:=by
   have h1:=s3.mul sG;unfold Sz at h1 ⊢;rw[zero_sub,Int.natAbs_neg]at lq;exact lt_of_le_of_lt lq (lt_of_lt_of_le h1 (Nat.pow_le_pow_right (by decide) (by decide)))
  have e':p*G=(0-F)*q:=by
   have h1:p*(0-3*G)=-(3*(p*G)):=by rw[zero_sub,Int.mul_neg];congr 1;ac_rfl
   have h2:3*F*q=3*(F*q):=by ac_rfl
   rw[h1,h2]at e;rw[zero_sub,Int.neg_mul];generalize p*G=X at *;generalize F*q=Y at *;omega
  refine⟨_,rfl,A0 (A6 (A5 (A3 rfl (BO (A0 (A3 rfl (A4 ⟨by simp,(CY rd e' sp sq ?_ (sG.mono (by decide))).mono ?_⟩)))))))⟩
  .have:=sF.mono (show 700<=8000 by decide);unfold Sz at this ⊢;rw[zero_sub,Int.natAbs_neg];exact this
  rintro d x rfl;refine⟨_,rfl,_,rfl,(λh=>by cases h),λ_=>AI (A8 ?_)⟩;refine AO (Bl (AX (AS (A4 ⟨by simp,long_w.mono ?_⟩))));rintro d x rfl;refine⟨_,rfl,_,rfl,(λh=>by cases h),λ_=>AI ⟨a,b,_,_,_,_,_,_,_,_,rfl,?_,c3.hT,?_,c3.at',c3.is,by have:=c3.ln;omega,c3.th⟩⟩
  .simp
  .exact c3.k2
 rintro fl x ⟨a,b,g,k,ts,ds,z4,z5,z6,z7,rfl,rfl,st⟩;refine A8 (A9 (Cw (VB (A3 rfl ⟨k,ds,rfl,st.at',?_⟩))));refine CC (λr ls hd=>∃(tr:List Tv) (z8 z9:Option D),Iss (a::b::g).length (a::b::g) tr r/\(∀t∈tr,Th t)/\ls=[some (.ro ns),some (.mu 1),some (.mu k),some (.im (.int far)),z4,z5,z6,z7,z8,z9]/\hd=a::b::g) ⟨ts,none,none,st.is,st.th,rfl,rfl⟩ ?_ ?_
 .rintro d r ls hd ⟨tr,z8,z9,hr,ht,rfl,rfl⟩;cases tr with
  |nil=>simp only[Iss]at hr;cases hr
  |cons t tr=>
   simp only[Iss]at hr;obtain⟨d',r',e,hi,hr⟩:=hr;obtain⟨rfl,rfl⟩:=List.cons.inj e;refine⟨[some (.ro ns),some (.mu 1),some (.mu k),some (.im (.int far)),z4,z5,z6,z7,some d,z9],rfl,(V4 hi (ht t (by simp))).mono ?_⟩;rintro f x ⟨y9,rfl,rfl⟩;exact⟨λp hp=>by rw[mem_singleton]at hp;subst hp;exact st.at',tr,_,y9,hr,λu hu=>ht u (by simp[hu]),rfl,rfl⟩
 .rintro ls hd ⟨tr,z8,z9,hr,ht,rfl,rfl⟩;exact A8 (AM (A5 rfl))
def law_eq(ns:List Int):∃hd,HR [.ro ns] []=some (.im (.bl true),hd):=by
 obtain⟨d,x,e,rfl⟩:=Uq ns;exact⟨x,e⟩
open PySem L2 PySem.W PyProof.Rows
abbrev xS:Xs:=[]
def all_mk{l:PySem.W.OpenLaw}{w:World}{K:PySem.W.Frag}{h:Heap}{mg:Str->Option Value}{fa:Addr}{c P:Str->Addr}(X:K.In h)(G:h.Ns mainGlobals mg)(hfa:mg "law"=some (.ref fa))(hx:HX xS mg h c P)(F:Kg K):HG l w K xS mg c P fa KS:=by
 obtain⟨Z,h0,h1,h2,h3,h4,h5,h6,h7,h8,h9,h10,h11,h12,h13,h14,h15,h16,h17,h18,h19,h20,h21,h22,h23,h24,h25,h26,h27⟩:=F;have B:=(zsE Z).blt X G;refine N8 X G hfa hx (feE h0) bd1 rfl λbase hd bl=>?_;obtain⟨o_is_number,o_is_number_from,o_is_tuple_of,o_common_divisor,o_is_fraction,o_fraction,o_plus,o_minus,o_times,o_less,o_tape,o_pick,o_strange,o_bent,o_wide,o_lis_number,o_common,o_lis_fraction,o_as_much,o_side,o_size,o_top,o_low,o_other,o_reckoned,o_round,o_long_right,o_law⟩:=oks (E:=enM l w K xS P mg base) B;have g1:=o_is_number ((feE h1).dn X G hx bd1 l w base);have g2:=o_is_number_from ((feE h2).dn X G hx bd2 l w base) g1;have g3:=o_is_tuple_of ((feE h3).dn X G hx bd2 l w base);have g4:=o_common_divisor ((feE h4).dn X G hx bd2 l w base);have g5:=o_is_fraction ((feE h5).dn X G hx bd1 l w base) g1 g2 g3 g4;have g6:=o_fraction ((feE h6).dn X G hx bd2 l w base) g4;have g7:=o_tape ((feE h7).dn X G hx bd1 l w base);have g8:=o_pick ((feE h8).dn X G hx bd2 l w base);have g9:=o_lis_number ((feE h9).dn X G hx bd1 l w base);have g10:=o_common ((feE h10).dn X G hx bd2 l w base);have g11:=o_lis_fraction ((feE h11).dn X G hx bd1 l w base) g9 g10;have g12:=o_as_much ((feE h12).dn X G hx bd3 l w base) g11;have g13:=o_strange ((feE h13).dn X G hx bd1 l w base) g8;have g14:=o_bent ((feE h14).dn X G hx bd3 l w base) g8 g13;have g15:=o_wide ((feE h15).dn X G hx bd2 l w base) g8;have g16:=o_size ((feE h16).dn X G hx bd2 l w base) g8 g15;have g17:=o_top ((feE h17).dn X G hx bd2 l w base) g8 g16;have g18:=o_low ((feE h18).dn X G hx bd2 l w base) g10;have g19:=o_other ((feE h19).dn X G hx bd3 l w base) g8 g16 g17 g18;have g20:=o_plus ((feE h20).dn X G hx bd2 l w base) g6;have g21:=o_minus ((feE h21).dn X G hx bd2 l w base) g6;have g22:=o_times ((feE h22).dn X G hx bd2 l w base) g6;have g23:=o_less ((feE h23).dn X G hx bd2 l w base);have g24:=o_side ((feE h24).dn X G hx bd2 l w base);have g25:=o_reckoned ((feE h25).dn X G hx bd2 l w base) g20 g21 g22 g23 g12 g24;have g26:=o_round ((feE h26).dn X G hx bd2 l w base) g6 g8 g13 g14 g12 g16 g17 g18 g19 g25;have g27:=o_long_right ((feE h27).dn X G hx bd0 l w base) g22 g12;exact o_law ((feE h0).dn X G hx bd1 l w base) g5 g6 g7 g8 g11 g12 g26 g27
end T01
theorem PySem.Challenge.cw_benchdays_k01_fractions_holds : PySem.Challenge.rw_benchdays_k01_fractions.Holds := by
 refine T01.early λK F d hd hdf=>L2.walkL T01.xS (l:=PySem.Challenge.rw_benchdays_k01_fractions) (n:=63) (k:=8) (F:=T01.HR) rfl (by decide) hdf ⟨rfl,by decide,by decide,rfl⟩ (by intro x hx;cases hx) T01.law_eq (λw h Y=>Y) λw mg fa h c P X G hmg hx=>?_;rw[hd]at hmg;exact T01.all_mk X G hmg hx (F w)
