import PyProof.Rows.All
import Wide.All
import OpenK.AllK
import Wide.FinOn
import Lean
import PyProof.EqAt
import PyProof.EqKinds
import PyProof.TupleCall
import KE.KSortKey
import PyProof.ListMulRoad
import PyProof.Draws
import PyProof.EnumMake
import PyProof.ListNew
import KE.KRevIter
import KE.KMinKey
import PySem.Challenge.RW_benchdays_k09_orders_by_kind
set_option Elab.async false
set_option linter.all false
set_option maxRecDepth 100000
noncomputable section
set_option hygiene false in
local macro_rules | `(tactic| and_intros) => `(tactic| intro ρ σ H hd ls Q d hd' hR hL hm hQ)
open List(mem_cons mem_filter filterMap_cons mem_cons_self mem_cons_of_mem mem_append mem_filterMap mem_append_right size_toArray append_nil nodup_cons length_take mem_of_getElem? length_append length_map length_drop all_cons any_cons replicate_succ flatten_cons append_assoc map_nil map_cons find?_cons length_cons length_nil lookup_cons lookup_append mem_map all_eq_true cons_append map_map mem_of_mem_take length_eq_zero_iff take_of_length_le nil_append set_cons_succ set_cons_zero not_mem_nil reverse_cons mem_singleton all_map)
open Option(bind_some isSome_iff_exists none_or map_some)
open Nat(lt_of_lt_of_le lt_irrefl ne_of_lt le_trans le_of_lt ne_of_gt le_refl le_succ lt_of_le_of_lt lt_trans zero_le lt_succ_of_lt log2_lt)
open Int(toNat_natCast)
def Yp{α β:Type _}{o:Option α}{f:α->Option β}{b:β}(h:o.bind f=some b):∃a,o=some a/\f a=some b:=Option.bind_eq_some_iff.mp h
def Yq{α β:Type _}{o:Option α}{f:α->β}{b:β}(h:o.map f=some b):∃a,o=some a/\f a=b:=Option.map_eq_some_iff.mp h
set_option compiler.extract_closed false
local macro_rules | `(tactic| omega) => `(tactic| first | lia | omega (config := {}))
namespace Ea
open PySem PySem.W
def dA(s:Stmt):Arguments:=match s with
 |.FunctionDef _ a _ _ _ _ _ _ _ _=>a
 |_=>{ posonlyargs:=[],args:=[],vararg:=none,kwonlyargs:=[],kw_defaults:=[],kwarg:=none,defaults:=[] }
def dB(s:Stmt):List Stmt:=match s with
 |.FunctionDef _ _ b _ _ _ _ _ _ _=>b
 |_=>[]
def dS(s:Stmt):Scope:=match s with
 |.FunctionDef _ _ _ _ _ _ sc _ _ _=>sc
 |_=>{ kind:=.function,names:=[],isGenerator:=false,isCoroutine:=false }
def tO(o:Obj):Option Addr:=match o.data with
 | .fields vs=>(match (vs[11]?:Option Value)with
  |some (Value.ref P)=>some P
  | _=>none)
 |_=>none
def At(K:Frag)(n:Str)(s:Stmt)(f:Addr)(cd:Value):Prop:=∃oc kV dc pm ct od an sl,nsIn K mainGlobals n=some (some (.ref f))/\K.lookup f=some ⟨oc,od,.func (fnOf n n (dA s) (dB s) (dS s) .none kV dc pm an cd ct),sl⟩/\codeIn K cd n=true/\keepIn K (.ref f)=true
def Fe(K:Frag)(n:Str)(s:Stmt):Prop:=∃f cd,At K n s f cd
def Fl(K:Frag)(n:Str)(s:Stmt)(p:Addr):Prop:=∃f ca ob,At K n s f (.ref ca)/\K.lookup ca=some ob/\tO ob=some p
section
variable{K:Frag}{n:Str}{s:Stmt}{f ca p:Addr}{oc kV dc pm cd ct:Value}{od an:Option Addr}{sl:Array (Option Value)}{ob:Obj}
def feI(a:nsIn K mainGlobals n=some (some (.ref f)))(l:K.lookup f=some ⟨oc,od,.func (fnOf n n (dA s) (dB s) (dS s) .none kV dc pm an cd ct),sl⟩)(c:codeIn K cd n=true)(k:keepIn K (.ref f)=true):Fe K n s:=⟨f,cd,_,_,_,_,_,_,_,_,a,l,c,k⟩
end
abbrev W4:List Str:=["list","tuple","len","range","repr","sum","min","max","abs","all","any","sorted","zip","isinstance","int","bool","str","set","enumerate","reversed","dict"]
def Zs(K:Frag):Prop:=∀n∈W4,nsIn K mainGlobals n=some none
def Zg(K:Frag)(l:List Str):Prop:=∀n∈l,nsIn K mainGlobals n=some none
def zs0{K:Frag}:Zg K []:=λ_ h=>nomatch h
def zs1{K:Frag}{n:Str}{l:List Str}(h:nsIn K mainGlobals n=some none)(r:Zg K l):Zg K (n::l):=λm hm=>by
 rcases mem_cons.mp hm with rfl|hm
 .exact h
 .exact r m hm
end Ea
namespace Hl
open PySem PySem.W PyProof.Rows
def LD(p:Program)(w:World)(m:Nat)(ann:Option Value):Nat->SharedT->Thread->Option SharedT
 |0,_,_=>none
 |n+1,s,t=>match through t with
  |true=>some s
  |false=>match stepOk m ann t with
   |false=>none
   |true=>match stepT (denote treeTable) p w s t with
    |some (s',t')=>LD p w m ann n s' t'
    |none=>none
def KM{p:Program}{w:World}{m:Nat}{ann:Option Value}:∀{n:Nat} {s s':SharedT} {t:Thread},LD p w m ann n s t=some s'->topRun treeTable p w m ann n s.abs t=some s'.abs
 |0,_,_,_,h=>by cases h
 |n+1,s,s',t,h=>by
  rw[LD]at h;rw[topRun];cases h1:through t with
  |true=>rw[h1]at h;cases h;rfl
  |false=>
   rw[h1]at h;cases h2:stepOk m ann t with
   |false=>rw[h2]at h;cases h
   |true=>
    rw[h2]at h;cases h3:stepT (denote treeTable) p w s t with
    |none=>rw[h3]at h;cases h
    |some r=>obtain⟨s2,t2⟩:=r;rw[h3]at h;rw[stepT_spec h3];exact KM h
def Pr:Nat->List Obj->BT->BT
 |_,[],t=>t
 |n,o::r,t=>Pr (n+1) r (t.ins n o)
def bT(P:Params):BT:=Pr 0 (boot_heap P).objs.toList .nil
def W3(P:Params):absHeap (bT P) 11 (boot_heap P).life=boot_heap P:=by kernel_rfl
def Xg(P:Params):((boot_heap P).isNs mainGlobals,(boot_heap P).nsMap mainGlobals "__annotations__")=(true,some (.ref 6)):=by kernel_rfl
variable{p q:Program}{loose:List Str}{Xt:Shared->Bool}{α:Type}{Yf:Shared->α}{Ya:World->α}{N M:Nat}
def Vd(p q:Program)(loose:List Str)(Xt:Shared->Bool)(Yf:Shared->α)(M:Nat)(w:World)(os:OsState):=
 match LD p w 11 (some (.ref 6)) M ⟨bT w.params,11,(boot_heap w.params).life,Array.mk [],boot_drawn,boot_toks,os⟩ (topStub p)with
 | some s=>(match staticsOk (importedModules p.main.body) (boot_heap w.params) s.abs.heap&&namesBound p s.abs.heap&&gensDone s.abs&&laidKept (boot_heap w.params) s.abs.heap with
  |true=>some (openSeen q loose (importedModules p.main.body) Xt true s.abs,Yf s.abs)
  | false=>none)
 |none=>none
def left(e:opening p=plainProg p.main.scope.names)(f:∀s,fenceModules? p s=some s)(hN:Nat.ble 600 N=true)(hM:Nat.ble M N=true)(h:∀w os,Vd p q loose Xt Yf M w os=some (openGood q loose,Ya w)):LeftO p q loose Xt Yf Ya N:=λw=>by
 obtain⟨⟨hp,gs,d,k,os⟩,e1,e2⟩:=Yq (boot_open e hN f w);simp only[Prod.mk.injEq]at e2;obtain⟨rfl,rfl,rfl,rfl⟩:=e2;have hl:=h w os;unfold Vd at hl;split at hl
 .next s hs=>
  have r:=topRun_mono (N-M) _ _ _ _ (KM hs);rw[show M+(N-M)=N by have:=Nat.le_of_ble_eq_true hM;omega]at r;have ea:(SharedT.mk (bT w.params) 11 (boot_heap w.params).life (Array.mk []) boot_drawn boot_toks os).abs=⟨boot_heap w.params,Array.mk [],boot_drawn,boot_toks,os⟩:=by
   show Shared.mk (absHeap (bT w.params) 11 (boot_heap w.params).life) _ _ _ _=_;rw[W3]
  rw[ea]at r;obtain⟨z1,z2⟩:=Prod.mk.inj (Xg w.params);have z3:(boot_heap w.params).objs.size=11:=rfl;split at hl
  .next c=>
   show((fencedOpening treeTable p w N).bind (topFrom treeTable p w N)).map _=_;rw[e1,bind_some];have t:topFrom treeTable p w N ⟨boot_heap w.params,Array.mk [],boot_drawn,boot_toks,os⟩=some s.abs:=by
    unfold topFrom;dsimp only;rw[z1,z2,z3,r];show(match staticsOk (importedModules p.main.body) (boot_heap w.params) s.abs.heap&&namesBound p s.abs.heap&&gensDone s.abs&&laidKept (boot_heap w.params) s.abs.heap with|true=>some s.abs|false=>none)=_;rw[c]
   rw[t];exact hl
  .cases hl
 .cases hl
end Hl
namespace T09
open PySem PySem.W PyProof.Rows Ea
def top(i:Nat):Stmt:=PySem.Challenge.pw_benchdays_k09_orders_by_kind.main.body.getD i (.Pass ⟨0,0,0,0⟩)
def vw:PySem.Program:={ PySem.Challenge.pw_benchdays_k09_orders_by_kind with main:={ PySem.Challenge.pw_benchdays_k09_orders_by_kind.main with body:=[1,3,5,6,7,8,9,10,11,12,13,14,15,16].map top } }
def MK(K:Frag):Prop:=Zs K/\Fe K "law" (top 16)/\Fe K "is_number" (top 1)/\Fe K "is_order" (top 3)/\Fe K "_law_tape" (top 5)/\Fe K "_law_pick" (top 6)/\Fe K "_law_strange" (top 7)/\Fe K "_law_bent" (top 8)/\Fe K "_law_cost" (top 10)/\Fe K "_law_works" (top 11)/\Fe K "_law_wishes" (top 12)/\Fe K "_law_order" (top 13)/\Fe K "_law_is_number" (top 9)/\Fe K "_law_is_order" (top 14)/\Fe K "_law_near" (top 15)
def XV{K:Frag}(z:Zs K)(h0:Fe K "law" (top 16))(h1:Fe K "is_number" (top 1))(h2:Fe K "is_order" (top 3))(h3:Fe K "_law_tape" (top 5))(h4:Fe K "_law_pick" (top 6))(h5:Fe K "_law_strange" (top 7))(h6:Fe K "_law_bent" (top 8))(h7:Fe K "_law_cost" (top 10))(h8:Fe K "_law_works" (top 11))(h9:Fe K "_law_wishes" (top 12))(h10:Fe K "_law_order" (top 13))(h11:Fe K "_law_is_number" (top 9))(h12:Fe K "_law_is_order" (top 14))(h13:Fe K "_law_near" (top 15)):MK K:=⟨z,h0,h1,h2,h3,h4,h5,h6,h7,h8,h9,h10,h11,h12,h13⟩
local macro_rules | `(tactic| o_head $H) => `(tactic| (refine holds_open (r := PySem.Challenge.rw_benchdays_k09_orders_by_kind.row) (q := T09.vw) (loose := []) (Xt := λ s => xlAt T09.vw [] s && recOk (RowW.records (OpenRow.toRowW PySem.Challenge.rw_benchdays_k09_orders_by_kind.row)) s) (XP := XL T09.vw []) (Yf := Hook.obs $H) (Ya := Hook.val $H) (YP := Hook.says $H) (N := 100000) ?hl (Hook.of $H) (Hook.keeps $H) (λ s e => xl_of s (Bool.and_eq_true_iff.mp e).1) XL.keeps (by rfl) (by rfl) (by rfl) (λ s e => recFacts_of (Bool.and_eq_true_iff.mp e).2) (by rfl) (by first | assumption | decide +kernel) (by decide +kernel) ⟨rfl, rfl, rfl, rfl, rfl, by decide +kernel⟩ ?hw ?hc; (case hl => exact Hl.left (M := 10000) (by rfl) (λ s => by rfl) (by decide) (by decide) λ w os => by kernel_rfl)))
set_option maxRecDepth 100000 in
set_option maxHeartbeats 0 in
def early(hG:∀(K:Params->Frag),(∀w:World,MK (K w.params))->∀d:DefRec,d.name="law"->d.params.defaults=[]->WalkO T09.vw [] (XL T09.vw []) (λw h=>(K w.params).In h) PySem.Challenge.rw_benchdays_k09_orders_by_kind.row.toRowW d [] (λf vs=>PySem.call f vs)):PySem.Challenge.rw_benchdays_k09_orders_by_kind.Holds:=by
 w_on;o_law;k_head;(case hw=>w_witness2)
 k_fill
 refine λw s₀ s₁ mg mb G Y=>hG _ ?F _ rfl rfl w s₀ s₁ mg mb G (kIn_of Y)
 case F=>
  intro w;refine' XV ?z ?h0 ?h1 ?h2 ?h3 ?h4 ?h5 ?h6 ?h7 ?h8 ?h9 ?h10 ?h11 ?h12 ?h13
  case z=>(refine' zs1 _ (zs1 _ (zs1 _ (zs1 _ (zs1 _ (zs1 _ (zs1 _ (zs1 _ (zs1 _ (zs1 _ (zs1 _ (zs1 _ (zs1 _ (zs1 _ (zs1 _ (zs1 _ (zs1 _ (zs1 _ (zs1 _ (zs1 _ (zs1 _ (zs0)))))))))))))))))))))<;>k_is)
  case h0|h1|h2|h3|h4|h5|h6|h7|h8|h9|h10|h11|h12|h13=>(refine' feI ?a ?l ?c ?k;case a|l|c|k=>k_is)
end T09
namespace L2
open PySem PySem.Spec PyProof.Rows
abbrev Key:=Sum Int Str
def Fd:Key->Value->Bool
 |.inl k,v=>Value.isInt k v
 |.inr x,v=>Value.isStrOf x v
def XS(w:World):Key->Int
 |.inl k=>hashInt k
 |.inr x=>hashStr w x
def B2:∀{k:Key} {v:Value},Fd k v=true->(∃i t,k=Sum.inl i/\v=Value.int i t)∨(∃x t,k=Sum.inr x/\v=Value.str x t)
 |.inl i,v,h=>by
  obtain⟨t,e⟩:=Value.isInt_shape (k:=i) (v:=v) h;exact .inl ⟨i,t,rfl,e⟩
 |.inr x,v,h=>by
  obtain⟨t,e⟩:=Value.isStrOf_shape (x:=x) (v:=v) h;exact .inr ⟨x,t,rfl,e⟩
def NV(i:Int)(t:Tok):Fd (.inl i) (.int i t)=true:=by simp[Fd,Value.isInt]
def NU(x:Str)(t:Tok):Fd (.inr x) (.str x t)=true:=by simp[Fd,Value.isStrOf]
def Vh(a b:Int):decide ((Sum.inl a:Key)=Sum.inl b)=(a==b):=by
 by_cases e:a=b
 .subst e;simp
 .have h:¬ (Sum.inl a:Key)=Sum.inl b:=λq=>e (Sum.inl.inj q);rw[decide_eq_false h];exact(beq_eq_false_iff_ne.mpr e).symm
def Ve(a b:Str):decide ((Sum.inr a:Key)=Sum.inr b)=decide (a=b):=by
 by_cases e:a=b
 .subst e;simp
 .have h:¬ (Sum.inr a:Key)=Sum.inr b:=λq=>e (Sum.inr.inj q);rw[decide_eq_false h,decide_eq_false e]
def Vg(a:Int)(b:Str):decide ((Sum.inl a:Key)=Sum.inr b)=false:=decide_eq_false (λq=>nomatch q)
def Vf(a:Str)(b:Int):decide ((Sum.inr a:Key)=Sum.inl b)=false:=decide_eq_false (λq=>nomatch q)
def Ax(prog:Program)(w:World):PySem.KeyKind prog w Key where
 is:=Fd
 hash:=XS w
 inj:=λv a b ha hb=>by
  rcases B2 ha with⟨i,t,rfl,rfl⟩|⟨x,t,rfl,rfl⟩
  .rcases B2 hb with⟨j,u,rfl,e⟩|⟨y,u,rfl,e⟩
   .injection e with e1 _;rw[e1]
   .exact nomatch e
  .rcases B2 hb with⟨j,u,rfl,e⟩|⟨y,u,rfl,e⟩
   .exact nomatch e
   .injection e with e1 _;rw[e1]
 byValue:=λk v h=>by
  rcases B2 h with⟨i,t,rfl,rfl⟩|⟨x,t,rfl,rfl⟩<;>rfl
 pyHash:=λhv h=>by
  rcases B2 hv with⟨i,t,rfl,rfl⟩|⟨x,t,rfl,rfl⟩
  .exact wpAny_pyHash_int h
  .exact wpAny_pyHash_str h
 eqBool:=λhu hv h=>by
  rcases B2 hu with⟨i,t,rfl,rfl⟩|⟨x,t,rfl,rfl⟩
  .rcases B2 hv with⟨j,u,rfl,rfl⟩|⟨y,u,rfl,rfl⟩
   .rw[Vh]at h;exact wpAny_eqBool_int h
   .rw[Vg]at h;exact SeqAt.EqAt.int_str i t y u _ _ _ _ h
  .rcases B2 hv with⟨j,u,rfl,rfl⟩|⟨y,u,rfl,rfl⟩
   .rw[Vf]at h;exact SeqAt.EqAt.str_int x t j u _ _ _ _ h
   .rw[Ve]at h;exact wpAny_eqBool_str h
 «strs»:=λk x t v h=>by
  rcases B2 h with⟨i,u,rfl,e⟩|⟨y,u,rfl,e⟩
  .exact nomatch e
  .injection e with e1 _
   subst e1;cases v<;>rfl
def K3(prog:Program)(w:World)(i:Int)(t:Tok):(Ax prog w).is (.inl i) (.int i t)=true:=NV i t
def K2(prog:Program)(w:World)(x:Str)(t:Tok):(Ax prog w).is (.inr x) (.str x t)=true:=NU x t
inductive V where
 |non|bl (b:Bool)|int (i:Int)|str (x:Str)|byt (b:Array UInt8)|flt (b:UInt64)|ref (a:Addr)|ty (n:String)
 deriving DecidableEq
def RelV:V->Value->Prop
 |.non,u=>u=Value.none
 |.bl b,u=>u=Value.bool b
 |.int i,u=>∃t,u=Value.int i t
 |.str x,u=>∃t,u=Value.str x t
 |.byt b,u=>∃t,u=Value.bytes b t
 |.flt b,u=>∃t,u=Value.float b t
 |.ref a,u=>u=Value.ref a
 |.ty n,u=>u=Value.type n
abbrev Vals:List V->List Value->Prop:=Paired RelV
def Vals.length{xs:List V}{us:List Value}(r:Vals xs us):xs.length=us.length:=Paired.length r
def Vals.get:∀{xs:List V} {us:List Value} {i:Nat} {x:V},Vals xs us->xs[i]?=some x->∃u,us[i]?=some u/\RelV x u
 |_,_,_,_,.nil,e=>by simp at e
 |_,_,0,_,.cons r _,e=>by simp at e;subst e;exact⟨_,rfl,r⟩
 |_,_,i+1,x,.cons _ t,e=>by
  obtain⟨u,h1,h2⟩:=Vals.get (i:=i) (x:=x) t (by simpa using e);exact⟨u,by simpa using h1,h2⟩
def Vals.set{x:V}{u:Value}(r:RelV x u):∀{xs:List V} {us:List Value} (i:Nat),Vals xs us->Vals (xs.set i x) (us.set i u)
 |_,_,_,.nil=>.nil
 |_,_,0,.cons _ t=>.cons r t
 |_,_,i+1,.cons q t=>.cons q (Vals.set r i t)
def Vals.append:∀{xs ys:List V} {us ws:List Value},Vals xs us->Vals ys ws->Vals (xs++ys) (us++ws)
 |_,_,_,_,.nil,s=>s
 |_,_,_,_,.cons r t,s=>.cons r (Vals.append t s)
def Vals.take:∀{xs:List V} {us:List Value} (n:Nat),Vals xs us->Vals (xs.take n) (us.take n)
 |_,_,0,_=>.nil
 |_,_,_+1,.nil=>.nil
 |_,_,n+1,.cons r t=>.cons r (Vals.take n t)
def Vals.drop:∀{xs:List V} {us:List Value} (n:Nat),Vals xs us->Vals (xs.drop n) (us.drop n)
 |_,_,0,r=>r
 |_,_,_+1,.nil=>.nil
 |_,_,n+1,.cons _ t=>Vals.drop n t
def RelO:Option V->Option Value->Prop
 |some v,some u=>RelV v u
 |none,none=>True
 |_,_=>False
def KV{κ:Type}:List (κ×V)->List (κ×Value)->Prop:=Paired λ(p:κ×V) (q:κ×Value)=>p.1=q.1/\RelV p.2 q.2
def kV:Key->V
 |.inl i=>.int i
 |.inr x=>.str x
inductive HO where
 /-- a list -/
 |lst (xs:List V)
 /-- a tuple (never changes) -/
 |tup (xs:List V)
 /-- a dict whose keys are ints and texts;one whose keys are tuples of ints and texts (the empty one is both) -/
 |dK (kvs:List (Key×V))|dT (kvs:List (List Key×V))
 /-- a set of ints: its members,its size -/
 |set (S:Int->Bool) (n:Nat)
 /-- an instance of the class at C,its dict at dx,its attributes -/
 |ins (C dx:Addr) (fs:List (Str×V))
 /-- the dict of the instance at x -/
 |own (x:Addr)
 /-- the dict of an exception -/
 |xd (fs:List (Str×V))
 /-- a bound method,f of x -/
 |met (f x:Addr)
 /-- a range object lo,lo+1,.. below hi -/
 |rng (lo hi:Int)
 /-- a thing that is known to the object (the script;a dict while a loop walks it): read,never written while it is so -/
 |frz (o:Obj) (u:HO)
 /-- a code object's table -/
 |tbl (ps:Array Value)
 /-- any other thing,by what is true of its one object (a def of one's own: SetO a S n:=HO.ext λh=>..) -/
 |ext (φ:Heap->Prop)
abbrev Hp:=Addr->Option HO
def upd(H:Hp)(a:Addr)(o:HO):Hp:=λb=>if b=a then some o else H b
def AL{H:Hp}{a:Addr}{o:HO}:upd H a o a=some o:=by unfold upd;rw[if_pos rfl]
def AH{H:Hp}{a b:Addr}{o:HO}(h:b≠a):upd H a o b=H b:=by unfold upd;rw[if_neg h]
def Wt{H:Hp}{a b:Addr}{o u:HO}(h:H a=some o)(h':H b=some u)(d:o≠u):a≠b:=by
 intro e;subst e;rw[h]at h';exact d (Option.some.inj h')
def AT{H:Hp}{a b:Addr}{o:HO}(h:H a=some o)(h':H b=none):a≠b:=by
 intro e;subst e;rw[h]at h';cases h'
def IsTupD(h:Heap)(a:Addr)(items:Array Value):Prop:=∃o,h.get? a=some o/\o.cls=.type "tuple"/\(∃n,o.data=.seq items n)/\o.dict=none
def IsTupD.t{h:Heap}{a:Addr}{items:Array Value}(x:IsTupD h a items):IsTup h a items:=let ⟨o,e,c,d,_⟩:=x;⟨o,e,c,d⟩
def IsTupD.new(h:Heap)(items:Array Value):IsTupD (h.push { cls:=.type "tuple",data:=.seq items }) h.objs.size items:=⟨_,Heap.get?_push_size _ rfl,rfl,⟨_,rfl⟩,rfl⟩
section
variable(P:Program)(w:World)
def ObjOk(H:Hp)(h:Heap)(a:Addr):HO->Prop
 |.lst xs=>xs.length<=sizeLine/\∃(its:List Value) (n:Nat),Vals xs its/\h.get? a=some { cls:=.type "list",data:=.seq its.toArray n }
 |.tup xs=>xs.length<=sizeLine/\∃its:List Value,Vals xs its/\IsTupD h a its.toArray
 |.dK kvs=>kvs.length<=sizeLine/\(a==sysModules)=false/\∃vs,KV kvs vs/\h.DictOf (Ax P w) a vs
 |.dT kvs=>kvs.length<=sizeLine/\(a==sysModules)=false/\∃xs:List (List Key×Addr×Value),
  Paired (λ(p:List Key×V) (q:List Key×Addr×Value)=>p.1=q.1/\H q.2.1=some (.tup (p.1.map kV))/\RelV p.2 q.2.2) kvs xs /\
  ∃o es ep,h.get? a=some o/\o.ExactDict/\o.data=.dict es ep/\es.toList=xs.map (entryOfKey (tupleKind (Ax P w)))/\(xs.map (·.1)).Nodup
 |.set S n=>h.SetOf (intKind P w) a S n
 |.ins C dx fs=>H dx=some (.own a)/\fs.length<=1000/\dx≠a/\h.get? a=some (PySem.W.instObj C dx)/\
  ∃mA,h.Ns1 dx mA/\(∀f,RelO (fs.lookup f) (mA f))/\PySem.Within mA (fs.map (·.1))
 |.own _=>∃o,h.get? a=some o
 |.xd fs=>∃mA,h.Ns1 a mA/\∀f,RelO (fs.lookup f) (mA f)
 |.rng lo hi=>∃t u v,h.get? a=some { cls:=.type "range",data:=.fields #[.int lo t,.int hi u,.int 1 v] }
 |.frz o u=>h.get? a=some o/\ObjOk H h a u
 |.tbl ps=>h.get? a=some { cls:=.none,data:=.fields ps }
 |.met f x=>h.get? a=some (PySem.W.methodObj (.ref f) (.ref x))
 |.ext φ=>φ h/\(∃o,h.get? a=some o)/\∀h1 h2:Heap,φ h1->(∀o,h1.get? a=some o->h2.get? a=some o)->φ h2
def HOk(H:Hp)(h:Heap):Prop:=∀a o,H a=some o->ObjOk P w H h a o
end
section
variable{P:Program}{w:World}{H H':Hp}{h h':Heap}{a:Addr}{o:HO}
def ObjOk.lt(x:ObjOk P w H h a o):a<h.objs.size:=by
 cases o with
 |lst xs=>obtain⟨_,_,_,_,e⟩:=x;exact Heap.lt_size e
 |tup xs=>obtain⟨_,_,_,o,e,_⟩:=x;exact Heap.lt_size e
 |dK kvs=>obtain⟨_,_,_,_,o,_,_,e,_⟩:=x;exact Heap.lt_size e
 |dT kvs=>obtain⟨_,_,_,_,o,_,_,e,_⟩:=x;exact Heap.lt_size e
 |set S n=>obtain⟨o,_,_,_,e,_⟩:=x;exact Heap.lt_size e
 |ins C dx fs=>obtain⟨_,_,_,e,_⟩:=x;exact Heap.lt_size e
 |own y=>obtain⟨_,e⟩:=x;exact Heap.lt_size e
 |xd fs=>obtain⟨_,⟨_,_,_,e,_⟩,_⟩:=x;exact Heap.lt_size e
 |rng lo hi=>obtain⟨_,_,_,e⟩:=x;exact Heap.lt_size e
 |frz ob u=>obtain⟨e,_⟩:=x;exact Heap.lt_size e
 |tbl ps=>exact Heap.lt_size (show h.get? a=some _ from x)
 |met f y=>exact Heap.lt_size (show h.get? a=some _ from x)
 |ext φ=>obtain⟨_,⟨_,e⟩,_⟩:=x;exact Heap.lt_size e
def Paired.mapP{α β:Type}{F G:α->β->Prop}:∀{l₁:List α} {l₂:List β},Paired F l₁ l₂->(∀a b,F a b->G a b)->Paired G l₁ l₂
 |_,_,.nil,_=>.nil
 |_,_,.cons r t,f=>.cons (f _ _ r) (Paired.mapP t f)
def ObjOk.stay(x:ObjOk P w H h a o)(k:∀b u,(b=a∨H b=some (.own a))->h.get? b=some u->h'.get? b=some u)
 (ho:∀b,H b=some (.own a)->H' b=some (.own a)) (ht:∀b xs,H b=some (.tup xs)->H' b=some (.tup xs)):ObjOk P w H' h' a o:=by
 induction o with
 |lst xs=>obtain⟨z,its,n,r,e⟩:=x;exact⟨z,its,n,r,k _ _ (.inl rfl) e⟩
 |tup xs=>obtain⟨z,its,r,ob,e,c⟩:=x;exact⟨z,its,r,ob,k _ _ (.inl rfl) e,c⟩
 |dK kvs=>obtain⟨z,y,vs,r,ob,es,ep,e,c⟩:=x;exact⟨z,y,vs,r,ob,es,ep,k _ _ (.inl rfl) e,c⟩
 |dT kvs=>
  obtain⟨z,y,xs,r,ob,es,ep,e,c⟩:=x;exact⟨z,y,xs,Paired.mapP r λp q z=>⟨z.1,ht _ _ z.2.1,z.2.2⟩,ob,es,ep,k _ _ (.inl rfl) e,c⟩
 |set S n=>obtain⟨ob,es,ep,t,e,c⟩:=x;exact⟨ob,es,ep,t,k _ _ (.inl rfl) e,c⟩
 |ins C dx fs=>
  obtain⟨d,z,ne,e,mA,⟨od,es,ep,e2,c⟩,r⟩:=x;exact⟨ho _ d,z,ne,k _ _ (.inl rfl) e,mA,⟨od,es,ep,k _ _ (.inr d) e2,c⟩,r⟩
 |own y=>obtain⟨ob,e⟩:=x;exact⟨ob,k _ _ (.inl rfl) e⟩
 |xd fs=>obtain⟨mA,⟨od,es,ep,e,c⟩,r⟩:=x;exact⟨mA,⟨od,es,ep,k _ _ (.inl rfl) e,c⟩,r⟩
 |rng lo hi=>obtain⟨t,u,v,e⟩:=x;exact⟨t,u,v,k _ _ (.inl rfl) e⟩
 |frz ob u ih=>obtain⟨e,q⟩:=x;exact⟨k _ _ (.inl rfl) e,ih q⟩
 |tbl ps=>
  have e:h.get? a=some { cls:=.none,data:=.fields ps }:=x;show h'.get? a=some { cls:=.none,data:=.fields ps };exact k a _ (.inl rfl) e
 |met f y=>
  have e:h.get? a=some (PySem.W.methodObj (.ref f) (.ref y)):=x;show h'.get? a=some (PySem.W.methodObj (.ref f) (.ref y));exact k a _ (.inl rfl) e
 |ext φ=>obtain⟨p,⟨o,e⟩,st⟩:=x;exact⟨st _ _ p λo q=>k _ _ (.inl rfl) q,⟨o,k _ _ (.inl rfl) e⟩,st⟩
def HOk.lt(x:HOk P w H h)(e:H a=some o):a<h.objs.size:=(x a o e).lt
def HOk.fresh(x:HOk P w H h)(e:h.objs.size<=a):H a=none:=by
 cases q:H a with
 |none=>rfl
 |some u=>exact absurd (lt_of_lt_of_le (x.lt q) e) (lt_irrefl _)
def HOk.kept(x:HOk P w H h)(k:∀b u,h.get? b=some u->h'.get? b=some u):HOk P w H h':=λa o e=>
 (x a o e).stay (λb u _ q=>k b u q) (λ_ q=>q) λ_ _ q=>q
def HOk.laid(x:HOk P w H h)(k:∀b u,h.get? b=some u->h'.get? b=some u)(hp:h.objs.size<=a)(new:ObjOk P w (upd H a o) h' a o):HOk P w (upd H a o) h':=λb u e=>by
 have hn:=x.fresh hp;by_cases hb:b=a
 .subst hb;rw[AL]at e;cases e;exact new
 .rw[AH hb]at e;exact(x b u e).stay (λc v _ q=>k c v q) (λc q=>by rw[AH (AT q hn)];exact q) λc xs q=>by rw[AH (AT q hn)];exact q
end
def Rd(H:Hp)(a:Addr)(u:HO):Prop:=H a=some u∨∃o,H a=some (.frz o u)
def Rd.ok{P:Program}{w:World}{H:Hp}{h:Heap}{a:Addr}{u:HO}(r:Rd H a u)(x:HOk P w H h):ObjOk P w H h a u:=by
 rcases r with r|⟨o,r⟩
 .exact x a u r
 .obtain⟨_,q⟩:=x a _ r;exact q
def Mut:Option HO->Prop
 |some (.lst _)=>True
 |some (.dK _)=>True
 |some (.dT _)=>True
 |some (.set _ _)=>True
 |some (.ins _ _ _)=>True
 |some (.ext _)=>True
 |_=>False
section
variable{P:Program}{w:World}{H:Hp}{h h':Heap}{x e:Addr}{o':HO}
def HOk.write(ok:HOk P w H h)(mu:Mut (H x))(he:e=x∨H e=some (.own x))(k:∀b u,b≠e->h.get? b=some u->h'.get? b=some u)(heo:∃u,h'.get? e=some u)
 (new:ObjOk P w (upd H x o') h' x o'):HOk P w (upd H x o') h':=λb u q=>by
 have nown:∀c y,H c=some (.own y)->c≠x:=λc y r z=>by subst z;rw[r]at mu;exact mu
 have ntup:∀c xs,H c=some (.tup xs)->c≠x:=λc xs r z=>by subst z;rw[r]at mu;exact mu
 by_cases hb:b=x
 .subst hb;rw[AL]at q;cases q;exact new
 .rw[AH hb]at q;by_cases hbe:b=e
  .have q':H b=some (.own x):=by
    rcases he with z|z
    .exact absurd (hbe.trans z) hb
    .rw[hbe];exact z
   rw[q]at q';cases q';obtain⟨v,hv⟩:=heo;exact⟨v,by rw[hbe];exact hv⟩
  .refine(ok b u q).stay (λc v hc r=>k c v ?_ r) (λc r=>by rw[AH (nown c b r)];exact r) λc xs r=>by rw[AH (ntup c xs r)];exact r
   rcases hc with rfl|hc
   .exact hbe
   .rintro rfl;rcases he with z|z
    .exact nown c b hc z
    .rw[hc]at z;cases z;exact hb rfl
end
structure Un(fs ex:List Addr)(H H':Hp)(h h':Heap):Prop where
 keep:∀b o,h.get? b=some o->H b=none->b∉fs->b∉ex->h'.get? b=some o
 slot:∀b o,h.get? b=some o->H b=none->b∈fs->b∉ex->∃sl,h'.get? b=some { o with slots:=sl }
 free:∀b o,h.get? b=some o->H b=none->b∉ex->H' b=none
 there:∀b o,h.get? b=some o->b∉ex->∃o',h'.get? b=some o'
 tups:∀b xs,H b=some (.tup xs)->H' b=some (.tup xs)
 frzs:∀b o u,H b=some (.frz o u)->H' b=some (.frz o u)
 tbls:∀b ps,H b=some (.tbl ps)->∃more,H' b=some (.tbl (ps++more))
section
variable{fs fs' ex ex':List Addr}{H H1 H2:Hp}{h h1 h2 h':Heap}{a x e:Addr}{o:HO}
def Un.any(u:Un fs ex H H1 h h1){b:Addr}{ob:Obj}(q:h.get? b=some ob)(n:H b=none)(hx:b∉ex):∃sl,h1.get? b=some { ob with slots:=sl }:=by
 by_cases hb:b∈fs
 .exact u.slot b ob q n hb hx
 .exact⟨ob.slots,u.keep b ob q n hb hx⟩
def Un.kept(k:∀b u,h.get? b=some u->h'.get? b=some u):Un fs ex H H h h':=
 ⟨λb ob q _ _ _=>k b ob q,λb ob q _ _ _=>⟨ob.slots,k b ob q⟩,λ_ _ _ n _=>n,λb ob q _=>⟨ob,k b ob q⟩,λ_ _ q=>q,λ_ _ _ q=>q,λ_ ps q=>⟨#[],by rw[q];simp⟩⟩
def Un.refl:Un fs ex H H h h:=Un.kept λ_ _ q=>q
def Un.laid(k:∀b u,h.get? b=some u->h'.get? b=some u)(hp:h.objs.size<=a)(hn:H a=none):Un fs ex H (upd H a o) h h' where
 keep:=λb u q _ _ _=>k b u q
 slot:=λb u q _ _ _=>⟨u.slots,k b u q⟩
 free:=λb u q n _=>by rw[AH (ne_of_lt (lt_of_lt_of_le (Heap.lt_size q) hp))];exact n
 there:=λb u q _=>⟨u,k b u q⟩
 tups:=λb xs q=>by rw[AH (AT q hn)];exact q
 frzs:=λb u xs q=>by rw[AH (AT q hn)];exact q
 tbls:=λb ps q=>⟨#[],by rw[AH (AT q hn),q];simp⟩
def Un.write(mu:Mut (H x))(he:e=x∨H e=some (.own x))(k:∀b u,b≠e->h.get? b=some u->h'.get? b=some u)(heo:∃u,h'.get? e=some u):Un fs ex H (upd H x o) h h':=by
 have hx:∀b,H b=none->b≠x:=λb n z=>by subst z;rw[n]at mu;exact mu
 have hb:∀b,H b=none->b≠e:=λb n z=>by
  subst z;rcases he with r|r
  .exact hx b n r
  .rw[n]at r;cases r
 have hm:∀b u,H b=some u->¬ Mut (some u)->b≠x:=λb u q nm z=>by subst z;rw[q]at mu;exact nm mu
 refine⟨λb u q n _ _=>k b u (hb b n) q,λb u q n _ _=>⟨u.slots,k b u (hb b n) q⟩,λb u q n _=>by rw[AH (hx b n)];exact n,λb u q _=>?_,
  λb xs q=>by rw[AH (hm b _ q λz=>z)];exact q,λb u xs q=>by rw[AH (hm b _ q λz=>z)];exact q,λb ps q=>⟨#[],by rw[AH (hm b _ q λz=>z),q];simp⟩⟩
 by_cases hbe:b=e
 .subst hbe;exact heo
 .exact⟨u,k b u hbe q⟩
end
def trk(h:Heap)(H:Hp):List Addr:=(List.range h.objs.size).filter λa=>(H a).isSome
def Eo(h:Heap)(H:Hp):Heap:=PySem.W.hideAll h (trk h H)
def NY(h:Heap)(H:Hp):(Eo h H).objs.size=h.objs.size:=PySem.W.hideAll_size _ _
def PZ{h:Heap}{H:Hp}{b:Addr}{o:Obj}(e:h.get? b=some o)(n:H b=none):(Eo h H).get? b=some o:=
 PySem.W.hideAll_get _ e λhm=>by
  have q:(H b).isSome=true:=(mem_filter.mp hm).2;rw[n]at q;simp at q
def Sq{h:Heap}{H:Hp}{b:Addr}{o:Obj}(e:(Eo h H).get? b=some o):h.get? b=some o/\H b=none:=by
 have e':h.get? b=some o:=PySem.W.of_hideAll (trk h H) e;refine⟨e',?_⟩;cases q:H b with
 |none=>rfl
 |some x=>
  have hm:b∈trk h H:=mem_filter.mpr ⟨List.mem_range.mpr (Heap.lt_size e'),by simp[q]⟩;have z:(Eo h H).get? b=none:=PySem.W.hideAll_none (trk h H) hm;rw[z]at e;cases e
def TL(g h:Heap)(L:Addr):List (Addr×Obj):=(List.range h.objs.size).filterMap λa=>if a=L∨(g.get? a).isSome=true then none else(h.get? a).map λo=>(a,o)
def rest(g h:Heap)(L d:Addr):List (Addr×Obj):=(TL g h L).filter λp=>decide (p.1≠d)
structure Mod(K:PySem.W.Frag)(mg:Str->Option Value)(base:Heap):Prop where
 kin:K.In base
 glob:base.Ns mainGlobals mg
 blt:∃mb,base.Ns builtinsNs mb/\∀x:Str,x≠"__name__"->mb x=bootBuiltins x
 nolimit:base.NoLimit
structure Cx where
 prog:Program
 w:World
 K:PySem.W.Frag
 mg:Str->Option Value
 base:Heap
 A:Around
 N:List Str
 s₀:Shared
 H₀:Hp
 env:Env
 outer:List Env
 stack:List Env
 ex:List Addr
 fn:Str->Bool
 calm:Bool
 pn:List (Addr×Obj)
 xe:Value->Shared->Prop
def frs(l:List Env):List Addr:=l.filterMap (·.frame)
abbrev Cx.fs(X:Cx):List Addr:=frs X.outer
def Vis(sc:Scope)(x:Str):Prop:=sc.names.lookup x=some .local∨sc.names.lookup x=some .cell∨sc.names.lookup x=some .free
def Loc(sc:Scope)(x:Str):Prop:=sc.names.lookup x=some .local∨sc.names.lookup x=some .cell
def Xj(env:Env)(h:Heap)(m:Str->Option Value)(x:Str)(u:Value):Prop:=
 (env.kindOf x=some .local/\m x=some u)∨((env.kindOf x=some .cell∨env.kindOf x=some .free)/\∃c,env.cells.lookup x=some c/\h.IsCell c (some u))
structure Cx.Ok(X:Cx):Prop where
 mod:Mod X.K X.mg X.base
 kind:X.env.scope.kind=.function
 glob:X.env.globals=mainGlobals
 blt:X.env.builtins=builtinsNs
 above:X.s₀.heap.objs.size<=X.env.locals
 inj:∀x y c,X.env.cells.lookup x=some c->X.env.cells.lookup y=some c->x=y
 has:∀x,(X.env.kindOf x=some .cell∨X.env.kindOf x=some .free)->∃c,X.env.cells.lookup x=some c
 cab:∀x c,X.fn x=true->X.env.cells.lookup x=some c->X.s₀.heap.objs.size<=c
 hd:X.calm=true->X.A.handled=none
 frames:X.A.frames=some X.stack
 stk:X.stack=X.outer∨(X.stack=X.env::X.outer/\X.env.frame=some X.env.locals)
 exf:∀b∈X.ex,b≠X.env.locals/\∀x c,X.env.cells.lookup x=some c->c≠b
 bs:∀b o,X.base.get? b=some o->X.s₀.heap.get? b=some o/\X.H₀ b=none
 bsz:X.base.objs.size<=X.s₀.heap.objs.size
 noex:∀b o,X.base.get? b=some o->b∉X.ex
 exfs:∀b∈X.ex,b∉X.fs
 funs:X.s₀.heap.FunFrames X.base X.outer
 frf:∀b∈X.fs,X.H₀ b=none
structure Inv(X:Cx)(pins:List (Addr×Obj))(σ:List (Option V))(H:Hp)(s:Shared):Prop where
 ok:X.Ok
 os:s.os=X.s₀.os
 bare:AllBare s.gens
 base:Un X.fs X.ex X.H₀ H X.s₀.heap s.heap
 loc:∃m,s.heap.Ns X.env.locals m/\∀(i:Nat) (x:Str) (v:V),X.N[i]?=some x->σ[i]?=some (some v)->Vis X.env.scope x->∃u,RelV v u/\Xj X.env s.heap m x u
 cell:∀x c,X.env.cells.lookup x=some c->∃v,s.heap.IsCell c v
 free:H X.env.locals=none
 freeC:∀x c,X.env.cells.lookup x=some c->H c=none
 pin:∀p∈X.pn++pins,s.heap.get? p.1=some p.2/\H p.1=none/\p.1≠X.env.locals/\p.1∉X.fs/\∀v,p.2.data≠.cell v
 hok:HOk X.prog X.w H s.heap
 len:σ.length=X.N.length
section
variable{X:Cx}{pins:List (Addr×Obj)}{σ:List (Option V)}{H H':Hp}{s:Shared}{h':Heap}
def Cx.Ok.nofr(ok:X.Ok){b:Addr}{o:Obj}(e:X.base.get? b=some o):b∉X.fs:=λhb=>by
 have:=(ok.funs.mem hb).1;rw[e]at this;cases this
def Inv.bs(I:Inv X pins σ H s):∀b o,X.base.get? b=some o->s.heap.get? b=some o/\H b=none:=λb o e=>
 ⟨I.base.keep b o (I.ok.bs b o e).1 (I.ok.bs b o e).2 (I.ok.nofr e) (I.ok.noex b o e),I.base.free b o (I.ok.bs b o e).1 (I.ok.bs b o e).2 (I.ok.noex b o e)⟩
def Inv.bk(I:Inv X pins σ H s):∀b o,X.base.get? b=some o->s.heap.get? b=some o:=λb o e=>(I.bs b o e).1
def Inv.mod(I:Inv X pins σ H s):Mod X.K X.mg X.base:=I.ok.mod
def Inv.kIn(I:Inv X pins σ H s):X.K.In s.heap:=I.ok.mod.kin.keeps I.bk
def Inv.lt(I:Inv X pins σ H s):X.env.locals<s.heap.objs.size:=let ⟨_,hn,_⟩:=I.loc;hn.lt
def Inv.sz(I:Inv X pins σ H s):X.s₀.heap.objs.size<=s.heap.objs.size:=le_trans I.ok.above (le_of_lt I.lt)
def Inv.nofs(I:Inv X pins σ H s){a:Addr}(h:s.heap.objs.size<=a):a∉X.fs:=λhb=>by
 obtain⟨_,o,ho,_⟩:=I.ok.funs.mem hb;exact absurd (lt_of_lt_of_le (Heap.lt_size ho) (le_trans I.sz h)) (lt_irrefl _)
def Inv.cne(I:Inv X pins σ H s):∀x c,X.env.cells.lookup x=some c->c≠X.env.locals:=λx c e z=>by
 obtain⟨v,o,ho,hd⟩:=I.cell x c e;obtain⟨m,⟨o',es,ep,ho',hd',_⟩,_⟩:=I.loc;rw[z,ho']at ho;cases ho;rw[hd']at hd;cases hd
def Inv.funs(I:Inv X pins σ H s):s.heap.FunFrames X.base X.outer:=by
 have all:∀(l:List Env),(∀b∈frs l,b∈X.fs)->X.s₀.heap.FunFrames X.base l->s.heap.FunFrames X.base l:=by
  intro l
  induction l with
  |nil=>intro _ _;trivial
  |cons env r ih=>
   intro hs hl;obtain⟨hk,⟨L,o,hf,hn,ho,hd⟩,hr⟩:=hl;have hL:L∈X.fs:=hs L (by unfold frs;rw[filterMap_cons,hf];exact mem_cons_self);obtain⟨sl,e⟩:=I.base.slot L o ho (I.ok.frf L hL) hL λz=>I.ok.exfs L z hL;exact⟨hk,⟨L,_,hf,hn,e,hd⟩,ih (λb hb=>hs b (by unfold frs;rw[filterMap_cons,hf];exact mem_cons_of_mem _ hb)) hr⟩
 exact all X.outer (λ_ hb=>hb) I.ok.funs
def Inv.stack(I:Inv X pins σ H s):s.heap.FunFrames X.base X.stack:=by
 rcases I.ok.stk with e|⟨e,hf⟩
 .rw[e];exact I.funs
 .rw[e];obtain⟨m,hn,_⟩:=I.loc;refine .cons (by rw[I.ok.kind];decide) hf hn ?_ I.funs;exact Heap.get?_none_of_le (le_trans I.ok.bsz I.ok.above)
def Inv.stkSub(I:Inv X pins σ H s):∀b∈frs X.stack,b∈X.env.locals::X.fs:=λb hb=>by
 rcases I.ok.stk with e|⟨e,hf⟩
 .rw[e]at hb;exact mem_cons_of_mem _ hb
 .rw[e]at hb;unfold frs at hb;rw[filterMap_cons,hf]at hb;exact hb
def Inv.stkFree(I:Inv X pins σ H s):∀b∈frs X.stack,H b=none:=λb hb=>by
 rcases mem_cons.mp (I.stkSub b hb)with e|hb
 .rw[e];exact I.free
 .obtain⟨_,o,ho,_⟩:=I.ok.funs.mem hb;exact I.base.free b o ho (I.ok.frf b hb) λz=>I.ok.exfs b z hb
def Inv.step{g':Array GenState}{t':Nat}{d':Drawn}{ch:List Addr}(I:Inv X pins σ H s)
 (hch:∀b∈ch,(b∈X.ex∨X.s₀.heap.objs.size<=b)/\b≠X.env.locals/\(∀x c,X.env.cells.lookup x=some c->c≠b)/\∀p∈X.pn++pins,p.1≠b)
 (keep:∀b o,b≠X.env.locals->b∉X.fs->b∉ch->s.heap.get? b=some o->H b=none->h'.get? b=some o)
 (slot:∀b o,b≠X.env.locals->b∈X.fs->b∉ch->s.heap.get? b=some o->H b=none->∃sl,h'.get? b=some { o with slots:=sl }) (free:∀b o,b∉ch->s.heap.get? b=some o->H b=none->H' b=none)
 (there:∀b o,b∉ch->s.heap.get? b=some o->∃o',h'.get? b=some o')
 (tups:∀b xs,H b=some (.tup xs)->H' b=some (.tup xs)) (frzs:∀b o u,H b=some (.frz o u)->H' b=some (.frz o u)) (tbls:∀b ps,H b=some (.tbl ps)->∃more,H' b=some (.tbl (ps++more)))
 (ns:∀m,s.heap.Ns X.env.locals m->h'.Ns X.env.locals m) (hok:HOk X.prog X.w H' h') (hg:AllBare g'):
 Inv X pins σ H' { s with heap:=h',gens:=g',drawn:=d',toks:=t' }:=by
 have neL:∀b o,X.s₀.heap.get? b=some o->b≠X.env.locals:=λb o e=>ne_of_lt (lt_of_lt_of_le (Heap.lt_size e) I.ok.above);have neC:∀b o,X.s₀.heap.get? b=some o->b∉X.ex->b∉ch:=λb o e hx hb=>by
  rcases(hch b hb).1 with z|z
  .exact hx z
  .exact absurd (lt_of_lt_of_le (Heap.lt_size e) z) (lt_irrefl _)
 have cellK:∀x c,X.env.cells.lookup x=some c->∀v,s.heap.IsCell c v->h'.IsCell c v:=λx c e v ⟨o,ho,hd⟩=>by
  have nch:c∉ch:=λz=>(hch c z).2.2.1 x c e rfl;by_cases hc:c∈X.fs
  .obtain⟨sl,q⟩:=slot c o (I.cne x c e) hc nch ho (I.freeC x c e);exact⟨_,q,hd⟩
  .exact⟨o,keep c o (I.cne x c e) hc nch ho (I.freeC x c e),hd⟩
 refine⟨I.ok,I.os,hg,⟨λb o e n hb hx=>?_,λb o e n hb hx=>?_,λb o e n hx=>?_,λb o e hx=>?_,λb xs e=>tups b xs (I.base.tups b xs e),λb o xs e=>frzs b o xs (I.base.frzs b o xs e),λb ps e=>?_⟩,?_,λx c e=>?_,?_,λx c e=>?_,λp hp=>?_,hok,I.len⟩
 .exact keep b o (neL b o e) hb (neC b o e hx) (I.base.keep b o e n hb hx) (I.base.free b o e n hx)
 .obtain⟨sl,e1⟩:=I.base.slot b o e n hb hx;obtain⟨sl',e2⟩:=slot b _ (neL b o e) hb (neC b o e hx) e1 (I.base.free b o e n hx);exact⟨sl',e2⟩
 .obtain⟨o',e1⟩:=I.base.there b o e hx;exact free b o' (neC b o e hx) e1 (I.base.free b o e n hx)
 .obtain⟨o',e1⟩:=I.base.there b o e hx;exact there b o' (neC b o e hx) e1
 .obtain⟨m1,e1⟩:=I.base.tbls b ps e;obtain⟨m2,e2⟩:=tbls b _ e1;exact⟨m1++m2,by rw[e2,Array.append_assoc]⟩
 .obtain⟨m,hn,hl⟩:=I.loc;refine⟨m,ns m hn,λi x v e1 e2 e3=>?_⟩;obtain⟨u,r,l⟩:=hl i x v e1 e2 e3;refine⟨u,r,?_⟩;rcases l with l|⟨k,c,e,z⟩
  .exact .inl l
  .exact .inr ⟨k,c,e,cellK x c e _ z⟩
 .obtain⟨v,z⟩:=I.cell x c e;exact⟨v,cellK x c e v z⟩
 .obtain⟨m,⟨o,_,_,ho,_⟩,_⟩:=I.loc;exact free _ o (λz=>(hch _ z).2.1 rfl) ho I.free
 .obtain⟨v,o,ho,hd⟩:=I.cell x c e;exact free c o (λz=>(hch c z).2.2.1 x c e rfl) ho (I.freeC x c e)
 .obtain⟨e,n,ne,nf,d⟩:=I.pin p hp;have nch:p.1∉ch:=λz=>(hch p.1 z).2.2.2 p hp rfl;exact⟨keep p.1 p.2 ne nf nch e n,free p.1 p.2 nch e n,ne,nf,d⟩
def Inv.un{t':Nat}(I:Inv X pins σ H s)(u:Un X.fs [] H H' s.heap h')(hok:HOk X.prog X.w H' h'):Inv X pins σ H' { s with heap:=h',toks:=t' }:=by
 obtain⟨m,⟨o,es,ep,ho,r⟩,_⟩:=id I.loc;obtain⟨sl,hL⟩:=u.any ho I.free (by simp);exact I.step (g':=s.gens) (d':=s.drawn) (ch:=[]) (λ_ z=>nomatch z) (λb o _ hb _ e n=>u.keep b o e n hb (by simp)) (λb o _ hb _ e n=>u.slot b o e n hb (by simp)) (λb o _ e n=>u.free b o e n (by simp)) (λb o _ e=>u.there b o e (by simp)) u.tups u.frzs u.tbls (λm' hm=>by
  obtain⟨o',es',ep',ho',r'⟩:=hm;rw[ho]at ho';cases ho';exact⟨_,es',ep',hL,r'⟩) hok I.bare
def Inv.call{g':Array GenState}{t':Nat}{d':Drawn}{ch:List Addr}(I:Inv X pins σ H s)(u:Un (frs X.stack) ch H H' s.heap h')(hok:HOk X.prog X.w H' h')(hg:AllBare g')
 (hch:∀b∈ch,(b∈X.ex∨X.s₀.heap.objs.size<=b)/\b≠X.env.locals/\(∀x c,X.env.cells.lookup x=some c->c≠b)/\∀p∈X.pn++pins,p.1≠b):
 Inv X pins σ H' { s with heap:=h',gens:=g',drawn:=d',toks:=t' }:=by
 obtain⟨m,⟨o,es,ep,ho,r⟩,_⟩:=id I.loc;obtain⟨sl,hL⟩:=u.any ho I.free λz=>(hch _ z).2.1 rfl;exact I.step (ch:=ch) hch (λb o hL hb hc e n=>u.keep b o e n (λz=>(mem_cons.mp (I.stkSub b z)).elim hL hb) hc) (λb o _ _ hc e n=>u.any e n hc) (λb o hc e n=>u.free b o e n hc) (λb o hc e=>u.there b o e hc) u.tups u.frzs u.tbls (λm' hm=>by
  obtain⟨o',es',ep',ho',r'⟩:=hm;rw[ho]at ho';cases ho';exact⟨_,es',ep',hL,r'⟩) hok hg
def Inv.turned{t':Nat}{it:Addr}(I:Inv X pins σ H s)(k:∀b o,b≠it->s.heap.get? b=some o->h'.get? b=some o)(hn:H it=none)(hL:it≠X.env.locals)
 (h1:it∈X.ex∨X.s₀.heap.objs.size<=it) (h2:∀x c,X.env.cells.lookup x=some c->c≠it) (h3:∀p∈X.pn++pins,p.1≠it):Inv X pins σ H { s with heap:=h',toks:=t' }:=by
 have nit:∀b u,H b=some u->b≠it:=λb u e z=>by rw[z,hn]at e;cases e
 refine I.step (g':=s.gens) (d':=s.drawn) (ch:=[it]) (λb hb=>?_) (λb o _ _ hc e _=>k b o (λz=>hc (by simp[z])) e) (λb o _ _ hc e _=>⟨o.slots,k b o (λz=>hc (by simp[z])) e⟩) (λ_ _ _ _ n=>n)
  (λb o hc e=>⟨o,k b o (λz=>hc (by simp[z])) e⟩) (λ_ _ e=>e) (λ_ _ _ e=>e) (λb ps e=>⟨#[],by rw[e];simp⟩) (λm hm=>?_) (λb u e=>?_) I.bare
 .have e:b=it:=by simpa using hb
  subst e;exact⟨h1,hL,h2,h3⟩
 .obtain⟨o,es,ep,ho,r⟩:=hm;exact⟨o,es,ep,k _ o (Ne.symm hL) ho,r⟩
 .refine(I.hok b u e).stay (λc v hc q=>k c v ?_ q) (λ_ q=>q) λ_ _ q=>q;rcases hc with z|z
  .rw[z];exact nit b u e
  .exact nit c _ z
def Inv.tok(I:Inv X pins σ H s)(t:Nat):Inv X pins σ H { s with toks:=t }:=I.un (h':=s.heap) (t':=t) Un.refl I.hok
def Inv.kept{t':Nat}(I:Inv X pins σ H s)(k:∀b u,s.heap.get? b=some u->h'.get? b=some u):Inv X pins σ H { s with heap:=h',toks:=t' }:=I.un (Un.kept k) (I.hok.kept k)
def Inv.laid{a:Addr}{o:HO}{t':Nat}(I:Inv X pins σ H s)(k:∀b u,s.heap.get? b=some u->h'.get? b=some u)(hp:s.heap.objs.size<=a)(new:ObjOk X.prog X.w (upd H a o) h' a o):
 Inv X pins σ (upd H a o) { s with heap:=h',toks:=t' }:=I.un (Un.laid k hp (I.hok.fresh hp)) (I.hok.laid k hp new)
def Inv.write{x e:Addr}{o:HO}{t':Nat}(I:Inv X pins σ H s)(mu:Mut (H x))(he:e=x∨H e=some (.own x))(k:∀b u,b≠e->s.heap.get? b=some u->h'.get? b=some u)(heo:∃u,h'.get? e=some u)
 (new:ObjOk X.prog X.w (upd H x o) h' x o):Inv X pins σ (upd H x o) { s with heap:=h',toks:=t' }:=I.un (Un.write mu he k heo) (I.hok.write mu he k heo new)
def Inv.pins_of{pins':List (Addr×Obj)}(I:Inv X pins σ H s)(h:∀p∈pins',s.heap.get? p.1=some p.2/\H p.1=none/\p.1≠X.env.locals/\p.1∉X.fs/\∀v,p.2.data≠.cell v):Inv X pins' σ H s:=
 ⟨I.ok,I.os,I.bare,I.base,I.loc,I.cell,I.free,I.freeC,λp hp=>(mem_append.mp hp).elim (λz=>I.pin p (List.mem_append_left _ z)) (h p),I.hok,I.len⟩
def JS{N:List Str}(hN:N.Nodup){i j:Nat}{x:Str}(a:N[i]?=some x)(b:N[j]?=some x):i=j:=by
 obtain⟨h1,e1⟩:=List.getElem?_eq_some_iff.mp a;obtain⟨h2,e2⟩:=List.getElem?_eq_some_iff.mp b;exact(List.getElem_inj hN).mp (e1.trans e2.symm)
def Hx{M:Model}{A:Around}{E:Value->Shared->Prop}{i:Nat}{x:Str}{v:V}{u:Value}{Q:Unit->Shared->Prop}(I:Inv X pins σ H s)(hN:X.N.Nodup)(hi:X.N[i]?=some x)(hx:Loc X.env.scope x)(r:RelV v u)
 (h:∀s',Inv X pins (σ.set i (some v)) H s'->(∃a,Heap.SameBut a s.heap s'.heap/\(a=X.env.locals∨X.env.cells.lookup x=some a))->Q () s') (hf:X.fn x=true∨X.env.scope.names.lookup x=some .local:=by first|exact .inl rfl|exact .inr rfl|assumption):wpAny M A (storeName X.env x u) Q E s:=by
 obtain⟨m,hn,hl⟩:=id I.loc;have hcls:(X.env.scope.kind==.class||(X.env.scope.kind==.module&&X.env.locals != X.env.globals))=false:=by rw[I.ok.kind];rfl
 have hiσ:i<σ.length:=by rw[I.len];exact(List.getElem?_eq_some_iff.mp hi).1
 have cne:=I.cne;have tracked:∀{a:Addr} {h':Heap},(∃o,s.heap.get? a=some o/\H a=none)->Heap.SameBut a s.heap h'->HOk X.prog X.w H h':=λ{a h'} ha hs b ob e=>by
  obtain⟨_,_,hfree⟩:=ha;refine(I.hok b ob e).stay (λc w' hc q=>(hs.2 c ?_).trans q) (λ_ q=>q) λ_ _ q=>q;rintro rfl;rcases hc with rfl|hc
  .rw[hfree]at e;cases e
  .rw[hfree]at hc;cases hc
 rcases hx with hk|hk
 .refine wpAny_storeName_local hk hn (λh' hn' hs=>?_) hcls;obtain⟨oL,_,_,hoL,_⟩:=id hn;refine h _ ⟨I.ok,I.os,I.bare,⟨λb o e n hb hx=>?_,λb o e n hb hx=>?_,I.base.free,λb o e hx=>?_,I.base.tups,I.base.frzs,I.base.tbls⟩,⟨_,hn',λj y v' e1 e2 e3=>?_⟩,λy c e=>?_,I.free,I.freeC,λp hp=>?_,tracked ⟨oL,hoL,I.free⟩ hs,by simpa using I.len⟩ ⟨_,hs,.inl rfl⟩
  .exact(hs.2 b (ne_of_lt (lt_of_lt_of_le (Heap.lt_size e) I.ok.above))).trans (I.base.keep b o e n hb hx)
  .obtain⟨sl,e1⟩:=I.base.slot b o e n hb hx;exact⟨sl,(hs.2 b (ne_of_lt (lt_of_lt_of_le (Heap.lt_size e) I.ok.above))).trans e1⟩
  .obtain⟨o',e1⟩:=I.base.there b o e hx;exact⟨o',(hs.2 b (ne_of_lt (lt_of_lt_of_le (Heap.lt_size e) I.ok.above))).trans e1⟩
  .by_cases hj:j=i
   .subst hj;rw[hi]at e1;cases e1;rw[List.getElem?_set_self hiσ]at e2;cases e2;exact⟨u,r,.inl ⟨hk,by simp⟩⟩
   .rw[List.getElem?_set_ne (Ne.symm hj)]at e2;obtain⟨u',r',q⟩:=hl j y v' e1 e2 e3;refine⟨u',r',?_⟩;rcases q with⟨k,e⟩|⟨k,c,e,z⟩
    .refine .inl ⟨k,?_⟩;have:y≠x:=λe=>hj (JS hN e1 (e ▸ hi));simp[this,e]
    .exact .inr ⟨k,c,e,z.sameBut hs (cne y c e)⟩
  .obtain⟨w',z⟩:=I.cell y c e;exact⟨w',z.sameBut hs (cne y c e)⟩
  .obtain⟨e,n,ne,nf,d⟩:=I.pin p hp;exact⟨(hs.2 p.1 ne).trans e,n,ne,nf,d⟩
 .have hfn:X.fn x=true:=by
   rcases hf with z|z
   .exact z
   .rw[z]at hk;cases hk
  obtain⟨c,hc⟩:=I.ok.has x (.inl hk);obtain⟨w',z⟩:=I.cell x c hc;refine wpAny_storeName_cell I.ok.kind hk hc z (λh' hc' hs=>?_);obtain⟨oc,hoc,hocd⟩:=id z;refine h { s with heap:=h' } ⟨I.ok,I.os,I.bare,⟨λb o e n hb hx=>?_,λb o e n hb hx=>?_,I.base.free,λb o e hx=>?_,I.base.tups,I.base.frzs,I.base.tbls⟩,⟨m,hn.sameBut hs (Ne.symm (cne x c hc)),λj y v' e1 e2 e3=>?_⟩,λy c' e=>?_,I.free,I.freeC,λp hp=>?_,tracked ⟨oc,hoc,I.freeC x c hc⟩ hs,by simpa using I.len⟩ ⟨c,hs,.inr hc⟩
  .exact(hs.2 b (ne_of_lt (lt_of_lt_of_le (Heap.lt_size e) (I.ok.cab x c hfn hc)))).trans (I.base.keep b o e n hb hx)
  .obtain⟨sl,e1⟩:=I.base.slot b o e n hb hx;exact⟨sl,(hs.2 b (ne_of_lt (lt_of_lt_of_le (Heap.lt_size e) (I.ok.cab x c hfn hc)))).trans e1⟩
  .obtain⟨o',e1⟩:=I.base.there b o e hx;exact⟨o',(hs.2 b (ne_of_lt (lt_of_lt_of_le (Heap.lt_size e) (I.ok.cab x c hfn hc)))).trans e1⟩
  .by_cases hj:j=i
   .subst hj;rw[hi]at e1;cases e1;rw[List.getElem?_set_self hiσ]at e2;cases e2;exact⟨u,r,.inr ⟨.inl hk,c,hc,hc'⟩⟩
   .rw[List.getElem?_set_ne (Ne.symm hj)]at e2;obtain⟨u',r',q⟩:=hl j y v' e1 e2 e3;refine⟨u',r',?_⟩;rcases q with q|⟨k,c',e,z'⟩
    .exact .inl q
    .refine .inr ⟨k,c',e,z'.sameBut hs ?_⟩;rintro rfl;exact hj (JS hN e1 (I.ok.inj _ _ _ e hc ▸ hi))
  .by_cases hcc:c'=c
   .subst hcc;exact⟨_,hc'⟩
   .obtain⟨w2,z2⟩:=I.cell y c' e;exact⟨w2,z2.sameBut hs hcc⟩
  .obtain⟨e,n,ne,nf,d⟩:=I.pin p hp;refine⟨(hs.2 p.1 ?_).trans e,n,ne,nf,d⟩;intro q;rw[q,hoc]at e;have q':oc=p.2:=Option.some.inj e;exact d w' (by rw[<- q'];exact hocd)
def CG{M:Model}{A:Around}{E:Value->Shared->Prop}{i:Nat}{x:Str}{v:V}{u:Value}{Q:Unit->Shared->Prop}(I:Inv X pins σ H s)(hN:X.N.Nodup)(hi:X.N[i]?=some x)(hx:Loc X.env.scope x)(r:RelV v u)
 (h:∀s',Inv X pins (σ.set i (some v)) H s'->Q () s') (hf:X.fn x=true∨X.env.scope.names.lookup x=some .local:=by first|exact .inl rfl|exact .inr rfl|assumption):wpAny M A (storeName X.env x u) Q E s:=
 Hx I hN hi hx r (λs' I' _=>h s' I') hf
def Inv.call'{s':Shared}{ch:List Addr}(I:Inv X pins σ H s)(ho:s'.os=s.os)(u:Un (frs X.stack) ch H H' s.heap s'.heap)(hok:HOk X.prog X.w H' s'.heap)(hg:AllBare s'.gens)
 (hch:∀b∈ch,(b∈X.ex∨X.s₀.heap.objs.size<=b)/\b≠X.env.locals/\(∀x c,X.env.cells.lookup x=some c->c≠b)/\∀p∈X.pn++pins,p.1≠b):Inv X pins σ H' s':=by
 obtain⟨h',g',d',t',o'⟩:=s';have e:o'=s.os:=ho;subst e;exact I.call (g':=g') (t':=t') (d':=d') u hok hg hch
end
abbrev XK:=Value->Option Addr->Hp->Prop
abbrev St:=List (Option V)
abbrev VK:=V->Hp->Prop
abbrev TE:=St->Hp->VK->Prop
abbrev TT:=St->Hp->(Bool->Hp->Prop)->Prop
abbrev TA:=St->Hp->(List V->Hp->Prop)->Prop
structure Ends where
 nx:St->Hp->Prop
 rt:VK
 bk:St->Hp->Prop:=λ_ _=>False
 ct:St->Hp->Prop:=λ_ _=>False
abbrev TS:=Ends->St->Hp->Prop
def EP(X:Cx)(pins:List (Addr×Obj))(σ:St)(Q:VK)(u:Value)(s':Shared):Prop:=∃v H',Inv X pins σ H' s'/\RelV v u/\Q v H'
def TP(X:Cx)(pins:List (Addr×Obj))(σ:St)(Q:Bool->Hp->Prop)(b:Bool)(s':Shared):Prop:=∃H',Inv X pins σ H' s'/\Q b H'
def AP(X:Cx)(pins:List (Addr×Obj))(σ:St)(Q:List V->Hp->Prop)(us:List Value)(s':Shared):Prop:=∃vs H',Inv X pins σ H' s'/\Vals vs us/\Q vs H'
def SP(X:Cx)(pins:List (Addr×Obj))(D:Ends)(f:Flow)(s':Shared):Prop:=
 match f with
 |.next=>∃σ' H',Inv X pins σ' H' s'/\D.nx σ' H'
 |.brk=>∃σ' H',Inv X pins σ' H' s'/\D.bk σ' H'
 |.cont=>∃σ' H',Inv X pins σ' H' s'/\D.ct σ' H'
 |.ret u=>∃v σ' H',Inv X pins σ' H' s'/\RelV v u/\D.rt v H'
def PE(X:Cx)(e:Expr)(t:TE):Prop:=
 ∀(pins:List (Addr×Obj)) (s:Shared) (σ:St) (H:Hp) (Q:VK),Inv X pins σ H s->t σ H Q->wpAny (model X.prog X.w) X.A (eval e X.env) (EP X pins σ Q) X.xe s
def PT(X:Cx)(e:Expr)(t:TT):Prop:=
 ∀(pins:List (Addr×Obj)) (s:Shared) (σ:St) (H:Hp) (Q:Bool->Hp->Prop),Inv X pins σ H s->t σ H Q->wpAny (model X.prog X.w) X.A (isTrue e X.env (eval e X.env)) (TP X pins σ Q) X.xe s
def PW(X:Cx)(e:Expr)(t:TT):Prop:=
 ∀(whole:Sem Value) (pins:List (Addr×Obj)) (s:Shared) (σ:St) (H:Hp) (Q:Bool->Hp->Prop),Inv X pins σ H s->t σ H Q->wpAny (model X.prog X.w) X.A (isTrue e X.env whole) (TP X pins σ Q) X.xe s
def PW.pt{X:Cx}{e:Expr}{t:TT}(h:PW X e t):PT X e t:=h _
def PA(X:Cx)(es:List Expr)(t:TA):Prop:=
 ∀(pos:Pos) (pins:List (Addr×Obj)) (s:Shared) (σ:St) (H:Hp) (Q:List V->Hp->Prop),Inv X pins σ H s->t σ H Q->wpAny (model X.prog X.w) X.A (spliced (backTo pos (starEach es X.env))) (AP X pins σ Q) X.xe s
def PS(X:Cx)(st:Stmt)(t:TS):Prop:=
 ∀(pins:List (Addr×Obj)) (s:Shared) (σ:St) (H:Hp) (D:Ends),Inv X pins σ H s->t D σ H->wpAny (model X.prog X.w) X.A (exec st X.env) (SP X pins D) X.xe s
def PSs(X:Cx)(st:List Stmt)(t:TS):Prop:=
 ∀(pins:List (Addr×Obj)) (s:Shared) (σ:St) (H:Hp) (D:Ends),Inv X pins σ H s->t D σ H->wpAny (model X.prog X.w) X.A (execs st X.env) (SP X pins D) X.xe s
def thn{α:Type}{t:Sem α}{Q Q':α->Shared->Prop}{M:Model}{A:Around}{E:Value->Shared->Prop}{s:Shared}(h:wpAny M A t Q E s)(hQ:∀a s,Q a s->Q' a s):wpAny M A t Q' E s:=wpAny_mono h hQ λ_ _ x=>x
section
variable{X:Cx}
def bin{a b:Expr}{ta tb:TE}(ha:PE X a ta)(hb:PE X b tb){pins:List (Addr×Obj)}{s:Shared}{σ:St}{H:Hp}{R:V->V->Hp->Prop}(I:Inv X pins σ H s)(h:ta σ H λx H1=>tb σ H1 λy H2=>R x y H2)
 {α:Type} {Q:α->Shared->Prop} {f:Value->Value->Sem α}
 (hf:∀v u s2 x y H2,Inv X pins σ H2 s2->RelV x v->RelV y u->R x y H2->wpAny (model X.prog X.w) X.A (f v u) Q X.xe s2):
 wpAny (model X.prog X.w) X.A (eval a X.env) (λv s₁=>wpAny (model X.prog X.w) X.A (eval b X.env) (λu s₂=>wpAny (model X.prog X.w) X.A (f v u) Q X.xe s₂) X.xe s₁) X.xe s:=by
 refine thn (ha pins s σ H _ I h) λv s1 ⟨x,H1,I1,r1,q1⟩=>?_;refine thn (hb pins s1 σ H1 _ I1 q1) λu s2 ⟨y,H2,I2,r2,q2⟩=>?_;exact hf v u s2 x y H2 I2 r1 r2 q2
def OG(i:Nat):TE:=λσ H Q=>∃v,σ[i]?=some (some v)/\Q v H
def tC(v:V):TE:=λ_ H Q=>Q v H
def V9{i:Nat}{x:Str}{pos:Pos}(hN:X.N[i]?=some x)(hv:Vis X.env.scope x)(hd:(x==("__debug__":Str))=false:=by decide)(hcd:(x==("__classdict__":Str))=false:=by decide):PE X (.Name x pos) (OG i):=by
 intro pins s σ H Q I h;obtain⟨v,e,h⟩:=h;obtain⟨m,hn,hl⟩:=I.loc;obtain⟨u,r,l⟩:=hl i x v hN e hv;have fin:EP X pins σ Q u s:=⟨v,H,I,r,h⟩
 rcases l with⟨hk,hm⟩|⟨hk,c,hc,hcell⟩
 .exact wpAny_Name (wpAny_loadName_local I.ok.kind hk hn hm fin) hd
 .rcases hk with hk|hk
  .exact wpAny_Name (wpAny_loadName_cell I.ok.kind hk hc hcell fin) hd
  .exact wpAny_Name (wpAny_loadName_free I.ok.kind hk hc hcell fin hcd) hd
def VH{i j pos}:PE X (.Constant (.int i) j pos) (tC (.int i)):=λ_ _ _ H _ I h=>wpAny_Constant_int ⟨.int i,H,I.tok _,⟨_,rfl⟩,h⟩
def Wo{b j pos}:PE X (.Constant (.bool b) j pos) (tC (.bl b)):=λ_ _ _ H _ I h=>Constant_bool ⟨.bl b,H,I,rfl,h⟩
def VE{j pos}:PE X (.Constant .none j pos) (tC .non):=λ_ _ _ H _ I h=>Constant_none ⟨.non,H,I,rfl,h⟩
def VB{x j pos}:PE X (.Constant (.str x) j pos) (tC (.str x)):=λ_ _ _ H _ I h=>Calls.Constant_str ⟨.str x,H,I.tok _,⟨_,rfl⟩,h⟩
def Gl(X:Cx)(x:Str):Prop:=X.env.kindOf x=some .globalImplicit
def T2{E:Value->Shared->Prop}{pins:List (Addr×Obj)}{s:Shared}{σ:St}{H:Hp}{x:Str}{u:Value}{pos:Pos}{Q:Value->Shared->Prop}(I:Inv X pins σ H s)(hg:Gl X x)(hm:X.mg x=some u)(h:Q u s)
 (hd:(x==("__debug__":Str))=false:=by decide):wpAny (model X.prog X.w) X.A (eval (.Name x pos) X.env) Q E s:=
 Calls.Name_function_global I.ok.kind hg (Calls.loadGlobal_global (by rw[I.ok.glob];exact I.mod.glob.keeps I.bk) hm h) hd
def Di{E:Value->Shared->Prop}{pins:List (Addr×Obj)}{s:Shared}{σ:St}{H:Hp}{x:Str}{u:Value}{pos:Pos}{Q:Value->Shared->Prop}(I:Inv X pins σ H s)(hg:Gl X x)(hm:X.mg x=none)(hv:bootBuiltins x=some u)(h:Q u s)
 (hn:x≠"__name__":=by decide) (hd:(x==("__debug__":Str))=false:=by decide):wpAny (model X.prog X.w) X.A (eval (.Name x pos) X.env) Q E s:=by
 obtain⟨mb,h1,h2⟩:=I.mod.blt;exact Calls.Name_function_global I.ok.kind hg (Calls.loadGlobal_builtin (by rw[I.ok.glob];exact I.mod.glob.keeps I.bk) hm (by rw[I.ok.blt];exact h1.keeps I.bk) ((h2 x hn).trans hv) h) hd
variable{a b:Expr}{ta tb:TE}{pos:Pos}
def PC(X:Cx)(op:CmpOp)(a b:Expr)(t:TE):Prop:=
 ∀(pins:List (Addr×Obj)) (s:Shared) (σ:St) (H:Hp) (Q:VK),Inv X pins σ H s->t σ H Q ->
   wpAny (model X.prog X.w) X.A (eval a X.env) (λv s₁=>wpAny (model X.prog X.w) X.A (eval b X.env) (λu s₂=>wpAny (model X.prog X.w) X.A (compareOp op v u) (EP X pins σ Q) X.xe s₂) X.xe s₁) X.xe s
def PQ(b:Expr){op:CmpOp}(h:op≠.In)(h2:op≠.NotIn):behindInMarks op b=false:=by
 have e1:(op==CmpOp.In)=false:=by cases op<;>first|rfl|exact absurd rfl h
 have e2:(op==CmpOp.NotIn)=false:=by cases op<;>first|rfl|exact absurd rfl h2
 cases b<;>simp[behindInMarks,e1,e2]
def VI{op:CmpOp}{t:TE}(h:PC X op a b t)(h1:behindInMarks op b=false:=by first|exact PQ _ (by decide) (by decide)|rfl):PE X (.Compare a [op] [b] pos) t:=λpins s σ H Q I hw=>wpAny_Compare1 (h pins s σ H Q I hw) h1
variable{tA tB':TT}{rest:List Expr}
def OT(t u:TT):TT:=λσ H Q=>t σ H λc H1=>if c=true then u σ H1 Q else Q false H1
def tOr(t u:TT):TT:=λσ H Q=>t σ H λc H1=>if c=true then Q true H1 else u σ H1 Q
def OL(t:TT):TT:=λσ H Q=>t σ H λc H1=>Q (!c) H1
def SH(ha:PT X a tA):PW X (.BoolOp .And [a] pos) tA:=by
 intro wh pins s σ H Q I h;refine isTrue_and (thn (ha pins s σ H Q I h) λc s1 e=>?_);cases c with
 |true=>exact isTrue_and_nil e
 |false=>exact e
def Uy(ha:PT X a tA):PW X (.BoolOp .Or [a] pos) tA:=by
 intro wh pins s σ H Q I h;refine isTrue_or (thn (ha pins s σ H Q I h) λc s1 e=>?_);cases c with
 |false=>exact isTrue_or_nil e
 |true=>exact e
def Uz(ha:PT X a tA)(hb:PW X (.BoolOp .And (b::rest) pos) tB'):PW X (.BoolOp .And (a::b::rest) pos) (OT tA tB'):=by
 intro wh pins s σ H Q I h;refine isTrue_and (thn (ha pins s σ H _ I h) λc s1 ⟨H1,I1,q1⟩=>?_);cases c with
 |true=>exact hb wh pins s1 σ H1 Q I1 q1
 |false=>exact⟨H1,I1,q1⟩
def Wj(ha:PT X a tA)(hb:PW X (.BoolOp .Or (b::rest) pos) tB'):PW X (.BoolOp .Or (a::b::rest) pos) (tOr tA tB'):=by
 intro wh pins s σ H Q I h;refine isTrue_or (thn (ha pins s σ H _ I h) λc s1 ⟨H1,I1,q1⟩=>?_);cases c with
 |true=>exact⟨H1,I1,q1⟩
 |false=>exact hb wh pins s1 σ H1 Q I1 q1
def V0(ha:PT X a tA):PT X (.UnaryOp .Not a pos) (OL tA):=by
 intro pins s σ H Q I h;exact isTrue_not (ha pins s σ H (λc H1=>Q (!c) H1) I h)
def LO(ta tb:TE):TE:=λσ H Q=>ta σ H λx H1=>∃c,x=.bl c/\if c=true then tb σ H1 Q else Q (.bl false) H1
def LK(ta:TE):TE:=λσ H Q=>ta σ H λx H1=>∃c,x=.bl c/\Q (.bl (!c)) H1
def VC{op}{t:TE}(h:PE X a t):PE X (.BoolOp op [a] pos) t:=λpins s σ H Q I hw=>BoolOp_one (h pins s σ H Q I hw)
def VM(ha:PE X a ta)(hb:PE X (.BoolOp .And (b::rest) pos) tb):PE X (.BoolOp .And (a::b::rest) pos) (LO ta tb):=by
 intro pins s σ H Q I h;refine BoolOp_and (thn (ha pins s σ H _ I h) λv s1 ⟨x,H1,I1,r1,q1⟩=>?_);obtain⟨c,rfl,q1⟩:=q1;cases r1;refine wpAny_truthy_bool ?_;cases c with
 |true=>exact hb pins s1 σ H1 Q I1 q1
 |false=>exact⟨.bl false,H1,I1,rfl,q1⟩
def VD(ha:PE X a ta):PE X (.UnaryOp .Not a pos) (LK ta):=by
 intro pins s σ H Q I h;refine UnaryOp_ (thn (ha pins s σ H _ I h) λv s1 ⟨x,H1,I1,r1,q1⟩=>?_);obtain⟨c,rfl,q1⟩:=q1;cases r1;exact not_of (wpAny_truthy_bool ⟨.bl (!c),H1,I1,rfl,q1⟩)
def tIf(t:TT)(ta tb:TE):TE:=λσ H Q=>t σ H λc H1=>if c=true then ta σ H1 Q else tb σ H1 Q
def PJ{c:Expr}(hc:PT X c tA)(ha:PE X a ta)(hb:PE X b tb):PE X (.IfExp c a b pos) (tIf tA ta tb):=by
 intro pins s σ H Q I h;refine wpAny_IfExp (thn (hc pins s σ H _ I h) λd s1 ⟨H1,I1,q1⟩=>?_);cases d with
 |true=>exact ha pins s1 σ H1 Q I1 q1
 |false=>exact hb pins s1 σ H1 Q I1 q1
end
def SqL(K:PySem.W.Frag)(H:Hp)(a:Addr)(xs:List V):Prop:=
 Rd H a (.lst xs) ∨
  ∃(o:Obj) (its:Array Value) (n:Nat),K.lookup a=some o/\o.cls=.type "list"/\o.dict=none/\o.data=.seq its n/\its.size<=sizeLine/\Vals xs its.toList
def SqT(K:PySem.W.Frag)(H:Hp)(a:Addr)(xs:List V):Prop:=
 Rd H a (.tup xs) ∨
  ∃(o:Obj) (its:Array Value) (n:Nat),K.lookup a=some o/\o.cls=.type "tuple"/\o.dict=none/\o.data=.seq its n/\its.size<=sizeLine/\Vals xs its.toList
def Xh:Value->Option V
 |.none=>some .non
 |.bool b=>some (.bl b)
 |.int i _=>some (.int i)
 |.str x _=>some (.str x)
 |.bytes b _=>some (.byt b)
 |.float b _=>some (.flt b)
 |.ref a=>some (.ref a)
 |.type n=>some (.ty n)
 |_=>none
def RelV.abs{x:V}{u:Value}(r:RelV x u):Xh u=some x:=by
 cases x with
 |non=>cases r;rfl
 |bl _=>cases r;rfl
 |int _=>obtain⟨t,rfl⟩:=r;rfl
 |str _=>obtain⟨t,rfl⟩:=r;rfl
 |byt _=>obtain⟨t,rfl⟩:=r;rfl
 |flt _=>obtain⟨t,rfl⟩:=r;rfl
 |ref _=>cases r;rfl
 |ty _=>cases r;rfl
def RelV.inj{x y:V}{u:Value}(r:RelV x u)(q:RelV y u):x=y:=Option.some.inj (r.abs.symm.trans q.abs)
def Vals.inj:∀{xs ys:List V} {us:List Value},Vals xs us->Vals ys us->xs=ys
 |_,_,_,.nil,.nil=>rfl
 |_,_,_,.cons r t,.cons r' t'=>by rw[r.inj r',Vals.inj t t']
section
variable{X:Cx}{pins:List (Addr×Obj)}{σ:St}{H:Hp}{s:Shared}{a:Addr}{xs ys:List V}
def SqL.of{K:PySem.W.Frag}(h:H a=some (.lst xs)):SqL K H a xs:=.inl (.inl h)
def SqT.of{K:PySem.W.Frag}(h:H a=some (.tup xs)):SqT K H a xs:=.inl (.inl h)
def Inv.list(I:Inv X pins σ H s)(h:SqL X.K H a xs):∃its:List Value,Vals xs its/\PlainL s.heap a its.toArray/\xs.length<=sizeLine:=by
 rcases h with h|⟨o,its,n,hk,hc,hd,hs,hz,r⟩
 .obtain⟨z,its,n,r,e⟩:=h.ok I.hok;exact⟨its,r,⟨_,n,e,rfl,rfl,rfl⟩,z⟩
 .refine⟨its.toList,r,⟨o,n,I.kIn a o hk,hc,hd,by simpa using hs⟩,?_⟩;have e:=r.length;simp only[Array.length_toList]at e;omega
def Inv.tuple(I:Inv X pins σ H s)(h:SqT X.K H a xs):∃its:List Value,Vals xs its/\IsTup s.heap a its.toArray/\xs.length<=sizeLine:=by
 rcases h with h|⟨o,its,n,hk,hc,_,hs,hz,r⟩
 .obtain⟨z,its,r,p⟩:=h.ok I.hok;exact⟨its,r,p.t,z⟩
 .refine⟨its.toList,r,⟨o,I.kIn a o hk,hc,n,by simpa using hs⟩,?_⟩;have e:=r.length;simp only[Array.length_toList]at e;omega
def Inv.tupleD(I:Inv X pins σ H s)(h:SqT X.K H a xs):∃ob,s.heap.get? a=some ob/\ob.cls=.type "tuple"/\ob.dict=none:=by
 rcases h with h|⟨o,its,n,hk,hc,hd,_⟩
 .obtain⟨_,_,_,o,e,c,_,d⟩:=h.ok I.hok;exact⟨o,e,c,d⟩
 .exact⟨o,I.kIn a o hk,hc,hd⟩
def Inv.list_inj(I:Inv X pins σ H s)(h:SqL X.K H a xs)(h':SqL X.K H a ys):xs=ys:=by
 obtain⟨its,r,⟨o,n,e,_,_,d⟩,_⟩:=I.list h;obtain⟨its',r',⟨o',n',e',_,_,d'⟩,_⟩:=I.list h';rw[e]at e';cases e';rw[d]at d'
 injection d' with d1 _
 have:its=its':=by simpa using congrArg Array.toList d1
 subst this;exact r.inj r'
def Inv.tuple_inj(I:Inv X pins σ H s)(h:SqT X.K H a xs)(h':SqT X.K H a ys):xs=ys:=by
 obtain⟨its,r,⟨o,e,_,n,d⟩,_⟩:=I.tuple h;obtain⟨its',r',⟨o',e',_,n',d'⟩,_⟩:=I.tuple h';rw[e]at e';cases e';rw[d]at d'
 injection d' with d1 _
 have:its=its':=by simpa using congrArg Array.toList d1
 subst this;exact r.inj r'
end
abbrev Cx.wish(X:Cx)(E:Value->Shared->Prop):Cx:={ X with xe:=E }
abbrev Cx.nox(X:Cx):Cx:=X.wish λ_ _=>False
def Cx.Ok.wish{X:Cx}(ok:X.Ok)(E:Value->Shared->Prop):(X.wish E).Ok:=
 ⟨ok.mod,ok.kind,ok.glob,ok.blt,ok.above,ok.inj,ok.has,ok.cab,ok.hd,ok.frames,ok.stk,ok.exf,ok.bs,ok.bsz,ok.noex,ok.exfs,ok.funs,ok.frf⟩
def Cx.Ok.unwish{X:Cx}{E:Value->Shared->Prop}(ok:(X.wish E).Ok):X.Ok:=
 ⟨ok.mod,ok.kind,ok.glob,ok.blt,ok.above,ok.inj,ok.has,ok.cab,ok.hd,ok.frames,ok.stk,ok.exf,ok.bs,ok.bsz,ok.noex,ok.exfs,ok.funs,ok.frf⟩
section
variable{X:Cx}{pins:List (Addr×Obj)}{σ:St}{H:Hp}{s:Shared}{E:Value->Shared->Prop}
def Inv.wish(I:Inv X pins σ H s)(E:Value->Shared->Prop):Inv (X.wish E) pins σ H s:=⟨I.ok.wish E,I.os,I.bare,I.base,I.loc,I.cell,I.free,I.freeC,I.pin,I.hok,I.len⟩
def Inv.unwish(I:Inv (X.wish E) pins σ H s):Inv X pins σ H s:=⟨I.ok.unwish,I.os,I.bare,I.base,I.loc,I.cell,I.free,I.freeC,I.pin,I.hok,I.len⟩
def SP.unwish{D:Ends}{f:Flow}{s':Shared}(h:SP (X.wish E) pins D f s'):SP X pins D f s':=by
 cases f with
 |next=>obtain⟨σ',H',I,q⟩:=h;exact⟨σ',H',I.unwish,q⟩
 |brk=>obtain⟨σ',H',I,q⟩:=h;exact⟨σ',H',I.unwish,q⟩
 |cont=>obtain⟨σ',H',I,q⟩:=h;exact⟨σ',H',I.unwish,q⟩
 |ret u=>obtain⟨v,σ',H',I,r,q⟩:=h;exact⟨v,σ',H',I.unwish,r,q⟩
def PSs.nox{st:List Stmt}{t:TS}(h:PSs X.nox st t):PSs X st t:=λpins s σ H D I hw=>
 wpAny_mono (h pins s σ H D (I.wish _) hw) (λ_ _ q=>q.unwish) λ_ _ z=>False.elim z
end
section
variable{X:Cx}{st:Stmt}{rest:List Stmt}{t u:TS}{e:Expr}{te:TE}{pos:Pos}
def GW:TS:=λD σ H=>D.nx σ H
def OI(t u:TS):TS:=λD σ H=>t { D with nx:=u D } σ H
def SJ:PSs X [] GW:=λ_ _ σ H _ I h=>wpAny_execs_nil ⟨σ,H,I,h⟩
def P6(h1:PS X st t)(h2:PSs X rest u):PSs X (st::rest) (OI t u):=by
 intro pins s σ H D I h;refine wpAny_execs_cons (thn (h1 pins s σ H { D with nx:=u D } I h) λf s1 q=>?_);cases f with
 |next=>
  obtain⟨σ',H',I',q⟩:=q;exact h2 pins s1 σ' H' D I' q
 |ret v=>exact q
 |brk=>exact q
 |cont=>exact q
def SI(h1:PS X st t):PSs X [st] t:=by
 intro pins s σ H D I h;refine wpAny_execs_cons (thn (h1 pins s σ H D I h) λf s1 q=>?_);cases f with
 |next=>exact wpAny_execs_nil q
 |ret v=>exact q
 |brk=>exact q
 |cont=>exact q
def SL:PS X (.Pass pos) GW:=λ_ _ σ H _ I h=>wpAny_Pass ⟨σ,H,I,h⟩
def Inv.quiet{pins:List (Addr×Obj)}{σ:St}{H:Hp}{s:Shared}(I:Inv X pins σ H s):interactive X.env=false:=by simp[interactive,I.ok.kind]
def LL(te:TE):TS:=λD σ H=>te σ H λ_ H1=>D.nx σ H1
def SN(he:PE X e te)(hs:swapsWith e none pos.line X.env=pure false:=by rfl):PS X (.Expr e pos) (LL te):=by
 intro pins s σ H D I h;exact wpAny_Expr_any (thn (he pins s σ H _ I h) λv s1 ⟨x,H1,I1,r1,q1⟩=>⟨σ,H1,I1,q1⟩) I.quiet hs
def OJ(te:TE):TS:=λD σ H=>te σ H D.rt
def V2(he:PE X e te):PS X (.Return (some e) pos) (OJ te):=by
 intro pins s σ H D I h;exact wpAny_Return_some (thn (he pins s σ H _ I h) λv s1 ⟨x,H1,I1,r1,q1⟩=>⟨x,σ,H1,I1,r1,q1⟩)
def OO(c:TT)(t u:TS):TS:=λD σ H=>c σ H λb H1=>if b=true then t D σ H1 else u D σ H1
def Wl{c:Expr}{a b:List Stmt}{tc:TT}(hc:PT X c tc)(ha:PSs X a t)(hb:PSs X b u):PS X (.If c a b pos) (OO tc t u):=by
 intro pins s σ H D I h;refine wpAny_If (thn (hc pins s σ H _ I h) λd s1 ⟨H1,I1,q1⟩=>?_);cases d with
 |true=>exact ha pins s1 σ H1 D I1 q1
 |false=>exact hb pins s1 σ H1 D I1 q1
end
abbrev TG:=V->St->Hp->(St->Hp->Prop)->Prop
abbrev TGs:=List V->St->Hp->(St->Hp->Prop)->Prop
def PG(X:Cx)(target:Expr)(t:TG):Prop:=
 ∀(pins:List (Addr×Obj)) (s:Shared) (σ:St) (H:Hp) (v:V) (u:Value) (Q:St->Hp->Prop),Inv X pins σ H s->RelV v u->t v σ H Q ->
   wpAny (model X.prog X.w) X.A (assign target X.env u) (λ_ s'=>∃σ' H',Inv X pins σ' H' s'/\Q σ' H') X.xe s
def PGs(X:Cx)(ts:List Expr)(t:TGs):Prop:=
 ∀(pins:List (Addr×Obj)) (s:Shared) (σ:St) (H:Hp) (vs:List V) (us:List Value) (Q:St->Hp->Prop),Inv X pins σ H s->Vals vs us->t vs σ H Q ->
   wpAny (model X.prog X.w) X.A (assignInOrder ((assignEach ts X.env).map (·.2)) us) (λ_ s'=>∃σ' H',Inv X pins σ' H' s'/\Q σ' H') X.xe s
abbrev Pn:=V->V->V->Hp->(Hp->Prop)->Prop
def W9(X:Cx)(t:Pn):Prop:=
 ∀(pins:List (Addr×Obj)) (s:Shared) (σ:St) (H:Hp) (o i v:V) (ov iv u:Value) (Q:Hp->Prop),Inv X pins σ H s->RelV o ov->RelV i iv->RelV v u->t o i v H Q ->
   wpAny (model X.prog X.w) X.A (setItem ov iv u) (λ_ s'=>∃H',Inv X pins σ H' s'/\Q H') X.xe s
section
variable{X:Cx}{pos:Pos}
def Ct(i:Nat):TG:=λv σ H Q=>Q (σ.set i (some v)) H
def SY{i:Nat}{x:Str}(hN:X.N.Nodup)(hi:X.N[i]?=some x)(hx:Loc X.env.scope x)(hf:X.fn x=true∨X.env.scope.names.lookup x=some .local:=by first|exact .inl rfl|exact .inr rfl|assumption):PG X (.Name x pos) (Ct i):=by
 intro pins s σ H v u Q I r h;exact wpAny_assign_Name (CG I hN hi hx r (λs' I'=>⟨_,H,I',h⟩) hf)
def JY:TGs:=λvs σ H Q=>vs=[]/\Q σ H
def Ep(t:TG)(u:TGs):TGs:=λvs σ H Q=>∃v r,vs=v::r/\t v σ H λσ' H'=>u r σ' H' Q
def Kf:PGs X [] JY:=by
 intro pins s σ H vs us Q I r h;obtain⟨e,h⟩:=h;subst e;cases r;exact assignInOrder_nil ⟨σ,H,I,h⟩
def G4{e:Expr}{es:List Expr}{t:TG}{u:TGs}(h1:PG X e t)(h2:PGs X es u)
 (hs:(assignEach (e::es) X.env).map (·.2)=assign e X.env::(assignEach es X.env).map (·.2):=by rfl):PGs X (e::es) (Ep t u):=by
 intro pins s σ H vs us Q I r h;obtain⟨v,vr,e1,h⟩:=h;subst e1;cases r with
 |cons r rr=>
  rw[hs];refine assignInOrder_cons (thn (h1 pins s σ H _ _ _ I r h) λ_ s1 ⟨σ1,H1,I1,q1⟩=>?_);exact h2 pins s1 σ1 H1 _ _ Q I1 rr q1
def Hb(K:PySem.W.Frag)(n:Nat)(t:TGs):TG:=λv σ H Q=>∃a xs,v=.ref a/\SqT K H a xs/\xs.length=n/\t xs σ H Q
def N9{es:List Expr}{k:Nat}{t:TGs}{n:Nat}(hc:X.calm=true)(h:PGs X es t)
 (hn:(assignEach es X.env).length=n:=by rfl) (hst:(assignEach es X.env).findIdx? (·.1)=none:=by rfl):PG X (.Tuple es k pos) (Hb X.K n t):=by
 intro pins s σ H v u Q I r hw;obtain⟨a,xs,e1,hq,hl,hw⟩:=hw;subst e1;cases r;obtain⟨its,rv,ht,hz⟩:=I.tuple hq;refine assign_Tuple_tuple (I.ok.hd hc) ht (by simp[hn,<- hl,rv.length]) hst λh' hx=>?_;have I1:Inv X pins σ H { s with heap:=h' }:=I.kept (t':=s.toks) λb o e=>hx b o (ne_of_lt (Heap.lt_size e)) e;exact h pins _ σ H xs _ Q I1 (by simpa using rv) hw
def Hc(to ti:TE)(t:Pn):TG:=λv σ H Q=>to σ H λo H1=>ti σ H1 λi H2=>t o i v H2 λH3=>Q σ H3
def NA{o i:Expr}{to ti:TE}{t:Pn}(ho:PE X o to)(hi:PE X i ti)(hs:W9 X t)
 (ha:∀v,assign (.Subscript o i pos) X.env v=(do
  let ov <- holding [v] (eval o X.env)
  let iv <- holding [v,ov] (eval i X.env)
  standAt pos
  holding [v,ov,iv] (setItem ov iv v)
  release [v,ov,iv] []):=by intro _;rfl):PG X (.Subscript o i pos) (Hc to ti t):=by
 intro pins s σ H v u Q I r h;rw[ha];refine wpAny_bind (wpAny_holding (thn (ho pins s σ H _ I h) λov s1 ⟨x,H1,I1,r1,q1⟩=>?_));refine wpAny_bind (wpAny_holding (thn (hi pins s1 σ H1 _ I1 q1) λiv s2 ⟨y,H2,I2,r2,q2⟩=>?_));refine wpAny_bind (wpAny_standAt (wpAny_bind (wpAny_holding (thn (hs pins s2 σ H2 x y v ov iv u _ I2 r1 r2 r q2) λ_ s3 ⟨H3,I3,q3⟩=>?_))));exact wpAny_release ⟨σ,H3,I3,q3⟩
def Dz(te:TE)(g:TG):TS:=λD σ H=>te σ H λx H1=>g x σ H1 D.nx
def V5{tg e:Expr}{te:TE}{g:TG}(he:PE X e te)(hg:PG X tg g)(hs:swapsWithSole [tg] e pos.line X.env=pure false:=by rfl)(hw:swappedStores [tg] e X.env=pure none:=by rfl)
 (h1:(assignEach [tg] X.env).map (·.2)=[assign tg X.env]:=by rfl):PS X (.Assign [tg] e pos) (Dz te g):=by
 intro pins s σ H D I h;refine wpAny_Assign_stores (thn (he pins s σ H _ I h) λv s1 ⟨x,H1,I1,r1,q1⟩=>?_) hs hw;rw[h1];exact thn (hg pins s1 σ H1 x v _ I1 r1 q1) λ_ s2 q=>q
def V1{i:Nat}{x:Str}{e:Expr}{te:TE}{pos':Pos}(hN:X.N.Nodup)(hi:X.N[i]?=some x)(hx:Loc X.env.scope x)(he:PE X e te)(hs:swapsWith e (some (.Name x pos')) pos.line X.env=pure false:=by rfl)(hf:X.fn x=true∨X.env.scope.names.lookup x=some .local:=by first|exact .inl rfl|exact .inr rfl|assumption):
 PS X (.Assign [.Name x pos'] e pos) (Dz te (Ct i)):=by
 intro pins s σ H D I h;refine wpAny_Assign_Name (thn (he pins s σ H _ I h) λv s1 ⟨y,H1,I1,r1,q1⟩=>?_) hs;exact CG I1 hN hi hx r1 (λs2 I2=>⟨_,H1,I2,q1⟩) hf
def OK(i j:Nat)(ta:TA):TS:=λD σ H=>ta σ H λvs H1=>∃v w,vs=[v,w]/\D.nx ((σ.set i (some v)).set j (some w)) H1
def V3{i j:Nat}{x y:Str}{a b:Expr}{ta:TA}{px py pt:Pos}{kt k2 pt2}(hc:X.calm=true)(hN:X.N.Nodup)(hi:X.N[i]?=some x)(hj:X.N[j]?=some y)(hij:i≠j)
 (hx:X.env.scope.names.lookup x=some .local) (hy:X.env.scope.names.lookup y=some .local) (ha:PA X [a,b] ta)
 (hw:swappedStores [.Tuple [.Name x px,.Name y py] kt pt] (.Tuple [a,b] k2 pt2) X.env=pure (some [x,y]))
 (hs:swapsWithSole [.Tuple [.Name x px,.Name y py] kt pt] (.Tuple [a,b] k2 pt2) pos.line X.env=pure false:=by rfl):
 PS X (.Assign [.Tuple [.Name x px,.Name y py] kt pt] (.Tuple [a,b] k2 pt2) pos) (OK i j ta):=by
 intro pins s σ H D I h;rw[exec_Assign_arm];refine wpAny_bind (wpAny_standAt ?_);rw[hs];refine wpAny_bind (wpAny_pure ?_);rw[if_neg (by decide)];refine wpAny_bind (Tuple_ (thn (ha _ pins s σ H _ I h) λus s1 ⟨vs,H1,I1,r1,q1⟩=>?_));obtain⟨v,w,e1,q1⟩:=q1;subst e1;obtain⟨u1,u2,rfl,rv,rw'⟩:∃u1 u2,us=[u1,u2]/\RelV v u1/\RelV w u2:=by
  cases r1 with
  |cons p q=>
   cases q with
   |cons p' q'=>
    cases q';exact⟨_,_,rfl,p,p'⟩
 refine wpAny_newObj_type ?_ (by show 2<=sizeLine;decide);have I2:Inv X pins σ H1 { s1 with heap:=s1.heap.push { cls:=.type "tuple",data:=.seq [u1,u2].toArray } }:=I1.kept (t':=s1.toks) λb o e=>Heap.get?_push_of_some _ e;rw[hw];refine wpAny_bind (wpAny_pure ?_);show wpAny (model X.prog X.w) X.A (do rule "assign.swapped-stores";let items <- unpackItems (.ref s1.heap.objs.size) 2 none;assignInOrder [λv=>bindName X.env y v,λv=>bindName X.env x v] items.reverse;pure Flow.next) _ _ _;refine wpAny_bind (wpAny_rule (wpAny_bind (unpackItems_tuple (items:=#[u1,u2]) (I.ok.hd hc) (IsTup.new s1.heap _) λh' hx'=>?_)));have I3:=I2.kept (h':=h') (t':=s1.toks) λb o e=>hx' b o (ne_of_lt (Heap.lt_size e)) e;show wpAny _ _ (assignInOrder [λv=>bindName X.env y v,λv=>bindName X.env x v] [u2,u1] >>= λ_=>pure Flow.next) _ _ _;refine wpAny_bind (assignInOrder_cons (wpAny_bindName (CG I3 hN hj (.inl hy) rw' (λs2 I4=>?_) (.inr hy))));refine assignInOrder_cons (wpAny_bindName (CG I4 hN hi (.inl hx) rv (λs3 I5=>assignInOrder_nil (wpAny_pure ?_)) (.inr hx)));rw[List.set_comm _ _ (Ne.symm hij)]at I5;exact⟨_,H1,I5,q1⟩
end
structure It where
 go:Nat->Hp->Prop
 yld:Nat->Hp->V->Hp->Prop
 stop:Nat->Hp->Prop
def C6(X:Cx)(pins:List (Addr×Obj))(H:Hp)(b:Addr):Prop:=
 H b=none/\b≠X.env.locals/\b∉X.fs/\(b∈X.ex∨X.s₀.heap.objs.size<=b)/\(∀x c,X.env.cells.lookup x=some c->c≠b)/\∀p∈X.pn++pins,p.1≠b
def Inv.fpOk{X:Cx}{pins:List (Addr×Obj)}{σ:St}{H H':Hp}{s:Shared}{b:Addr}(I:Inv X pins σ H s)(hb:s.heap.objs.size<=b)(hn:H' b=none):C6 X pins H' b:=by
 refine⟨hn,ne_of_gt (lt_of_lt_of_le I.lt hb),I.nofs hb,.inr (le_trans I.sz hb),λx c e z=>?_,λp hp z=>?_⟩
 .obtain⟨v,q⟩:=I.cell x c e;exact absurd (lt_of_lt_of_le q.lt (by rw[z];exact hb)) (lt_irrefl _)
 .exact absurd (lt_of_lt_of_le (Heap.lt_size (I.pin p hp).1) (by rw[z];exact hb)) (lt_irrefl _)
structure Turn(P:Program)(w:World)(K:PySem.W.Frag)(tg:Expr)(J:It)(fp:List Addr)(it:Addr)(tn:Nat->Heap->Prop):Prop where
 mem:it∈fp
 obj:∀i h,tn i h->∀b∈fp,∃o,h.get? b=some o/\∀v,o.data≠.cell v
 keep:∀i h h',tn i h->(∀b∈fp,∀o,h.get? b=some o->h'.get? b=some o)->tn i h'
 item:∀(X:Cx),X.prog=P->X.w=w->X.K=K->X.calm=true->∀(i:Nat) (pins:List (Addr×Obj)) (s:Shared) (σ:St) (H:Hp) (E:Value->Shared->Prop),Inv X pins σ H s->(∀b∈fp,C6 X pins H b)->tn i s.heap->J.go i H ->
  wpAny (model P w) X.A (pyNext (.ref it)) (λr s1=>∃u,r=some u /\
   wpAny (model P w) X.A (letOwnedTupleGo tg (.ref it) u) (λ_ s2=>∃x H',Inv X pins σ H' s2/\RelV x u/\J.yld i H x H'/\tn (i+1) s2.heap/\∀b∈fp,H' b=none) E s1) E s
 done:∀(X:Cx),X.prog=P->X.w=w->X.K=K->X.calm=true->∀(i:Nat) (pins:List (Addr×Obj)) (s:Shared) (σ:St) (H:Hp) (E:Value->Shared->Prop),Inv X pins σ H s->(∀b∈fp,C6 X pins H b)->tn i s.heap->J.stop i H ->
  wpAny (model P w) X.A (pyNext (.ref it)) (λr s1=>r=none/\Inv X pins σ H s1) E s
 self:∀(A:Around) (i:Nat) (s:Shared) (Q:Value->Shared->Prop) (E:Value->Shared->Prop),tn i s.heap->Q (.ref it) s->wpAny (model P w) A (pyIter (.ref it)) Q E s
abbrev TI:=St->Hp->(It->Hp->Prop)->Prop
def PIE(X:Cx)(pins:List (Addr×Obj))(σ:St)(tg:Expr)(R:It->Hp->Prop)(itv:Value)(s2:Shared):Prop:=
 ∃(it:Addr) (fp:List Addr) (tn:Nat->Heap->Prop) (J:It) (H':Hp),itv=.ref it/\Inv X pins σ H' s2/\Turn X.prog X.w X.K tg J fp it tn/\tn 0 s2.heap/\(∀b∈fp,C6 X pins H' b)/\R J H'
def PI(X:Cx)(tg iter:Expr)(wi:TI):Prop:=
 ∀(pins:List (Addr×Obj)) (s:Shared) (σ:St) (H:Hp) (R:It->Hp->Prop),Inv X pins σ H s->wi σ H R ->
   wpAny (model X.prog X.w) X.A (eval iter X.env) (λv s1=>wpAny (model X.prog X.w) X.A (pyIter v) (PIE X pins σ tg R) X.xe s1) X.xe s
def M3{M:Model}{A:Around}{E:Value->Shared->Prop}{s:Shared}{tg:Expr}{it:Addr}{u:Value}{o:Obj}{n:String}{vs:Array Value}{Q:Unit->Shared->Prop}(ho:s.heap.get? it=some o)(hc:o.cls=.type n)(hd:o.data=.fields vs)
 (hn:["enumerate","zip","dict_itemiterator","dict_reverseitemiterator","odict_iterator","itertools.zip_longest","itertools.pairwise"].contains n=false) (hQ:Q () s):wpAny M A (letOwnedTupleGo tg (.ref it) u) Q E s:=by
 unfold letOwnedTupleGo;cases tg<;>first
  |exact wpAny_pure hQ
  | (cases u<;>first
   |exact wpAny_pure hQ
   | (refine wpAny_bind (wpAny_load ho ?_)
      rw[hc,hd];show wpAny M A (if(["enumerate","zip","dict_itemiterator","dict_reverseitemiterator","odict_iterator","itertools.zip_longest","itertools.pairwise"].contains n&&vs[0]?==some (rawInt _))=true then _ else _) Q E s;rw[if_neg (by intro h;rw[hn,Bool.false_and]at h;cases h)];exact wpAny_pure hQ))
def Itl(K:PySem.W.Frag)(a:Addr):It:=
 ⟨λi H=>∃xs x,SqL K H a xs/\xs[i]?=some x,λi H x H'=>H'=H/\∀xs,SqL K H a xs->xs[i]?=some x,λi H=>∃xs,SqL K H a xs/\xs.length<=i⟩
def Itt(K:PySem.W.Frag)(a:Addr):It:=
 ⟨λi H=>∃xs x,SqT K H a xs/\xs[i]?=some x,λi H x H'=>H'=H/\∀xs,SqT K H a xs->xs[i]?=some x,λi H=>∃xs,SqT K H a xs/\xs.length<=i⟩
def Itr(lo:Int)(n:Nat):It:=⟨λi _=>i<n,λi H x H'=>H'=H/\x=.int (lo+i),λi _=>n<=i⟩
def MY{P:Program}{w:World}{K:PySem.W.Frag}{tg:Expr}(a it:Addr):Turn P w K tg (Itl K a) [it] it (λi h=>h.IsListIter it a i) where
 mem:=by simp
 obj:=λi h st b hb=>by
  have e:b=it:=by simpa using hb
  subst e;obtain⟨o,e,c,d⟩:=st;exact⟨o,e,λv z=>by rw[d]at z;cases z⟩
 keep:=λi h h' st k=>st.at λo e=>k it (by simp) o e
 item:=by
  intro X hP hw hK hc i pins s σ H E I hf st hg;subst hP hw hK;obtain⟨xs,x,hq,hx⟩:=hg;obtain⟨its,rv,p,hz⟩:=I.list hq;obtain⟨u,hu,ru⟩:=rv.get hx;obtain⟨f0,f1,f2,f3,f4,f5⟩:=hf it (by simp);refine wpAny_pyNext_list_item st p.isList (x:=u) (by simpa using hu) λh' st' sb=>?_;have I1:Inv X pins σ H { s with heap:=h' }:=I.turned (t':=s.toks) (λb o hb e=>(sb.2 b hb).trans e) f0 f1 f3 f4 f5;obtain⟨o,e,c,d⟩:=id st';exact⟨u,rfl,M3 (s:={ s with heap:=h' }) e c d (by decide) ⟨x,H,I1,ru,⟨rfl,λys hy=>by rw[I.list_inj hy hq];exact hx⟩,st',λb hb=>(hf b hb).1⟩⟩
 done:=by
  intro X hP hw hK hc i pins s σ H E I hf st hg;subst hP hw hK;obtain⟨xs,hq,hx⟩:=hg;obtain⟨its,rv,p,hz⟩:=I.list hq;obtain⟨f0,f1,f2,f3,f4,f5⟩:=hf it (by simp);have hl:=rv.length;exact wpAny_pyNext_list_end (I.ok.hd hc) st p.isList (by simp;omega) λh' eb=>⟨rfl,I.turned (t':=s.toks) (λb o hb e=>eb b o hb e) f0 f1 f3 f4 f5⟩
 self:=λ_ _ _ _ _ st h=>wpAny_pyIter_listiter st h
def LA{P:Program}{w:World}{K:PySem.W.Frag}{tg:Expr}(a it:Addr):Turn P w K tg (Itt K a) [it] it (λi h=>h.IsTupleIter it a i) where
 mem:=by simp
 obj:=λi h st b hb=>by
  have e:b=it:=by simpa using hb
  subst e;obtain⟨o,e,c,d⟩:=st;exact⟨o,e,λv z=>by rw[d]at z;cases z⟩
 keep:=λi h h' st k=>st.at λo e=>k it (by simp) o e
 item:=by
  intro X hP hw hK hc i pins s σ H E I hf st hg;subst hP hw hK;obtain⟨xs,x,hq,hx⟩:=hg;obtain⟨its,rv,p,hz⟩:=I.tuple hq;obtain⟨u,hu,ru⟩:=rv.get hx;obtain⟨f0,f1,f2,f3,f4,f5⟩:=hf it (by simp);refine wpAny_pyNext_tuple_item st (show s.heap.IsTuple a its.toArray from p) (x:=u) (by simpa using hu) λh' st' sb=>?_;have I1:Inv X pins σ H { s with heap:=h' }:=I.turned (t':=s.toks) (λb o hb e=>(sb.2 b hb).trans e) f0 f1 f3 f4 f5;obtain⟨o,e,c,d⟩:=id st';exact⟨u,rfl,M3 (s:={ s with heap:=h' }) e c d (by decide) ⟨x,H,I1,ru,⟨rfl,λys hy=>by rw[I.tuple_inj hy hq];exact hx⟩,st',λb hb=>(hf b hb).1⟩⟩
 done:=by
  intro X hP hw hK hc i pins s σ H E I hf st hg;subst hP hw hK;obtain⟨xs,hq,hx⟩:=hg;obtain⟨its,rv,p,hz⟩:=I.tuple hq;obtain⟨f0,f1,f2,f3,f4,f5⟩:=hf it (by simp);have hl:=rv.length;exact wpAny_pyNext_tuple_end (I.ok.hd hc) st (show s.heap.IsTuple a its.toArray from p) (by simp;omega) λh' eb=>⟨rfl,I.turned (t':=s.toks) (λb o hb e=>eb b o hb e) f0 f1 f3 f4 f5⟩
 self:=λ_ _ _ _ _ st h=>wpAny_pyIter_tupleiter st h
def LB{P:Program}{w:World}{K:PySem.W.Frag}{tg:Expr}(it:Addr)(lo:Int)(n:Nat):Turn P w K tg (Itr lo n) [it] it (λi h=>IsRangeIter h it (lo+(i:Nat)*1) ((n:Int)-(i:Nat)) 1) where
 mem:=by simp
 obj:=λi h st b hb=>by
  have e:b=it:=by simpa using hb
  subst e;exact⟨_,st,λv z=>by
   have z':Data.fields _=Data.cell v:=z;cases z'⟩
 keep:=λi h h' st k=>k it (by simp) _ st
 item:=by
  intro X hP hw hK hc i pins s σ H E I hf st hg;subst hP hw hK;obtain⟨f0,f1,f2,f3,f4,f5⟩:=hf it (by simp);have W:=Walks.range (prog:=X.prog) (w:=X.w) (I.ok.hd hc) it lo 1 n;refine W.item i s _ _ hg st λv h' tk hv st' kk=>?_;obtain⟨t,rfl⟩:=hv;have I1:Inv X pins σ H { s with heap:=h',toks:=tk }:=I.turned (λb o hb e=>kk b o (by simpa using hb) e) f0 f1 f3 f4 f5;refine⟨_,rfl,M3 (s:={ s with heap:=h',toks:=tk }) (n:="range_iterator") st' rfl rfl (by decide) ⟨.int (lo+i),H,I1,⟨t,?_⟩,⟨rfl,rfl⟩,st',λb hb=>(hf b hb).1⟩⟩;rw[Int.mul_one]
 done:=by
  intro X hP hw hK hc i pins s σ H E I hf st hg;subst hP hw hK;obtain⟨f0,f1,f2,f3,f4,f5⟩:=hf it (by simp);exact wpAny_pyNext_range_end (I.ok.hd hc) st (by have:n<=i:=hg;omega) λh' eb=>⟨rfl,I.turned (t':=s.toks) (λb o hb e=>eb b o hb e) f0 f1 f3 f4 f5⟩
 self:=λ_ _ _ _ _ st h=>wpAny_pyIter_rangeiter st h
section
variable{X:Cx}{tg:Expr}
def Fg(K:PySem.W.Frag)(tl:TE):TI:=λσ H R=>tl σ H λx H1=>∃a,x=.ref a/\(∃xs,SqL K H1 a xs)/\R (Itl K a) H1
def Lz(K:PySem.W.Frag)(tl:TE):TI:=λσ H R=>tl σ H λx H1=>∃a,x=.ref a/\(∃xs,SqT K H1 a xs)/\R (Itt K a) H1
def SW{l:Expr}{tl:TE}(hl:PE X l tl):PI X tg l (Fg X.K tl):=by
 intro pins s σ H R I h;refine thn (hl pins s σ H _ I h) λv s1 ⟨x,H1,I1,r1,q1⟩=>?_;obtain⟨a,e,⟨xs,hq⟩,q⟩:=q1;subst e;cases r1;obtain⟨its,rv,p,hz⟩:=I1.list hq;refine wpAny_pyIter_list p.isList ?_;refine⟨s1.heap.objs.size,[s1.heap.objs.size],_,_,H1,rfl,I1.kept (t':=s1.toks) λb o e=>Heap.get?_push_of_some _ e,MY a _,⟨_,Heap.get?_push_size _ rfl,rfl,rfl⟩,λb hb=>?_,q⟩;have e:b=s1.heap.objs.size:=by simpa using hb
 subst e;exact I1.fpOk (le_refl _) (I1.hok.fresh (le_refl _))
def V6{l:Expr}{tl:TE}(hl:PE X l tl):PI X tg l (Lz X.K tl):=by
 intro pins s σ H R I h;refine thn (hl pins s σ H _ I h) λv s1 ⟨x,H1,I1,r1,q1⟩=>?_;obtain⟨a,e,⟨xs,hq⟩,q⟩:=q1;subst e;cases r1;obtain⟨its,rv,p,hz⟩:=I1.tuple hq;refine wpAny_pyIter_tuple (show s1.heap.IsTuple a its.toArray from p) ?_;refine⟨s1.heap.objs.size,[s1.heap.objs.size],_,_,H1,rfl,I1.kept (t':=s1.toks) λb o e=>Heap.get?_push_of_some _ e,LA a _,⟨_,Heap.get?_push_size _ rfl,rfl,rfl⟩,λb hb=>?_,q⟩;have e:b=s1.heap.objs.size:=by simpa using hb
 subst e;exact I1.fpOk (le_refl _) (I1.hok.fresh (le_refl _))
def JI{pins:List (Addr×Obj)}{σ:St}{H:Hp}{s:Shared}{R:It->Hp->Prop}{E:Value->Shared->Prop}{lo hi:Int}{t u v:Tok}{tk:Nat}(I:Inv X pins σ H s)(h1:-(2^62)<=lo)(h2:lo<2^62)(h3:-(2^62)<=hi)(h4:hi<2^62)
 (q:R (Itr lo (hi-lo).toNat) H):wpAny (model X.prog X.w) X.A (pyIter (.ref s.heap.objs.size)) (PIE X pins σ tg R) E { s with heap:=s.heap.push { cls:=.type "range",data:=.fields #[.int lo t,.int hi u,.int 1 v] },toks:=tk }:=by
 refine wpAny_pyIter_range (IsRange.new ..) (small_one h1 h2 h3 h4) ?_;have I1:Inv X pins σ H { s with heap:=s.heap.push { cls:=.type "range",data:=.fields #[.int lo t,.int hi u,.int 1 v] },toks:=tk }:=I.kept λb o e=>Heap.get?_push_of_some _ e;refine⟨(s.heap.push { cls:=.type "range",data:=.fields #[.int lo t,.int hi u,.int 1 v] }).objs.size,[(s.heap.push { cls:=.type "range",data:=.fields #[.int lo t,.int hi u,.int 1 v] }).objs.size],_,_,H,rfl,
  I1.kept (t':=tk) λb o e=>Heap.get?_push_of_some _ e,LB _ lo (hi-lo).toNat,?_,λb hb=>?_,q⟩
 .have e1:lo+((0:Nat):Int)*1=lo:=by simp
  have e2:(((hi-lo).toNat:Nat):Int)-((0:Nat):Int)=Builtin.Range.rangeSize lo hi 1:=by rw[rangeSize_one];split<;>omega
  show IsRangeIter _ _ (lo+((0:Nat):Int)*1) ((((hi-lo).toNat:Nat):Int)-((0:Nat):Int)) 1;rw[e1,e2];exact Heap.get?_push_size _ rfl
 .have e:b=(s.heap.push { cls:=.type "range",data:=.fields #[.int lo t,.int hi u,.int 1 v] }).objs.size:=by simpa using hb
  subst e;exact I1.fpOk (le_refl _) (I1.hok.fresh (le_refl _))
def M1(ta:TA):TI:=λσ H R=>ta σ H λvs H1=>∃j:Int,vs=[.int j]/\-(2^62)<=j/\j<2^62/\R (Itr 0 j.toNat) H1
def M0(ta:TA):TI:=λσ H R=>ta σ H λvs H1=>∃i j:Int,vs=[.int i,.int j]/\(-(2^62)<=i/\i<2^62/\-(2^62)<=j/\j<2^62)/\R (Itr i (j-i).toNat) H1
def N8{a:Expr}{ta:TA}{p pos:Pos}(hg:Gl X "range")(hm:X.mg "range"=none)(ha:PA X [a] ta)(hs:starEach [a] X.env=[(false,eval a X.env)]:=by rfl):PI X tg (.Call (.Name "range" p) [a] [] pos) (M1 ta):=by
 intro pins s σ H R I h;refine Call_ (Di I hg hm boot_range (PyProof.Rows.callWith_type1 (thn (ha pos pins s σ H _ I h) λus s1 ⟨vs,H1,I1,r1,q1⟩=>?_) hs rfl));obtain⟨j,e,q1,q2,q⟩:=q1;subst e;cases r1 with
 |cons r rr=>
  cases rr;obtain⟨t,rfl⟩:=r;exact call_range_1 (JI I1 (by omega) (by omega) q1 q2 (by simpa using q))
def N7{a b:Expr}{ta:TA}{p pos:Pos}(hg:Gl X "range")(hm:X.mg "range"=none)(ha:PA X [a,b] ta)(hs:starEach [a,b] X.env=[(false,eval a X.env),(false,eval b X.env)]:=by rfl)(hs2:starEach [b] X.env=[(false,eval b X.env)]:=by rfl):
 PI X tg (.Call (.Name "range" p) [a,b] [] pos) (M0 ta):=by
 intro pins s σ H R I h;refine Call_ (Di I hg hm boot_range (PyProof.Rows.callWith_type1 (thn (ha pos pins s σ H _ I h) λus s1 ⟨vs,H1,I1,r1,q1⟩=>?_) (by rw[hs,hs2]) (by rw[hs2];rfl)));obtain⟨i,j,e,⟨q1,q2,q3,q4⟩,q⟩:=q1;subst e;cases r1 with
 |cons r rr=>
  cases rr with
  |cons r' rr=>
   cases rr;obtain⟨t,rfl⟩:=r;obtain⟨t',rfl⟩:=r';exact call_range_2 (JI I1 q1 q2 q3 q4 q)
def OP(wi:TI)(g:TG)(tb:TS):TS:=λD σ H=>wi σ H λJ H1=>∃W:Nat->Nat->St->Hp->Prop,(∃m,W 0 m σ H1)/\∀i m σ H,W i m σ H ->
 (J.stop i H/\D.nx σ H)∨(J.go i H/\∃N:St->Hp->Prop,(∀σ' H',N σ' H'->∃m',m'<m/\W (i+1) m' σ' H')/\∀x H',J.yld i H x H'->g x σ H' λσ2 H2=>tb { D with nx:=N,ct:=N,bk:=D.nx } σ2 H2)
def EG(fp:List Addr)(h:Heap):List (Addr×Obj):=fp.filterMap λb=>(h.get? b).map λo=>(b,o)
def C3{fp:List Addr}{h:Heap}{b:Addr}{o:Obj}(hb:b∈fp)(e:h.get? b=some o):(b,o)∈EG fp h:=mem_filterMap.mpr ⟨b,hb,by rw[e];rfl⟩
def NJ{fp:List Addr}{h:Heap}{p:Addr×Obj}(hp:p∈EG fp h):p.1∈fp/\h.get? p.1=some p.2:=by
 obtain⟨b,hb,e⟩:=mem_filterMap.mp hp;cases q:h.get? b with
 |none=>rw[q]at e;cases e
 |some o=>
  rw[q]at e;have e':(b,o)=p:=Option.some.inj e;subst e';exact⟨hb,q⟩
def Inv.pinned{pins:List (Addr×Obj)}{σ:St}{H:Hp}{s:Shared}{fp:List Addr}(I:Inv X pins σ H s)(hf:∀b∈fp,C6 X pins H b)(ho:∀b∈fp,∃o,s.heap.get? b=some o/\∀v,o.data≠.cell v):Inv X (pins++EG fp s.heap) σ H s:=
 I.pins_of λp hp=>(mem_append.mp hp).elim (λz=>I.pin p (mem_append_right _ z)) λz=>by
  obtain⟨hb,e⟩:=NJ z;obtain⟨f0,f1,f2,_⟩:=hf p.1 hb;obtain⟨o,e',d⟩:=ho p.1 hb;rw[e]at e';cases e';exact⟨e,f0,f1,f2,d⟩
def Inv.unpinned{pins pl:List (Addr×Obj)}{σ:St}{H:Hp}{s:Shared}(I:Inv X (pins++pl) σ H s):Inv X pins σ H s:=I.pins_of λp hp=>I.pin p (mem_append_right _ (List.mem_append_left _ hp))
def V4{iter:Expr}{body:List Stmt}{wi:TI}{g:TG}{tb:TS}{pos:Pos}(hp:PassesOwn (model X.prog X.w) X.A X.env X.xe)(hc:X.calm=true)(hi:PI X tg iter wi)(hg:PG X tg g)(hb:PSs X body tb)
 (hs:∀x,foldedSetIterable iter X.env x=pure x:=by intro _;rfl):PS X (.For tg iter body [] pos) (OP wi g tb):=by
 intro pins s σ H D I h;refine wpAny_For (thn (hi pins s σ H _ I h) λv s1 h1=>thn h1 λitv s2 h2=>?_) hs;obtain⟨it,fp,tn,J,H2,e,I2,T,st2,f2,W,⟨m0,w0⟩,turn⟩:=h2;subst e
 -- what stays true of the iterator's objects through the loop
 have stat:∀{H':Hp},(∀b∈fp,H' b=none)->∀b∈fp,C6 X pins H' b:=λhn b hb=>⟨hn b hb,(f2 b hb).2⟩
 refine codeAny_forLoop_any (λn s'=>∃i σ' H',Inv X pins σ' H' s'/\tn i s'.heap/\(∀b∈fp,H' b=none)/\W i n σ' H') ?_ m0 ⟨0,σ,H2,I2,st2,λb hb=>(f2 b hb).1,w0⟩;rintro n s3 ⟨i,σ3,H3,I3,st3,fr3,w3⟩;rcases turn i n σ3 H3 w3 with⟨stop,qn⟩|⟨go,N,hN,step⟩
 .refine wpAny_passesOwn hp (thn (T.done X rfl rfl rfl hc i pins s3 σ3 H3 X.xe I3 (stat fr3) st3 stop) λr s4 ⟨hr,I4⟩=>?_);subst hr;exact wpAny_execs_nil ⟨σ3,H3,I4,qn⟩
 .refine wpAny_passesOwn hp (thn (T.item X rfl rfl rfl hc i pins s3 σ3 H3 X.xe I3 (stat fr3) st3 go) λr s4 ⟨u,hr,h4⟩=>?_);subst hr;refine wpAny_passesOwn hp (thn h4 λ_ s5 ⟨x,H5,I5,r5,y5,st5,fr5⟩=>?_);have I5':=I5.pinned (stat fr5) (T.obj _ _ st5);refine wpAny_passesOwn hp (thn (hg _ s5 σ3 H5 x u _ I5' r5 (step x H5 y5)) λ_ s6 ⟨σ6,H6,I6,q6⟩=>?_);refine wpAny_passesOwn hp (thn (hb _ s6 σ6 H6 _ I6 q6) λf s7 q7=>?_);have again:∀{σ7:St} {H7:Hp},Inv X (pins++EG fp s5.heap) σ7 H7 s7->N σ7 H7->∃m,m<n/\∃i σ' H',Inv X pins σ' H' s7/\tn i s7.heap/\(∀b∈fp,H' b=none)/\W i m σ' H':=λ{σ7 H7} I7 n7=>by
   obtain⟨m',hm,w7⟩:=hN σ7 H7 n7;refine⟨m',hm,i+1,σ7,H7,I7.unpinned,T.keep _ _ _ st5 λb hb o e=>(I7.pin (b,o) (mem_append_right _ (mem_append_right _ (C3 hb e)))).1,λb hb=>?_,w7⟩;obtain⟨o,e,d⟩:=T.obj _ _ st5 b hb;exact(I7.pin (b,o) (mem_append_right _ (mem_append_right _ (C3 hb e)))).2.1
  cases f with
  |next=>obtain⟨σ7,H7,I7,n7⟩:=q7;exact again I7 n7
  |cont=>obtain⟨σ7,H7,I7,n7⟩:=q7;exact again I7 n7
  |brk=>obtain⟨σ7,H7,I7,q7⟩:=q7;exact⟨σ7,H7,I7.unpinned,q7⟩
  |ret v=>obtain⟨x7,σ7,H7,I7,r7,q7⟩:=q7;exact⟨x7,σ7,H7,I7.unpinned,r7,q7⟩
end
abbrev R2:=V->V->Hp->VK->Prop
def OpR(X:Cx)(f:Value->Value->Sem Value)(r:R2):Prop:=
 ∀(pins:List (Addr×Obj)) (s:Shared) (σ:St) (H:Hp) (x y:V) (v u:Value) (Q:VK),Inv X pins σ H s->RelV x v->RelV y u->r x y H Q ->
   wpAny (model X.prog X.w) X.A (f v u) (EP X pins σ Q) X.xe s
def UnR(X:Cx)(f:Value->Sem Value)(r:V->Hp->VK->Prop):Prop:=
 ∀(pins:List (Addr×Obj)) (s:Shared) (σ:St) (H:Hp) (x:V) (v:Value) (Q:VK),Inv X pins σ H s->RelV x v->r x H Q ->
   wpAny (model X.prog X.w) X.A (f v) (EP X pins σ Q) X.xe s
def CallR(X:Cx)(f:Value)(r:List V->Hp->VK->Prop):Prop:=
 ∀(pins:List (Addr×Obj)) (s:Shared) (σ:St) (H:Hp) (xs:List V) (us:List Value) (Q:VK),Inv X pins σ H s->Vals xs us->r xs H Q ->
   wpAny (model X.prog X.w) X.A (call f us) (EP X pins σ Q) X.xe s
def Xi(X:Cx)(r:V->Hp->(Bool->Hp->Prop)->Prop):Prop:=
 ∀(pins:List (Addr×Obj)) (s:Shared) (σ:St) (H:Hp) (x:V) (v:Value) (Q:Bool->Hp->Prop),Inv X pins σ H s->RelV x v->r x H Q ->
   wpAny (model X.prog X.w) X.A (truthy v) (TP X pins σ Q) X.xe s
def tOp(r:R2)(ta tb:TE):TE:=λσ H Q=>ta σ H λx H1=>tb σ H1 λy H2=>r x y H2 Q
def tUn(r:V->Hp->VK->Prop)(ta:TE):TE:=λσ H Q=>ta σ H λx H1=>r x H1 Q
def rI(C:Int->Int->Prop)(g:Int->Int->V):R2:=λx y H Q=>∃i j,x=.int i/\y=.int j/\C i j/\Q (g i j) H
def rI0(g:Int->Int->V):R2:=λx y H Q=>∃i j,x=.int i/\y=.int j/\Q (g i j) H
def rU(g:Int->V):V->Hp->VK->Prop:=λx H Q=>∃i,x=.int i/\Q (g i) H
section
variable{X:Cx}{a b c:Expr}{ta tb tc:TE}{pos:Pos}
def Pm(ha:PE X a ta)(hb:PE X b tb){pins:List (Addr×Obj)}{s:Shared}{σ:St}{H:Hp}{R:V->V->Hp->Prop}(I:Inv X pins σ H s)
 (h:ta σ H λx H1=>tb σ H1 λy H2=>R x y H2) {Q:Value->Shared->Prop} {f:Value->Value->Sem Value}
 (hf:∀v u s2 x y H2,Inv X pins σ H2 s2->RelV x v->RelV y u->R x y H2->wpAny (model X.prog X.w) X.A (f v u) Q X.xe s2):
 wpAny (model X.prog X.w) X.A (eval a X.env) (λv s₁=>wpAny (model X.prog X.w) X.A (eval b X.env) (λu s₂=>wpAny (model X.prog X.w) X.A (f v u) Q X.xe s₂) X.xe s₁) X.xe s:=by
 refine thn (ha pins s σ H _ I h) λv s1 ⟨x,H1,I1,r1,q1⟩=>?_;refine thn (hb pins s1 σ H1 _ I1 q1) λu s2 ⟨y,H2,I2,r2,q2⟩=>?_;exact hf v u s2 x y H2 I2 r1 r2 q2
def Lo{op:Operator}{r:R2}(ho:OpR X (binaryOp op) r)(ha:PE X a ta)(hb:PE X b tb):PE X (.BinOp a op b pos) (tOp r ta tb):=by
 intro pins s σ H Q I h;exact wpAny_BinOp (Pm ha hb I h λv u s2 x y H2 I2 rx ry q=>ho pins s2 σ H2 x y v u Q I2 rx ry q)
def Wm{op:UnaryOp}{r:V->Hp->VK->Prop}(ho:UnR X (unaryOp op) r)(ha:PE X a ta):PE X (.UnaryOp op a pos) (tUn r ta):=by
 intro pins s σ H Q I h;exact UnaryOp_ (thn (ha pins s σ H _ I h) λv s1 ⟨x,H1,I1,r1,q1⟩=>ho pins s1 σ H1 x v Q I1 r1 q1)
def opI{f:Value->Value->Sem Value}{C:Int->Int->Prop}{g:Int->Int->Int}
 (rule:∀(i j:Int) (t u:Tok) (s:Shared) (Q:Value->Shared->Prop) (E:Value->Shared->Prop),C i j->Q (.int (g i j) s.toks) { s with toks:=s.toks+1 }->wpAny (model X.prog X.w) X.A (f (.int i t) (.int j u)) Q E s):
 OpR X f (rI C λi j=>.int (g i j)):=by
 intro pins s σ H x y v u Q I rx ry h;obtain⟨i,j,rfl,rfl,hc,q⟩:=h;obtain⟨t,rfl⟩:=rx;obtain⟨t',rfl⟩:=ry;exact rule i j t t' s _ _ hc ⟨.int (g i j),H,I.tok _,⟨_,rfl⟩,q⟩
def VX{f:Value->Value->Sem Value}{g:Int->Int->Int}
 (rule:∀(i j:Int) (t u:Tok) (s:Shared) (Q:Value->Shared->Prop) (E:Value->Shared->Prop),Q (.int (g i j) s.toks) { s with toks:=s.toks+1 }->wpAny (model X.prog X.w) X.A (f (.int i t) (.int j u)) Q E s):
 OpR X f (rI0 λi j=>.int (g i j)):=by
 intro pins s σ H x y v u Q I rx ry h;obtain⟨i,j,rfl,rfl,q⟩:=h;obtain⟨t,rfl⟩:=rx;obtain⟨t',rfl⟩:=ry;exact rule i j t t' s _ _ ⟨.int (g i j),H,I.tok _,⟨_,rfl⟩,q⟩
def PL{f:Value->Value->Sem Value}{g:Int->Int->Bool}
 (rule:∀(i j:Int) (t u:Tok) (s:Shared) (Q:Value->Shared->Prop) (E:Value->Shared->Prop),Q (.bool (g i j)) s->wpAny (model X.prog X.w) X.A (f (.int i t) (.int j u)) Q E s):
 OpR X f (rI0 λi j=>.bl (g i j)):=by
 intro pins s σ H x y v u Q I rx ry h;obtain⟨i,j,rfl,rfl,q⟩:=h;obtain⟨t,rfl⟩:=rx;obtain⟨t',rfl⟩:=ry;exact rule i j t t' s _ _ ⟨.bl (g i j),H,I,rfl,q⟩
def WC(i j:Int):Prop:=0<j/\j<1073741824
def WB(i j:Int):Prop:=0<=j/\j<=1000000/\i.natAbs<2^64
def CMul(i j:Int):Prop:=(-(2^64)<i/\i<2^64)∨(-(2^64)<j/\j<2^64)
def CMul.ok{i j:Int}(h:CMul i j):IntMulOk i j:=by
 rcases h with⟨h1,h2⟩|⟨h1,h2⟩
 .exact .of_left (intBits_le_64 h1 h2)
 .exact .of_right (intBits_le_64 h1 h2)
def NH:OpR X (binaryOp .Add) (rI0 λi j=>.int (i+j)):=VX λ_ _ _ _ _ _ _ q=>add_int q
def VO:OpR X (binaryOp .Sub) (rI0 λi j=>.int (i-j)):=VX λ_ _ _ _ _ _ _ q=>sub_int q
def VR:OpR X (binaryOp .Mult) (rI CMul λi j=>.int (i*j)):=opI λ_ _ _ _ _ _ _ hc q=>mul_int q hc.ok
def Sg:OpR X (binaryOp .FloorDiv) (rI WC λi j=>.int (i/j)):=opI λi j _ _ _ _ _ hc q=>by
 have h1:(0:Int)<j:=hc.1;have h2:j<1073741824:=hc.2;exact floordiv_int (by omega) (by rw[Int.fdiv_eq_ediv_of_nonneg i (by omega)];exact q) (.inl (PyProof.noPylong_small (by omega)))
def VS:OpR X (binaryOp .Mod) (rI (λ_ j=>0<j) λi j=>.int (i%j)):=opI λi j _ _ _ _ _ hc q=>by
 have h1:(0:Int)<j:=hc;exact mod_int' (by omega) (by rw[Int.fmod_eq_emod_of_nonneg i (by omega)];exact q)
def VP:OpR X (binaryOp .Pow) (rI WB λi j=>.int (i^j.toNat)):=opI λ_ _ _ _ _ _ _ hc q=>pow_int_small hc.1 hc.2.1 hc.2.2 q
def unI{f:Value->Sem Value}{g:Int->Int}
 (rule:∀(i:Int) (t:Tok) (s:Shared) (Q:Value->Shared->Prop) (E:Value->Shared->Prop),Q (.int (g i) s.toks) { s with toks:=s.toks+1 }->wpAny (model X.prog X.w) X.A (f (.int i t)) Q E s):
 UnR X f (rU λi=>.int (g i)):=by
 intro pins s σ H x v Q I rx h;obtain⟨i,rfl,q⟩:=h;obtain⟨t,rfl⟩:=rx;exact rule i t s _ _ ⟨.int (g i),H,I.tok _,⟨_,rfl⟩,q⟩
def TZ:UnR X (unaryOp .USub) (rU λi=>.int (-i)):=unI λ_ _ _ _ _ q=>neg_int q
end
def J9:V->V->Bool
 |.non,.non=>true|.non,.int _=>true|.int _,.non=>true|.non,.bl _=>true|.bl _,.non=>true|.non,.str _=>true|.str _,.non=>true
 |.int _,.int _=>true|.bl _,.bl _=>true|.str _,.str _=>true|.byt _,.byt _=>true
 |.int _,.str _=>true|.str _,.int _=>true|.bl _,.str _=>true|.str _,.bl _=>true
 |_,_=>false
def rEq:R2:=λx y H Q=>J9 x y=true/\Q (.bl (decide (x=y))) H
def rNe:R2:=λx y H Q=>J9 x y=true/\Q (.bl (!decide (x=y))) H
def Ks{i j:Int}:decide (V.int i=V.int j)=(i==j):=by
 rw[Bool.eq_iff_iff];simp
def Nq{i j:Bool}:decide (V.bl i=V.bl j)=(i==j):=by
 rw[Bool.eq_iff_iff];simp
def Kr{i j:Str}:decide (V.str i=V.str j)=(i==j):=by
 rw[Bool.eq_iff_iff];simp
def Kt{i j:Array UInt8}:decide (V.byt i=V.byt j)=(i.toList==j.toList):=by
 rw[Bool.eq_iff_iff];cases i;cases j;simp
section
variable{X:Cx}{a b c:Expr}{ta tb tc:TE}{pos:Pos}
def AW{pins:List (Addr×Obj)}{σ:St}{H:Hp}{s:Shared}{Q:VK}{k k':Bool}(I:Inv X pins σ H s)(q:Q (.bl k) H)(e:k=k'):EP X pins σ Q (.bool k') s:=by
 subst e;exact⟨.bl k,H,I,rfl,q⟩
def Q5:OpR X (compareOp .Eq) rEq:=by
 intro pins s σ H x y v u Q I rx ry h;obtain⟨hs,q⟩:=h;cases x with
 |non=>
  cases rx;cases y with
  |non=>cases ry;exact PySem.EqNone.eq_none_none (AW I q (by simp))
  |bl j=>cases ry;exact PySem.EqNone.eq_none_bool (AW I q (by simp))
  |int j=>obtain⟨t',rfl⟩:=ry;exact PySem.EqNone.eq_none_int (AW I q (by simp))
  |str j=>obtain⟨t',rfl⟩:=ry;exact PySem.EqNone.eq_none_str (AW I q (by simp))
  |_=>exact absurd (show false=true from hs) Bool.false_ne_true
 |bl i=>
  cases rx;cases y with
  |non=>cases ry;exact PySem.EqNone.eq_bool_none (AW I q (by simp))
  |bl j=>cases ry;exact eq_bool (AW I q Nq)
  |str j=>obtain⟨t',rfl⟩:=ry;exact PySem.EqMixed.eq_bool_str (AW I q (by simp))
  |_=>exact absurd (show false=true from hs) Bool.false_ne_true
 |int i=>
  obtain⟨t,rfl⟩:=rx;cases y with
  |non=>cases ry;exact PySem.EqNone.eq_int_none (AW I q (by simp))
  |int j=>obtain⟨t',rfl⟩:=ry;exact eq_int (AW I q Ks)
  |str j=>obtain⟨t',rfl⟩:=ry;exact PySem.EqMixed.eq_int_str (AW I q (by simp))
  |_=>exact absurd (show false=true from hs) Bool.false_ne_true
 |str i=>
  obtain⟨t,rfl⟩:=rx;cases y with
  |non=>cases ry;exact PySem.EqNone.eq_str_none (AW I q (by simp))
  |bl j=>cases ry;exact PySem.EqMixed.eq_str_bool (AW I q (by simp))
  |int j=>obtain⟨t',rfl⟩:=ry;exact PySem.EqMixed.eq_str_int (AW I q (by simp))
  |str j=>obtain⟨t',rfl⟩:=ry;exact eq_str (AW I q Kr)
  |_=>exact absurd (show false=true from hs) Bool.false_ne_true
 |byt i=>
  obtain⟨t,rfl⟩:=rx;cases y with
  |byt j=>obtain⟨t',rfl⟩:=ry;exact PySem.W.eq_bytes (AW I q Kt)
  |_=>exact absurd (show false=true from hs) Bool.false_ne_true
 |_=>cases y<;>exact absurd (show false=true from hs) Bool.false_ne_true
def Wq:OpR X (compareOp .NotEq) rNe:=by
 intro pins s σ H x y v u Q I rx ry h;obtain⟨hs,q⟩:=h;cases x with
 |non=>
  cases rx;cases y with
  |non=>cases ry;exact PySem.EqNone.ne_none_none (AW I q (by simp))
  |bl j=>cases ry;exact PySem.EqNone.ne_none_bool (AW I q (by simp))
  |int j=>obtain⟨t',rfl⟩:=ry;exact PySem.EqNone.ne_none_int (AW I q (by simp))
  |str j=>obtain⟨t',rfl⟩:=ry;exact PySem.EqNone.ne_none_str (AW I q (by simp))
  |_=>exact absurd (show false=true from hs) Bool.false_ne_true
 |bl i=>
  cases rx;cases y with
  |non=>cases ry;exact PySem.EqNone.ne_bool_none (AW I q (by simp))
  |bl j=>cases ry;exact ne_bool (AW I q (congrArg not Nq))
  |str j=>obtain⟨t',rfl⟩:=ry;exact PySem.EqMixed.ne_bool_str (AW I q (by simp))
  |_=>exact absurd (show false=true from hs) Bool.false_ne_true
 |int i=>
  obtain⟨t,rfl⟩:=rx;cases y with
  |non=>cases ry;exact PySem.EqNone.ne_int_none (AW I q (by simp))
  |int j=>obtain⟨t',rfl⟩:=ry;exact ne_int (AW I q (congrArg not Ks))
  |str j=>obtain⟨t',rfl⟩:=ry;exact PySem.EqMixed.ne_int_str (AW I q (by simp))
  |_=>exact absurd (show false=true from hs) Bool.false_ne_true
 |str i=>
  obtain⟨t,rfl⟩:=rx;cases y with
  |non=>cases ry;exact PySem.EqNone.ne_str_none (AW I q (by simp))
  |bl j=>cases ry;exact PySem.EqMixed.ne_str_bool (AW I q (by simp))
  |int j=>obtain⟨t',rfl⟩:=ry;exact PySem.EqMixed.ne_str_int (AW I q (by simp))
  |str j=>obtain⟨t',rfl⟩:=ry;exact ne_str (AW I q (congrArg not Kr))
  |_=>exact absurd (show false=true from hs) Bool.false_ne_true
 |byt i=>
  obtain⟨t,rfl⟩:=rx;cases y with
  |byt j=>obtain⟨t',rfl⟩:=ry;exact PySem.W.ne_bytes (AW I q (congrArg not Kt))
  |_=>exact absurd (show false=true from hs) Bool.false_ne_true
 |_=>cases y<;>exact absurd (show false=true from hs) Bool.false_ne_true
def Q4:OpR X (compareOp .Lt) (rI0 λi j=>.bl (decide (i<j))):=PL λ_ _ _ _ _ _ _ q=>lt_int q
def Wr:OpR X (compareOp .Gt) (rI0 λi j=>.bl (decide (j<i))):=PL λ_ _ _ _ _ _ _ q=>gt_int q
def Ws:OpR X (compareOp .GtE) (rI0 λi j=>.bl (decide (j<=i))):=PL λ_ _ _ _ _ _ _ q=>ge_int q
def OpR.or{f:Value->Value->Sem Value}{r r':R2}(h:OpR X f r)(h':OpR X f r'):OpR X f (λx y H Q=>r x y H Q∨r' x y H Q):=by
 intro pins s σ H x y v u Q I rx ry q;rcases q with q|q
 .exact h pins s σ H x y v u Q I rx ry q
 .exact h' pins s σ H x y v u Q I rx ry q
def EJ(b:Expr){op:CmpOp}(h:op≠.In:=by decide)(h2:op≠.NotIn:=by decide):behindInMarks op b=false:=by
 have e1:(op==CmpOp.In)=false:=by cases op<;>first|rfl|exact absurd rfl h
 have e2:(op==CmpOp.NotIn)=false:=by cases op<;>first|rfl|exact absurd rfl h2
 cases b<;>simp[behindInMarks,e1,e2]
def Kg{op:CmpOp}{r:R2}(ho:OpR X (compareOp op) r)(ha:PE X a ta)(hb:PE X b tb)(hm:behindInMarks op b=false):PE X (.Compare a [op] [b] pos) (tOp r ta tb):=by
 intro pins s σ H Q I h;exact wpAny_Compare1 (Pm ha hb I h λv u s2 x y H2 I2 rx ry q=>ho pins s2 σ H2 x y v u Q I2 rx ry q) hm
def FY(t:TE):TT:=λσ H Q=>t σ H λx H'=>∃k,x=.bl k/\Q k H'
def Fa{op:CmpOp}{r:R2}(ho:OpR X (compareOp op) r)(ha:PE X a ta)(hb:PE X b tb)(hm:behindInMarks op b=false):PT X (.Compare a [op] [b] pos) (FY (tOp r ta tb)):=by
 intro pins s σ H Q I h;refine wpAny_isTrue_Compare1 (thn (ha pins s σ H _ I h) λv s1 ⟨x,H1,I1,r1,q1⟩=>thn (hb pins s1 σ H1 _ I1 q1) λu s2 ⟨y,H2,I2,r2,q2⟩=>
  thn (ho pins s2 σ H2 x y v u _ I2 r1 r2 q2) λc s3 ⟨z,H3,I3,r3,k,e,q3⟩=>?_) hm
 subst e;cases r3;exact wpAny_truthy_bool ⟨H3,I3,q3⟩
def Jx(K:PySem.W.Frag)(x:V)(H:Hp)(k:Bool):Prop:=
 match x with
 |.non=>k=false
 |.bl b=>k=b
 |.int i=>k=(i != 0)
 |.str y=>y.length<=sizeLine/\k=((y.length:Int) != 0)
 |.byt y=>y.size<=sizeLine/\k=((y.size:Int) != 0)
 |.ref p=>(∃xs,SqL K H p xs/\k=!xs.isEmpty)∨(∃xs,SqT K H p xs/\k=!xs.isEmpty)∨∃kvs,H p=some (.dK kvs)/\k=!kvs.isEmpty
 |_=>False
def Ly{κ:Type}{kvs:List (κ×V)}{vs:List (κ×Value)}(r:KV kvs vs):(!vs.isEmpty)=!kvs.isEmpty:=by
 cases r<;>rfl
def Gv{xs:List V}{its:List Value}(r:Vals xs its):(!its.toArray.isEmpty)=!xs.isEmpty:=by
 cases r<;>simp
def FI:(sizeLine:Nat)<2^63:=by rw[sizeLine_eq];decide
def Ta:Xi X (λx H Q=>∃k,Jx X.K x H k/\Q k H):=by
 intro pins s σ H x v Q I rx h;obtain⟨k,e,q⟩:=h;have hl:=FI;have hs:sizeLine=16777216:=sizeLine_eq;cases x with
 |non=>
  cases rx;have e':k=false:=e;subst e';exact truthy_none ⟨H,I,q⟩
 |bl b=>
  cases rx;have e':k=b:=e;subst e';exact wpAny_truthy_bool ⟨H,I,q⟩
 |int i=>
  obtain⟨t,rfl⟩:=rx;have e':k=(i != 0):=e;subst e';exact PySem.P.truthy_int ⟨H,I,q⟩
 |str y=>
  obtain⟨t,rfl⟩:=rx;obtain⟨hy,e'⟩:y.length<=sizeLine/\k=((y.length:Int) != 0):=e;subst e';exact PySem.P.truthy_str (by omega) ⟨H,I.tok _,q⟩
 |byt y=>
  obtain⟨t,rfl⟩:=rx;obtain⟨hy,e'⟩:y.size<=sizeLine/\k=((y.size:Int) != 0):=e;subst e';exact PySem.W.truthy_bytes (by omega) ⟨H,I.tok _,q⟩
 |ref p=>
  cases rx;have e':(∃xs,SqL X.K H p xs/\k=!xs.isEmpty)∨(∃xs,SqT X.K H p xs/\k=!xs.isEmpty)∨∃kvs,H p=some (.dK kvs)/\k=!kvs.isEmpty:=e;rcases e' with⟨xs,hx,e'⟩|⟨xs,hx,e'⟩|⟨kvs,hx,e'⟩
  .subst e';obtain⟨its,r,pl,hz⟩:=I.list hx;have hlen:=r.length;exact wpAny_truthy_list pl.isList (by simp only[size_toArray];omega) ⟨H,I.tok _,by rw[Gv r];exact q⟩
  .subst e';obtain⟨its,r,pl,hz⟩:=I.tuple hx;have hlen:=r.length;exact truthy_tuple pl (by simp only[size_toArray];omega) ⟨H,I.tok _,by rw[Gv r];exact q⟩
  .subst e';obtain⟨hz,hS,vs,r,m⟩:kvs.length<=sizeLine/\(p==sysModules)=false/\∃vs,KV kvs vs/\s.heap.DictOf (Ax X.prog X.w) p vs:=I.hok p _ hx;have hlen:kvs.length=vs.length:=Paired.length r;exact wpAny_truthy_dict hS m (by omega) ⟨H,I.tok _,by rw[Ly r];exact q⟩
 |_=>exact(show False from e).elim
def P5(ha:PE X a ta)(he:∀whole,isTrue a X.env whole=(do let v <- whole;standAt a.pos;holding [v] (truthy v))):
 PT X a (λσ H Q=>ta σ H λx H'=>∃k,Jx X.K x H' k/\Q k H'):=by
 intro pins s σ H Q I h;exact isTrue_plain (thn (ha pins s σ H _ I h) λv s1 ⟨x,H1,I1,r1,q1⟩=>Ta pins s1 σ H1 x v Q I1 r1 q1) (he _)
def BY{x:V}{us:List Value}(r:Vals [x] us):∃u,us=[u]/\RelV x u:=by
 cases r with
 |cons r1 r2=>cases r2;exact⟨_,rfl,r1⟩
def Pq{x y:V}{us:List Value}(r:Vals [x,y] us):∃u w',us=[u,w']/\RelV x u/\RelV y w':=by
 cases r with
 |cons r1 r2=>
  cases r2 with
  |cons r3 r4=>cases r4;exact⟨_,_,rfl,r1,r3⟩
def Nx(hc:X.calm=true):CallR X (.builtin "min") (λxs H Q=>∃i j,xs=[.int i,.int j]/\Q (.int (if j<i then j else i)) H):=by
 intro pins s σ H xs us Q I r h;obtain⟨i,j,rfl,q⟩:=h;obtain⟨u,w',rfl,⟨t,rfl⟩,⟨t',rfl⟩⟩:=Pq r;refine min_two_ints (I.ok.hd hc) λh' tk k=>⟨_,H,I.kept k,?_,q⟩
 by_cases hj:j<i
 .rw[if_pos hj,if_pos hj];exact⟨_,rfl⟩
 .rw[if_neg hj,if_neg hj];exact⟨_,rfl⟩
def Nz:CallR X (.type "int") (λxs H Q=>(∃i,xs=[.int i]/\Q (.int i) H)∨∃k,xs=[.bl k]/\Q (.int (if k then 1 else 0)) H):=by
 intro pins s σ H xs us Q I r h;rcases h with⟨i,rfl,q⟩|⟨k,rfl,q⟩
 .obtain⟨u,rfl,t,rfl⟩:=BY r;exact call_int_int ⟨.int i,H,I,⟨_,rfl⟩,q⟩
 .obtain⟨u,rfl,r1⟩:=BY r;cases r1;exact call_int_bool ⟨.int (if k then 1 else 0),H,I.tok _,⟨_,rfl⟩,q⟩
end
def RelO.some_of{v:V}{o:Option Value}(r:RelO (some v) o):∃u,o=some u/\RelV v u:=by
 cases o with
 |none=>exact(show False from r).elim
 |some u=>exact⟨u,rfl,r⟩
structure Room(k:Nat)(A:Around):Prop where
 hd:A.handled=none
 dp:A.depth+3*k+5<recursionLimit
 un:A.units+16*k+200<cLine
 gd:A.guards=some []
def Room.mono{j k:Nat}{A:Around}(r:Room k A)(h:j<=k):Room j A:=⟨r.hd,by have:=r.dp;omega,by have:=r.un;omega,r.gd⟩
def Room.deeper{k:Nat}{A:Around}(r:Room (k+1) A)(env:Env):Room k (A.deeper env):=
 ⟨r.hd,by have:=r.dp;show A.depth+1+3*k+5<_;omega,by have:=r.un;show A.units+3+16*k+200<_;omega,by first|exact r.gd|(simpa [Around.deeper,Around.under,Code.guards,Code.isGuard,pushGuards]using r.gd)⟩
def Room.depth{k:Nat}{A:Around}(r:Room k A):A.depth<recursionLimit:=by have:=r.dp;omega
def Room.units{k:Nat}{A:Around}(r:Room k A):A.units+64<cLine:=by have:=r.un;omega
def Bh:TA:=λ_ H Q=>Q [] H
def BD(ta:TE)(tr:TA):TA:=λσ H Q=>ta σ H λx H1=>tr σ H1 λxs H2=>Q (x::xs) H2
section
variable{X:Cx}{e:Expr}{es:List Expr}{te:TE}{t:TA}{pos:Pos}
def CZ:PA X [] Bh:=λ_ _ _ _ H Q I h=>Calls.spliced_nil ⟨[],H,I,.nil,h⟩
def C2(ha:PE X e te)(hr:PA X es t)(hs:starEach (e::es) X.env=(false,eval e X.env)::starEach es X.env:=by rfl):PA X (e::es) (BD te t):=by
 intro pos pins s σ H Q I h;rw[hs];show wpAny _ _ (spliced ((false,eval e X.env)::backTo pos (starEach es X.env))) _ _ s;refine Calls.spliced_cons (thn (ha pins s σ H _ I h) λu s1 ⟨x,H1,I1,r1,q1⟩=>?_);exact thn (hr pos pins s1 σ H1 _ I1 q1) λus s2 ⟨xs,H2,I2,r2,q2⟩=>⟨x::xs,H2,I2,.cons r1 r2,q2⟩
def OH(t:TA):TE:=λσ H Q=>t σ H λxs H1=>xs.length<=sizeLine/\∀p,H1 p=none->Q (.ref p) (upd H1 p (.tup xs))
def OM(t:TA):TE:=λσ H Q=>t σ H λxs H1=>xs.length<=sizeLine/\∀p,H1 p=none->Q (.ref p) (upd H1 p (.lst xs))
def VA{x1}(h:PA X es t):PE X (.Tuple es x1 pos) (OH t):=by
 intro pins s σ H Q I hq;refine wpAny_Tuple_spliced (thn (h pos pins s σ H _ I hq) λus s1 ⟨xs,H1,I1,r,z,q⟩=>⟨by rw[<- r.length];exact z,?_⟩);have hf:H1 s1.heap.objs.size=none:=I1.hok.fresh (le_refl _);refine⟨.ref s1.heap.objs.size,upd H1 s1.heap.objs.size (.tup xs),I1.laid (t':=s1.toks) (λb u e=>Heap.get?_push_of_some _ e) (le_refl _) ?_,rfl,q _ hf⟩;exact⟨z,us,r,⟨_,Heap.get?_push_size _ rfl,rfl,⟨_,rfl⟩,rfl⟩⟩
def VF(h:PA X es t):PE X (.List es pos) (OM t):=by
 intro pins s σ H Q I hq;refine wpAny_List_spliced (thn (h pos pins s σ H _ I hq) λus s1 ⟨xs,H1,I1,r,z,q⟩=>⟨by rw[<- r.length];exact z,?_⟩);have hf:H1 s1.heap.objs.size=none:=I1.hok.fresh (le_refl _);refine⟨.ref s1.heap.objs.size,upd H1 s1.heap.objs.size (.lst xs),I1.laid (t':=s1.toks) (λb u e=>Heap.get?_push_of_some _ e) (le_refl _) ?_,rfl,q _ hf⟩;exact⟨z,us,0,r,Heap.get?_push_size _ rfl⟩
end
abbrev Sp:=List V->Hp->VK->XK->Prop
abbrev CXT:=List Env->Hp->Shared->XK->Value->Shared->Prop
structure Env0(P:Program)(w:World)(K:PySem.W.Frag)(mg:Str->Option Value)(base:Heap)(A:Around)(outer:List Env)(s:Shared)(H:Hp):Prop where
 frames:A.frames=some outer
 mod:Mod K mg base
 bs:∀b o,base.get? b=some o->s.heap.get? b=some o/\H b=none
 bsz:base.objs.size<=s.heap.objs.size
 funs:s.heap.FunFrames base outer
 frf:∀b∈frs outer,H b=none
 hok:HOk P w H s.heap
 bare:AllBare s.gens
def CE(outer:List Env)(P:Program)(w:World)(H:Hp)(s:Shared)(Q:VK)(u:Value)(s':Shared):Prop:=
 ∃v H',s'.os=s.os/\AllBare s'.gens/\Un (frs outer) [] H H' s.heap s'.heap/\HOk P w H' s'.heap/\RelV v u/\Q v H'
def CR(CX:CXT)(outer:List Env)(P:Program)(w:World)(H:Hp)(s:Shared)(Q:VK)(E:XK)(r:Result)(s':Shared):Prop:=
 match r with
 |.ok (.ret u)=>CE outer P w H s Q u s'
 |.ok _=>False
 |.error e=>CX outer H s E e s'
structure FnOk(P:Program)(w:World)(K:PySem.W.Frag)(mg:Str->Option Value)(base:Heap)(CX:CXT)(k:Nat)(f:Addr)(fd:FuncData)(ps:List Str)(sp:Sp):Prop where
 len:∀vs H Q E,sp vs H Q E->vs.length=ps.length
 run:∀(A:Around) (outer:List Env) (s:Shared) (H:Hp) (args:Args) (us:List Value) (vs:List V) (Q:VK) (E:XK),Room k A->Env0 P w K mg base A outer s H->BindsTo s fd args (ps.zip us)->Vals vs us->sp vs H Q E ->
  codeAny (model P w) A (.call (.ref f) args) (CR CX outer P w H s Q E) s
def FnOk.mono{P:Program}{w:World}{K:PySem.W.Frag}{mg:Str->Option Value}{base:Heap}{CX:CXT}{j k:Nat}{f:Addr}{fd:FuncData}{ps:List Str}{sp:Sp}(F:FnOk P w K mg base CX j f fd ps sp)(h:j<=k):
 FnOk P w K mg base CX k f fd ps sp:=⟨F.len,λA outer s H args us vs Q E hr=>F.run A outer s H args us vs Q E (hr.mono h)⟩
section
variable{X:Cx}{pins:List (Addr×Obj)}{σ:St}{H:Hp}{s s':Shared}
def Inv.env0(I:Inv X pins σ H s):Env0 X.prog X.w X.K X.mg X.base X.A X.stack s H:=
 ⟨I.ok.frames,I.ok.mod,I.bs,le_trans I.ok.bsz I.sz,I.stack,I.stkFree,I.hok,I.bare⟩
def Inv.after{Q:VK}{u:Value}(I:Inv X pins σ H s)(h:CE X.stack X.prog X.w H s Q u s'):EP X pins σ Q u s':=by
 obtain⟨v,H',os,bare,un,hok,r,q⟩:=h;obtain⟨hh,g,d,t,os'⟩:=s';obtain rfl:os'=s.os:=os;exact⟨v,H',I.call (h':=hh) (g':=g) (d':=d) (t':=t) (ch:=[]) un hok bare (λb z=>absurd z (by simp)),r,q⟩
end
def Dr(sp:Sp)(dvs:List V)(E:XK)(t:TA):TE:=λσ H Q=>t σ H λvs H1=>sp (vs++dvs) H1 Q E
def Binds(K:PySem.W.Frag)(fd:FuncData)(ps:List Str)(ds:List Value):Prop:=
 ∀(s:Shared) (us:List Value),K.In s.heap->(us++ds).length=ps.length->BindsTo s fd ⟨us,[]⟩ (ps.zip (us++ds))
def Binds.all{K:PySem.W.Frag}{fd:FuncData}{ps:List Str}(h:∀us:List Value,us.length=ps.length->bindArgs fd ⟨us,[]⟩=pure (ps.zip us)):Binds K fd ps []:=λs us _ hl=>by
 rw[append_nil]at hl ⊢;exact .of_eq (h us hl)
def Jz(CX:CXT)(X:Cx)(E:XK):Prop:=∀(pins:List (Addr×Obj)) (σ:St) (H:Hp) (s:Shared) (e:Value) (s':Shared),Inv X pins σ H s->CX X.stack H s E e s'->X.xe e s'
section
variable{X:Cx}{CX:CXT}{k:Nat}{f C:Addr}{fd:FuncData}{ps:List Str}{sp:Sp}{dvs:List V}{ds:List Value}{E:XK}{x m:Str}{p pos apos:Pos}{e o:Expr}{es:List Expr}{ta:TE}{t:TA}
def Tj{pins:List (Addr×Obj)}{σ:St}{H:Hp}{s:Shared}{Q:VK}{us:List Value}{vs:List V}(F:FnOk X.prog X.w X.K X.mg X.base CX k f fd ps sp)(hr:Room k X.A)(hb:Binds X.K fd ps ds)(hd:Vals dvs ds)(hx:Jz CX X E)
 (I:Inv X pins σ H s) (r:Vals vs us) (h:sp (vs++dvs) H Q E):wpAny (model X.prog X.w) X.A (call (.ref f) us) (EP X pins σ Q) X.xe s:=by
 have r2:Vals (vs++dvs) (us++ds):=r.append hd;have hl:(us++ds).length=ps.length:=by rw[<- r2.length];exact F.len _ _ _ _ h
 refine wpAny_call (codeAny_mono (F.run X.A X.stack s H ⟨us,[]⟩ (us++ds) (vs++dvs) Q E hr I.env0 (hb s us I.kIn hl) r2 h) λr s' hq=>?_);cases r with
 |error e=>exact hx pins σ H s e s' I hq
 |ok fl=>
  cases fl with
  |ret u=>exact I.after hq
  |next=>exact False.elim hq
  |brk=>exact False.elim hq
  |cont=>exact False.elim hq
def Se(F:FnOk X.prog X.w X.K X.mg X.base CX k f fd ps sp)(hr:Room k X.A)(hg:Gl X x)(hm:X.mg x=some (.ref f))(hk:PySem.W.keepIn X.K (.ref f)=true)(hb:Binds X.K fd ps ds)(hd:Vals dvs ds)(hx:Jz CX X E)
 (ha:PA X (e::es) t) (hdb:(x==("__debug__":Str))=false:=by decide) (he:starEach (e::es) X.env=(false,eval e X.env)::starEach es X.env:=by rfl) (hpl:(backTo pos (starEach es X.env)).any (·.1)=false:=by rfl):
 PE X (.Call (.Name x p) (e::es) [] pos) (Dr sp dvs E t):=by
 intro pins s σ H Q I h;refine wpAny_Call_Name_kw (T2 I hg hm ?_ hdb);refine PySem.W.callWith_K (h₀:=X.base) I.ok.mod.kin hk (thn (ha pos pins s σ H _ I h) λus s1 ⟨vs,H1,I1,r,q⟩=>⟨I1.kIn,?_⟩) he hpl;exact Tj F hr hb hd hx I1 r q
end
structure FnScope(N P:List Str)(sc:Scope):Prop where
 kind:sc.kind=.function
 co:sc.isCoroutine=false
 gen:sc.isGenerator=false
 nd:N.Nodup
 pre:N.take P.length=P
 par:∀x∈P,sc.names.lookup x=some .local∨sc.names.lookup x=some .cell
 nofree:∀y∈sc.names,y.2≠.free
def IQ{kindOf:Str->Option NameKind}{x:Str}:∀{binds:List (Str×Value)} {m:Str->Option Value},(∀v,(x,v)∉binds)->bindL kindOf binds m x=m x
 |[],_,_=>rfl
 |(n,v)::r,m,h=>by
   unfold bindL;rw[IQ λw hw=>h w (mem_cons_of_mem _ hw)];split
   .have:x≠n:=by rintro rfl;exact h v mem_cons_self
    simp[this]
   .rfl
def IS{kindOf:Str->Option NameKind}{x:Str}:∀{binds:List (Str×Value)} {m:Str->Option Value},(∀v,(x,v)∉binds)->bindC kindOf binds m x=m x
 |[],_,_=>rfl
 |(n,v)::r,m,h=>by
   unfold bindC;rw[IS λw hw=>h w (mem_cons_of_mem _ hw)];split
   .rfl
   .have:x≠n:=by rintro rfl;exact h v mem_cons_self
    simp[this]
def IR{kindOf:Str->Option NameKind}{x:Str}{v:Value}:∀{P:List Str} {vs:List Value} {i:Nat} {m:Str->Option Value},P.Nodup->P[i]?=some x->vs[i]?=some v->kindOf x=some .local ->
 bindL kindOf (P.zip vs) m x=some v
 |[],_,_,_,_,h,_,_=>by simp at h
 |_::_,[],_,_,_,_,h,_=>by simp at h
 |p::P,w::vs,0,m,nd,h1,h2,hk=>by
  simp at h1 h2;subst h1;subst h2;show bindL kindOf ((p,w)::P.zip vs) m p=_;unfold bindL;rw[IQ λv hv=>(nodup_cons.mp nd).1 (List.of_mem_zip hv).1,if_pos hk];simp
 |p::P,w::vs,i+1,m,nd,h1,h2,hk=>by
  show bindL kindOf ((p,w)::P.zip vs) m x=_;unfold bindL;exact IR (i:=i) (nodup_cons.mp nd).2 (by simpa using h1) (by simpa using h2) hk
def IT{kindOf:Str->Option NameKind}{x:Str}{v:Value}:∀{P:List Str} {vs:List Value} {i:Nat} {m:Str->Option Value},P.Nodup->P[i]?=some x->vs[i]?=some v->kindOf x≠some .local ->
 bindC kindOf (P.zip vs) m x=some v
 |[],_,_,_,_,h,_,_=>by simp at h
 |_::_,[],_,_,_,_,h,_=>by simp at h
 |p::P,w::vs,0,m,nd,h1,h2,hk=>by
  simp at h1 h2;subst h1;subst h2;show bindC kindOf ((p,w)::P.zip vs) m p=_;unfold bindC;rw[IS λv hv=>(nodup_cons.mp nd).1 (List.of_mem_zip hv).1,if_neg hk];simp
 |p::P,w::vs,i+1,m,nd,h1,h2,hk=>by
  show bindC kindOf ((p,w)::P.zip vs) m x=_;unfold bindC;exact IT (i:=i) (nodup_cons.mp nd).2 (by simpa using h1) (by simpa using h2) hk
def CC(N:List Str)(vs:List V):St:=vs.map some++List.replicate (N.length-vs.length) none
def FQ(CX:CXT)(P:Program)(w:World)(K:PySem.W.Frag)(mg:Str->Option Value)(base:Heap)(N:List Str)(qual:Str)(scope:Scope)(f:Addr)(cd:Value)(A:Around)(outer:List Env)(s:Shared)(H:Hp)(E:XK):Cx where
 prog:=P
 w:=w
 K:=K
 mg:=mg
 base:=base
 A:=A.deeper (envOfC qual scope s.heap.objs.size f cd)
 N:=N
 s₀:=s
 H₀:=H
 env:=envOfC qual scope s.heap.objs.size f cd
 outer:=outer
 stack:=envOfC qual scope s.heap.objs.size f cd::outer
 ex:=[]
 calm:=true
 fn:=λ_=>true
 pn:=[]
 xe:=λe s'=>wpAny (model P w) (A.deeper (envOfC qual scope s.heap.objs.size f cd)) (leaving (envOfC qual scope s.heap.objs.size f cd) e) (λ_ s''=>CX outer H s E e s'') (λe' s''=>CX outer H s E e' s'') s'
def Jo{sc:Scope}{n:Nat}{x:Str}(h:sc.names.lookup x=some .cell):∃c,(cellsFrom n sc.names []).lookup x=some c:=by
 have q:=PySem.W.cellsFrom_some sc.names n [] (.inl h);exact isSome_iff_exists.mp q
def NX{CX:CXT}{P:Program}{w:World}{K:PySem.W.Frag}{mg:Str->Option Value}{base:Heap}{N ps:List Str}{qual:Str}{scope:Scope}{f:Addr}{cd:Value}{A:Around}{outer:List Env}{s s1:Shared}{H:Hp}{E:XK}{us:List Value}{vs:List V}
 (S:FnScope N ps scope) (hd:A.handled=none) (e0:Env0 P w K mg base A outer s H) (hl:vs.length=ps.length) (r:Vals vs us)
 (x:InCallC s s.heap.objs.size (bindL (envOfC qual scope s.heap.objs.size f cd).kindOf (ps.zip us) λ_=>none) (cellsFrom (s.heap.objs.size+1) scope.names []) (bindC (envOfC qual scope s.heap.objs.size f cd).kindOf (ps.zip us) λ_=>none) s1):
 Inv (FQ CX P w K mg base N qual scope f cd A outer s H E) [] (CC N vs) H s1:=by
 have hpl:ps.length<=N.length:=by have:=congrArg List.length S.pre;rw[length_take]at this;omega
 obtain⟨h1,tk,rfl,hk⟩:=x.done;have noA:∀b:Addr,b∉(FQ CX P w K mg base N qual scope f cd A outer s H E).ex:=λb z=>absurd (show b∈([]:List Addr)from z) (by simp);refine⟨⟨e0.mod,S.kind,rfl,rfl,le_refl _,λy z c h1 h2=>?_,λy hy=>?_,λy c _ h=>?_,λ_=>hd,Around.frames_deeper e0.frames,.inr ⟨rfl,rfl⟩,λb z=>absurd z (noA b),e0.bs,e0.bsz,λb _ _=>noA b,λb z=>absurd z (noA b),e0.funs,e0.frf⟩,
  rfl,e0.bare,Un.kept hk,⟨_,x.toInCall.ns,λi y v h1 h2 h3=>?_⟩,λy c h=>⟨_,x.cell y c h⟩,e0.hok.fresh (le_refl _),λy c h=>?_,λp hp=>absurd (show p∈([]:List (Addr×Obj))from hp) (by simp),e0.hok.kept hk,?_⟩
 .exact name_of_addr x.apart (PySem.mem_of_lookup h1) (PySem.mem_of_lookup h2)
 .have hy:scope.names.lookup y=some .cell∨scope.names.lookup y=some .free:=hy;rcases hy with hy|hy
  .exact Jo hy
  .exact absurd rfl (S.nofree _ (PySem.mem_of_lookup hy))
 .exact le_of_lt (x.above y c (PySem.mem_of_lookup h))
 .have hi:i<vs.length:=by
   unfold CC at h2;by_cases hi:i<vs.length
   .exact hi
   .rw[List.getElem?_append_right (by simpa using hi)]at h2;rw[List.getElem?_replicate]at h2;split at h2<;>cases h2
  have ha:vs[i]?=some v:=by
   unfold CC at h2;rw[List.getElem?_append_left (by simpa using hi),List.getElem?_map]at h2;cases e:vs[i]? with
   |none=>rw[e]at h2;cases h2
   |some a=>rw[e]at h2;cases h2;rfl
  obtain⟨u,hu,rv⟩:=r.get ha;have hp:ps[i]?=some y:=by
   rw[<- S.pre,List.getElem?_take_of_lt (by omega)];exact h1
  have ndP:ps.Nodup:=by rw[<- S.pre];exact S.nd.sublist (List.take_sublist _ _)
  refine⟨u,rv,?_⟩;rcases S.par y (mem_of_getElem? hp)with k|k
  .exact .inl ⟨k,IR ndP hp hu k⟩
  .obtain⟨c,e⟩:=Jo (n:=s.heap.objs.size+1) k;refine .inr ⟨.inl k,c,e,?_⟩;have q:=x.cell y c e;rw[IT ndP hp hu (by show scope.names.lookup y≠_;rw[k];decide)]at q;exact q
 .exact e0.hok.fresh (le_of_lt (x.above y c (PySem.mem_of_lookup h)))
 .unfold CC;show _=N.length;rw[length_append,length_map,List.length_replicate];omega
def Wz{CX:CXT}{P:Program}{w:World}{K:PySem.W.Frag}{mg:Str->Option Value}{base:Heap}{k:Nat}{f:Addr}{name qual:Str}{params:Arguments}{body:List Stmt}{scope:Scope}{dV kV doc pm cdv ct oc:Value}{an od:Option Addr}
 {osl:Array (Option Value)} {N ps:List Str} {sp:Sp} (lk:K.lookup f=some ⟨oc,od,.func (PySem.W.fnOf name qual params body scope dV kV doc pm an cdv ct),osl⟩) (hcd:PySem.W.codeIn K cdv qual=true) (S:FnScope N ps scope)
 (len:∀vs H Q E,sp vs H Q E->vs.length=ps.length)
 (hbody:∀(A:Around) (outer:List Env) (s:Shared) (H:Hp) (vs:List V) (Q:VK) (E:XK),Room k (A.deeper (envOfC qual scope s.heap.objs.size f cdv))->sp vs H Q E ->
  ∃t,PSs (FQ CX P w K mg base N qual scope f cdv A outer s H E) body t/\t { nx:=λ_ H'=>Q .non H',rt:=Q } (CC N vs) H):
 FnOk P w K mg base CX (k+1) f (PySem.W.fnOf name qual params body scope dV kV doc pm an cdv ct) ps sp:=by
 refine⟨len,λA outer s H args us vs Q E hr e0 hb r hsp=>?_⟩;have hl:=len _ _ _ _ hsp;have KX:K.In s.heap:=e0.mod.kin.keeps λb o e=>(e0.bs b o e).1;have lim:s.heap.NoLimit:=e0.mod.nolimit.keeps λb o e=>(e0.bs b o e).1;have hkind:∀y∈ps.zip us,scope.names.lookup y.1=some .local∨(scope.names.lookup y.1=some .cell/\((cellsFrom (s.heap.objs.size+1) scope.names []).lookup y.1).isSome=true):=λ⟨n,v⟩ hy=>by
  rcases S.par n (List.of_mem_zip hy).1 with q|q
  .exact .inl q
  .exact .inr ⟨q,PySem.W.cellsFrom_some _ _ _ (.inl q)⟩
 refine codeAny_call_function hr.depth (KX _ _ lk) rfl S.co S.gen rfl (PySem.W.codeRec_of KX hcd) (hb _ _ _ _ ?_);refine wpAny_newFunctionEnv_cells S.kind hkind λenv he s1 x=>?_;subst he;refine⟨lim.keeps x.toInCall.keep,codeAny_func ?_⟩;obtain⟨t,ht,hq⟩:=hbody A outer s H vs Q E (hr.deeper _) hsp;have I:Inv (FQ CX P w K mg base N qual scope f cdv A outer s H E) [] (CC N vs) H s1:=NX S hr.hd e0 hl r x;refine wpAny_mono (ht [] s1 (CC N vs) H _ I hq) (λfl s' hs=>?_) λe s' hs=>hs;have fin:∀{σ':St} {H':Hp} {v:V} {u:Value},Inv (FQ CX P w K mg base N qual scope f cdv A outer s H E) [] σ' H' s'->RelV v u->Q v H'->CE outer P w H s Q u s':=
  λ{σ' H' v u} J rv q=>⟨v,H',J.os,J.bare,J.base,J.hok,rv,q⟩
 cases fl with
 |ret u=>
  obtain⟨v,σ',H',J,rv,q⟩:=hs;exact fin J rv q
 |next=>
  obtain⟨σ',H',J,q⟩:=hs;exact fin (v:=V.non) (u:=Value.none) J rfl q
 |brk=>
  obtain⟨_,_,_,q⟩:=hs;exact False.elim q
 |cont=>
  obtain⟨_,_,_,q⟩:=hs;exact False.elim q
section
variable{X:Cx}{x:Str}{p pos:Pos}{e:Expr}{es:List Expr}{t:TA}{id T:String}{r:List V->Hp->VK->Prop}
def tCB(r:List V->Hp->VK->Prop)(t:TA):TE:=λσ H Q=>t σ H λvs H1=>r vs H1 Q
def Eh(hc:CallR X (.builtin id) r)(hg:Gl X x)(hm:X.mg x=none)(hv:bootBuiltins x=some (.builtin id))(ha:PA X (e::es) t)(hn:x≠"__name__":=by decide)(hdb:(x==("__debug__":Str))=false:=by decide)
 (he:starEach (e::es) X.env=(false,eval e X.env)::starEach es X.env:=by rfl) (hpl:(backTo pos (starEach es X.env)).any (·.1)=false:=by rfl):PE X (.Call (.Name x p) (e::es) [] pos) (tCB r t):=by
 intro pins s σ H Q I h;refine wpAny_Call_Name_kw (Di I hg hm hv ?_ hn hdb);exact PyProof.Rows.callWith_builtin1 (thn (ha pos pins s σ H _ I h) λus s1 ⟨vs,H1,I1,r1,q1⟩=>hc pins s1 σ H1 vs us Q I1 r1 q1) he hpl
def CS(hc:CallR X (.type T) r)(hg:Gl X x)(hm:X.mg x=none)(hv:bootBuiltins x=some (.type T))(ha:PA X (e::es) t)(hn:x≠"__name__":=by decide)(hdb:(x==("__debug__":Str))=false:=by decide)
 (he:starEach (e::es) X.env=(false,eval e X.env)::starEach es X.env:=by rfl) (hpl:(backTo pos (starEach es X.env)).any (·.1)=false:=by rfl):PE X (.Call (.Name x p) (e::es) [] pos) (tCB r t):=by
 intro pins s σ H Q I h;refine wpAny_Call_Name_kw (Di I hg hm hv ?_ hn hdb);exact PyProof.Rows.callWith_type1 (thn (ha pos pins s σ H _ I h) λus s1 ⟨vs,H1,I1,r1,q1⟩=>hc pins s1 σ H1 vs us Q I1 r1 q1) he hpl
end
end L2
namespace HT
open PySem PyProof.Rows
section
variable{prog:Program}{w:World}{A:Around}{E:Value->Shared->Prop}{s:Shared}
def cat_tup{t b:Addr}{vs ws:List Value}{Q:Value->Shared->Prop}(ht:IsTup s.heap t vs.toArray)(hb:IsTup s.heap b ws.toArray)(hv:vs≠[])
 (h1:ws=[]->Q (.ref t) s) (h2:ws≠[]->Q (.ref s.heap.objs.size) { s with heap:=s.heap.push { cls:=.type "tuple",data:=.seq (vs++ws).toArray } })
 (hsz:vs.length+ws.length<=sizeLine):wpAny (model prog w) A (binaryOp .Add (.ref t) (.ref b)) Q E s:=by
 obtain⟨⟨cls,dd,data,sl⟩,ho,hc,n,hd⟩:=id ht;obtain⟨⟨cls2,dd2,data2,sl2⟩,ho2,hc2,n2,hd2⟩:=id hb;simp only at hc hd hc2 hd2;subst hc hd hc2 hd2;have e:vs.toArray++ws.toArray=(vs++ws).toArray:=by simp
 by_cases hw:ws=[]
 .exact concat_meets ⟨_,ho,rfl⟩ ⟨_,ho2,rfl⟩ noFill_tuple_add seq_tuple_add PySem.F.slot_tuple_add PySem.F.entry_tuple_add (PySem.F.args_tuple_add_2 _ _)
   (tuple_addW1 t b vs.toArray ws.toArray n n2 dd dd2 sl sl2 (by simpa using hv) (by simp[hw])) ⟨ho,ho2,h1 hw⟩
 .refine concat_meets ⟨_,ho,rfl⟩ ⟨_,ho2,rfl⟩ noFill_tuple_add seq_tuple_add PySem.F.slot_tuple_add PySem.F.entry_tuple_add (PySem.F.args_tuple_add_2 _ _)
   (tuple_addW2 t b vs.toArray ws.toArray n n2 dd dd2 sl sl2 (by simpa using hv) (by simpa using hw) (by rw[size_toArray,size_toArray];exact hsz)) ⟨ho,ho2,?_⟩
  rw[e];exact h2 hw
def sIx(n d:Nat):Option Int->Nat
 |none=>d
 |some v=>if v<0 then(v+(n:Int)).toNat else min v.toNat n
def sIx_none(n d:Nat):sIx n d none=d:=rfl
def sIx_nat(n d k:Nat):sIx n d (some (k:Int))=min k n:=by
 show(if(k:Int)<0 then((k:Int)+(n:Int)).toNat else min (k:Int).toNat n)=min k n;rw[if_neg (by omega),toNat_natCast]
def Th(n d:Nat)(hd:d<=n)(o:Option Int):sIx n d o<=n:=by
 cases o with
 |none=>exact hd
 |some v=>
  show(if v<0 then(v+(n:Int)).toNat else min v.toNat n)<=n;by_cases hv:v<0
  .rw[if_pos hv];omega
  .rw[if_neg hv];exact Nat.min_le_right _ _
def Ku(v:Int)(n d:Nat):(if v<0 then max (v+(n:Int)) 0 else min v (n:Int))=((sIx n d (some v):Nat):Int):=by
 show(if v<0 then max (v+(n:Int)) 0 else min v (n:Int))=(((if v<0 then(v+(n:Int)).toNat else min v.toNat n):Nat):Int);by_cases hv:v<0
 .simp only[if_pos hv];omega
 .simp only[if_neg hv];omega
def MJ(lo hi:Option Int)(n:Nat):Builtin.Slice.sliceAdjust lo hi 1 (n:Int)=(((sIx n 0 lo:Nat):Int),((sIx n n hi:Nat):Int)):=by
 have h1:¬ ((1:Int)<0):=by omega
 unfold Builtin.Slice.sliceAdjust;simp only[h1,if_false];refine Prod.ext ?_ ?_
 .cases lo with
  |none=>rfl
  |some v=>exact Ku v n 0
 .cases hi with
  |none=>rfl
  |some v=>exact Ku v n n
def Lm(i j:Nat):Builtin.Slice.slicePlaces (i:Int) (j:Int) 1=j-i:=by
 unfold Builtin.Slice.slicePlaces;have h1:(1:Int)>0:=by omega
 simp only[h1,if_true,Int.ediv_one];split<;>omega
def GX{v:Value}{o:Option Int}{Q:Option Int->Shared->Prop}(p:IsPart v o)(h:Q o s):wpAny (model prog w) A (Builtin.Slice.slicePartIndex v) Q E s:=by
 cases p with
 |none=>exact slicePart_none h
 |int i t=>exact slicePart_int h
def DV{sl:Addr}{vl vu:Value}{lo hi:Option Int}{n:Nat}{Q:Int×Int×Nat->Shared->Prop}(hs:s.heap.IsSliceOf sl vl vu .none)(pl:IsPart vl lo)(pu:IsPart vu hi)
 (h:Q (((sIx n 0 lo:Nat):Int),1,sIx n n hi-sIx n 0 lo) s):wpAny (model prog w) A (Builtin.Slice.sliceApplied (.ref sl) (pure (n:Int))) Q E s:=by
 obtain⟨os,hos,hcs,hds⟩:=id hs;unfold Builtin.Slice.sliceApplied Builtin.Slice.sliceFields;refine wpAny_bind (wpAny_bind (wpAny_field hos hds (x:=vl) rfl (wpAny_bind (wpAny_field hos hds (x:=vu) rfl (wpAny_bind (wpAny_field hos hds (x:=.none) rfl (wpAny_pure ?_)))))));refine wpAny_bind (slicePart_none ?_);show wpAny _ _ (if((1:Int)==0)=true then _ else _) _ _ s;rw[if_neg (by decide)];refine wpAny_bind (GX pl (wpAny_bind (GX pu (wpAny_bind (wpAny_pure ?_)))));show wpAny _ _ (match Builtin.Slice.sliceAdjust lo hi 1 (n:Int)with|(lo,hi)=>pure (lo,(1:Int),Builtin.Slice.slicePlaces lo hi 1)) _ _ s;rw[MJ lo hi n];show wpAny _ _ (pure (((sIx n 0 lo:Nat):Int),(1:Int),Builtin.Slice.slicePlaces ((sIx n 0 lo:Nat):Int) ((sIx n n hi:Nat):Int) 1)) _ _ s;rw[Lm];exact wpAny_pure h
def PD(xs:Array Value)(i k:Nat):((List.range k).filterMap λ(m:Nat)=>xs[((i:Int)+(m:Int)*1).toNat]?).toArray=((xs.toList.drop i).take k).toArray:=by
 have e:(λ(m:Nat)=>xs[((i:Int)+(m:Int)*1).toNat]?)=λm=>xs[i+m]? := by
  funext m
  have:((i:Int)+(m:Int)*1).toNat=i+m:=by omega
  rw[this]
 rw[e];have:=pick_run xs i k;rw[List.filterMap_map]at this;have e2:((λx=>xs[x]?) ∘ λx=>i+x)=λm=>xs[i+m]? := rfl;rw[e2]at this;rw[this]
def getItem_tuple_cut{t sl:Addr}{items:Array Value}{vl vu:Value}{lo hi:Option Int}{Q:Value->Shared->Prop}(ht:IsTup s.heap t items)(hs:s.heap.IsSliceOf sl vl vu .none)(pl:IsPart vl lo)(pu:IsPart vu hi)
 (hw:¬ (sIx items.size 0 lo=0/\sIx items.size items.size hi=items.size))
 (h:Q (.ref s.heap.objs.size) { s with heap:=s.heap.push { cls:=.type "tuple",data:=.seq ((items.toList.drop (sIx items.size 0 lo)).take (sIx items.size items.size hi-sIx items.size 0 lo)).toArray } })
 (hsz:items.size<=sizeLine):wpAny (model prog w) A (getItem (.ref t) (.ref sl)) Q E s:=by
 have htake:sizeOk (.seq ((items.toList.drop (sIx items.size 0 lo)).take (sIx items.size items.size hi-sIx items.size 0 lo)).toArray):=by
  show((items.toList.drop (sIx items.size 0 lo)).take (sIx items.size items.size hi-sIx items.size 0 lo)).toArray.size<=sizeLine;rw[size_toArray,length_take,length_drop,Array.length_toList];omega
 have hj:sIx items.size items.size hi<=items.size:=Th _ _ (le_refl _) hi;obtain⟨os,hos,hcs,hds⟩:=id hs;have hTs:s.TypeIs (.ref sl) "slice":=⟨os,hos,hcs⟩
 unfold getItem
 try with_reducible refine wpAny_holding ?_
 first|refine wpAny_bind (wpAny_pure ?_)|skip
 refine wpAny_bind (wpAny_sequenceKey ht.typeIs (by decide) ?_);refine wpAny_bind (wpAny_callSpecial?_slot (name:=Str.ofString "__getitem__") ht.typeIs PyProof.Rows.slot_tuple_getitem
  (wpAny_call_entry PyProof.Rows.slot_tuple_getitem ht.typeIs entry_tuple_getitem ?_ (args_tuple_getitem _ _)))
 show wpAny _ _ (Builtin.Tuple.tupleItemsOf (.ref t) >>= _) _ _ s;refine wpAny_bind (tupleItemsOf_ ht ?_);refine wpAny_bind (wpAny_typeOf hTs ?_);rw[if_pos (by decide)];refine wpAny_bind (DV hs pl pu ?_);have hno:¬ ((((sIx items.size 0 lo:Nat):Int)==0&&(1:Int)==1&&(sIx items.size items.size hi-sIx items.size 0 lo)==items.size)=true):=by
  intro q;rw[Bool.and_eq_true,Bool.and_eq_true]at q;have q1:((sIx items.size 0 lo:Nat):Int)=0:=eq_of_beq q.1.1;have q2:sIx items.size items.size hi-sIx items.size 0 lo=items.size:=eq_of_beq q.2;exact hw ⟨by omega,by omega⟩
 show wpAny _ _ (if(((sIx items.size 0 lo:Nat):Int)==0&&(1:Int)==1&&(sIx items.size items.size hi-sIx items.size 0 lo)==items.size)=true then _ else _) _ _ s;rw[if_neg hno,PD]
 first
  |exact wpAny_bind (m:=Builtin.Tuple.tupleExact _) (wpAny_newObj_type (wpAny_pure ⟨_,rfl,wpAny_pure h⟩) htake)
  |exact wpAny_bind (m:=Builtin.Tuple.tupleExact _) (wpAny_newObj_type (wpAny_bind (wpAny_pure (wpAny_pure ⟨_,rfl,wpAny_pure h⟩))) htake)
  |exact wpAny_bind (wpAny_bind (m:=Builtin.Tuple.tupleExact _) (wpAny_newObj_type (wpAny_pure (wpAny_pure ⟨_,rfl,wpAny_pure h⟩)) htake))
  |exact wpAny_bind (wpAny_bind (m:=Builtin.Tuple.tupleExact _) (wpAny_newObj_type (wpAny_pure ⟨_,rfl,wpAny_pure h⟩) htake))
end
end HT
namespace L2
open PySem PySem.Spec PyProof.Rows
abbrev TO:=St->Hp->(Option Int->Hp->Prop)->Prop
def PO(X:Cx)(e:Option Expr)(t:TO):Prop:=
 ∀(pins:List (Addr×Obj)) (s:Shared) (σ:St) (H:Hp) (Q:Option Int->Hp->Prop),Inv X pins σ H s->t σ H Q ->
   wpAny (model X.prog X.w) X.A (evalPart e X.env) (λu s'=>∃o H',Inv X pins σ H' s'/\IsPart u o/\Q o H') X.xe s
def HH:TO:=λ_ H Q=>Q none H
def LI(t:TE):TO:=λσ H Q=>t σ H λx H1=>∃i,x=.int i/\Q (some i) H1
section
variable{X:Cx}{e:Expr}{te:TE}{lo hi:Option Expr}{tl th:TO}{pos p2:Pos}
def SS:PO X none HH:=by
 intro pins s σ H Q I h;rw[evalPart_none];exact wpAny_pure ⟨none,H,I,.none,h⟩
def SR(h:PE X e te):PO X (some e) (LI te):=by
 intro pins s σ H Q I hw;rw[evalPart_some];refine thn (h pins s σ H _ I hw) λu s1 ⟨x,H1,I1,r1,q1⟩=>?_;obtain⟨i,rfl,q⟩:=q1;obtain⟨t,rfl⟩:=r1;exact⟨some i,H1,I1,.int i t,q⟩
def SlR(X:Cx)(r:V->Option Int->Option Int->Hp->VK->Prop):Prop:=
 ∀(pins:List (Addr×Obj)) (s:Shared) (σ:St) (H:Hp) (x:V) (v vl vu:Value) (lo hi:Option Int) (sl:Addr) (Q:VK),Inv X pins σ H s->RelV x v->s.heap.IsSliceOf sl vl vu .none->IsPart vl lo->IsPart vu hi->r x lo hi H Q ->
   ∃T id,typeLookup (.type T) "__getitem__"=pure (some (.builtin id))/\s.TypeIs v T/\wpAny (model X.prog X.w) X.A (getItem v (.ref sl)) (EP X pins σ Q) X.xe s
def tSl(r:V->Option Int->Option Int->Hp->VK->Prop)(te:TE)(tl th:TO):TE:=λσ H Q=>te σ H λx H1=>tl σ H1 λl H2=>th σ H2 λu H3=>r x l u H3 Q
def Eg{r:V->Option Int->Option Int->Hp->VK->Prop}(hr:SlR X r)(he:PE X e te)(hl:PO X lo tl)(hu:PO X hi th):PE X (.Subscript e (.Slice lo hi none p2) pos) (tSl r te tl th):=by
 intro pins s σ H Q I h;refine Subscript_ (thn (he pins s σ H _ I h) λv s1 ⟨x,H1,I1,r1,q1⟩=>?_);refine wpAny_Slice (thn (hl pins s1 σ H1 _ I1 q1) λvl s2 ⟨l,H2,I2,pl,q2⟩=>thn (hu pins s2 σ H2 _ I2 q2) λvu s3 ⟨u,H3,I3,pu,q3⟩=>?_);rw[evalPart_none];refine wpAny_pure ?_;have I4:Inv X pins σ H3 { s3 with heap:=s3.heap.push { cls:=.type "slice",data:=.fields #[vl,vu,.none] } }:=I3.kept (t':=s3.toks) λb ob q=>Heap.get?_push_of_some _ q;obtain⟨T,id,hT,ht,hg⟩:=hr pins { s3 with heap:=s3.heap.push { cls:=.type "slice",data:=.fields #[vl,vu,.none] } } σ H3 x v vl vu l u s3.heap.objs.size Q I4 r1 (Heap.IsSliceOf.new ..) pl pu q3;show wpAny (model X.prog X.w) X.A (subscriptTail e (.Slice lo hi none p2) v (.ref s3.heap.objs.size)) (EP X pins σ Q) X.xe { s3 with heap:=s3.heap.push { cls:=.type "slice",data:=.fields #[vl,vu,.none] } };exact tail_any (ops:=[.ref s3.heap.objs.size,v]) ht hT hg (by with_unfolding_all rfl)
def Dm(xs:List V)(lo hi:Option Int):List V:=(xs.drop (HT.sIx xs.length 0 lo)).take (HT.sIx xs.length xs.length hi-HT.sIx xs.length 0 lo)
def Fq(xs:List V)(lo hi:Option Int):(Dm xs lo hi).length<=xs.length:=by
 unfold Dm;rw[length_take,length_drop];omega
def JK(K:PySem.W.Frag):V->Option Int->Option Int->Hp->VK->Prop:=λx lo hi H Q=>∃a xs,x=.ref a/\SqT K H a xs /\
 ¬ (HT.sIx xs.length 0 lo=0/\HT.sIx xs.length xs.length hi=xs.length)/\∀p,H p=none->Q (.ref p) (upd H p (.tup (Dm xs lo hi)))
def Mg:SlR X (JK X.K):=by
 intro pins s σ H x v vl vu lo hi sl Q I rx hs pl pu h;obtain⟨a,xs,rfl,hx,hw,q⟩:=h;cases rx;obtain⟨its,r,ht,hz⟩:=I.tuple hx;have hlen:its.toArray.size=xs.length:=by rw[size_toArray];exact r.length.symm
 refine⟨"tuple",_,PyProof.Rows.slot_tuple_getitem.lookup,ht.typeIs,?_⟩;refine HT.getItem_tuple_cut ht hs pl pu (by rw[hlen];exact hw) ?_ (by rw[hlen];exact hz);rw[hlen];refine⟨.ref s.heap.objs.size,_,I.laid (t':=s.toks) (o:=.tup (Dm xs lo hi)) (λb ob q=>Heap.get?_push_of_some _ q) (le_refl _) ?_,rfl,q _ (I.hok.fresh (le_refl _))⟩;exact⟨le_trans (Fq xs lo hi) hz,_,(r.drop (HT.sIx xs.length 0 lo)).take (HT.sIx xs.length xs.length hi-HT.sIx xs.length 0 lo),IsTupD.new _ _⟩
def Lg(K:PySem.W.Frag):R2:=λx y H Q=>∃a b xs ys,x=.ref a/\y=.ref b/\SqT K H a xs/\SqT K H b ys/\xs≠[]/\xs.length+ys.length<=sizeLine /\
 (ys=[]->Q (.ref a) H)/\(ys≠[]->∀p,H p=none->Q (.ref p) (upd H p (.tup (xs++ys))))
def Vals.nil_iff{xs:List V}{us:List Value}(r:Vals xs us):us=[]↔xs=[]:=by
 cases r with
 |nil=>simp
 |cons _ _=>simp
def Sh:OpR X (binaryOp .Add) (Lg X.K):=by
 intro pins s σ H x y v u Q I rx ry h;obtain⟨a,b,xs,ys,rfl,rfl,ha,hb,hx,hz,q1,q2⟩:=h;cases rx;cases ry;obtain⟨its,r1,p1,_⟩:=I.tuple ha;obtain⟨its2,r2,p2,_⟩:=I.tuple hb;refine HT.cat_tup p1 p2 (λz=>hx (r1.nil_iff.mp z)) (λz=>⟨.ref a,H,I,rfl,q1 (r2.nil_iff.mp z)⟩) (λz=>?_) (by rw[<- r1.length,<- r2.length];exact hz);refine⟨.ref s.heap.objs.size,_,I.laid (t':=s.toks) (o:=.tup (xs++ys)) (λb ob q=>Heap.get?_push_of_some _ q) (le_refl _) ?_,rfl,q2 (λw=>z (r2.nil_iff.mpr w)) _ (I.hok.fresh (le_refl _))⟩;exact⟨by rw[length_append];exact hz,_,r1.append r2,IsTupD.new _ _⟩
end
def ixN(n:Nat)(i:Int):Option Nat:=if 0<=i then(if i<n then some i.toNat else none)else if -(n:Int)<=i then some (i+n).toNat else none
def atI{α:Type}(xs:List α)(i:Int):Option α:=(ixN xs.length i).bind λj=>xs[j]?
def HZ{n:Nat}{i:Int}{j:Nat}(h:ixN n i=some j):seqIndex? i n=some j/\j<n/\-(n:Int)<=i/\i<n:=by
 unfold ixN at h;by_cases h0:0<=i
 .rw[if_pos h0]at h;by_cases h1:i<n
  .rw[if_pos h1]at h;have e:i.toNat=j:=Option.some.inj h;exact⟨by rw[seqIndex_of h0 h1,e],by omega,by omega,h1⟩
  .rw[if_neg h1]at h;cases h
 .rw[if_neg h0]at h;by_cases h1:-(n:Int)<=i
  .rw[if_pos h1]at h;have e:(i+n).toNat=j:=Option.some.inj h;exact⟨by rw[seqIndex_neg (by omega) h1,e],by omega,h1,by omega⟩
  .rw[if_neg h1]at h;cases h
def Ky{α:Type}{xs:List α}{i:Int}{v:α}(h:atI xs i=some v):∃j,seqIndex? i xs.length=some j/\xs[j]?=some v/\j<xs.length/\-(xs.length:Int)<=i/\i<xs.length:=by
 unfold atI at h;cases e:ixN xs.length i with
 |none=>rw[e]at h;cases h
 |some j=>
  rw[e]at h;obtain⟨h1,h2,h3,h4⟩:=HZ e;exact⟨j,h1,h,h2,h3,h4⟩
def EV{α:Type}{xs:List α}{j:Nat}{v:α}(h:xs[j]?=some v):atI xs (j:Int)=some v:=by
 have hj:j<xs.length:=(List.getElem?_eq_some_iff.mp h).1;have e:ixN xs.length (j:Int)=some j:=by
  unfold ixN;rw[if_pos (by omega),if_pos (by omega)];simp
 unfold atI;rw[e];exact h
def Hs(b:Expr):Prop:=∀o i,subscripted b false o i=operate [o,i] (getItem o i)
def IxR(X:Cx)(r:R2):Prop:=
 ∀(value slice:Expr) (pins:List (Addr×Obj)) (s:Shared) (σ:St) (H:Hp) (x y:V) (v u:Value) (Q:VK),Inv X pins σ H s->RelV x v->RelV y u->r x y H Q ->
   subscripted slice false v u=operate [v,u] (getItem v u)->wpAny (model X.prog X.w) X.A (subscriptTail value slice v u) (EP X pins σ Q) X.xe s
def MtR(X:Cx)(id:String)(r:V->List V->Hp->VK->Prop):Prop:=
 ∀(pins:List (Addr×Obj)) (s:Shared) (σ:St) (H:Hp) (x:V) (xs:List V) (v:Value) (us:List Value) (Q:VK),Inv X pins σ H s->RelV x v->Vals xs us->r x xs H Q ->
   wpAny (model X.prog X.w) X.A (call (.builtin id) (v::us)) (EP X pins σ Q) X.xe s
section
variable{X:Cx}{a b:Expr}{ta tb:TE}{pos:Pos}
def IxR.or{r r':R2}(h:IxR X r)(h':IxR X r'):IxR X (λx y H Q=>r x y H Q∨r' x y H Q):=by
 intro value slice pins s σ H x y v u Q I rx ry q hs;rcases q with q|q
 .exact h value slice pins s σ H x y v u Q I rx ry q hs
 .exact h' value slice pins s σ H x y v u Q I rx ry q hs
def Q2{r:R2}(hr:IxR X r)(ha:PE X a ta)(hb:PE X b tb)(hs:Hs b):PE X (.Subscript a b pos) (tOp r ta tb):=by
 intro pins s σ H Q I h;exact Subscript_ (Pm ha hb I h λv u s2 x y H2 I2 rx ry q=>hr a b pins s2 σ H2 x y v u Q I2 rx ry q (hs _ _))
def Oq(K:PySem.W.Frag):R2:=λx y H Q=>∃p xs i v,x=.ref p/\y=.int i/\SqL K H p xs/\atI xs i=some v/\Q v H
def Op(K:PySem.W.Frag):R2:=λx y H Q=>∃p xs i v,x=.ref p/\y=.int i/\SqT K H p xs/\atI xs i=some v/\Q v H
def T3:IxR X (Oq X.K):=by
 intro value slice pins s σ H x y v u Q I rx ry h hs;obtain⟨p,xs,i,z,rfl,rfl,hq,he,q⟩:=h;cases rx;obtain⟨t,rfl⟩:=ry;obtain⟨its,r,pl,hz⟩:=I.list hq;obtain⟨j,h1,h2,h3,h4,h5⟩:=Ky he;obtain⟨w,ew,rw'⟩:=r.get h2;have hl:=r.length;have hn:=FI;have fin:EP X pins σ Q w s:=⟨z,H,I,rw',q⟩
 by_cases h0:0<=i
 .have hj:i.toNat=j:=by
   rw[seqIndex_of h0 h5]at h1;exact Option.some.inj h1
  exact item_listR pl.isList h0 (by omega) (by rw[hj];simpa using ew) fin hs
 .have hj:(i+(its.toArray.size:Int)).toNat=j:=by
   rw[seqIndex_neg (by omega) h4]at h1;rw[size_toArray,<- hl];exact Option.some.inj h1
  exact subscriptTail_builtinR (x:=w) pl.isList.typeIs slot_list_getitem.lookup
   (wpAny_getItem_list_neg (Q:=λr s'=>r=w/\EP X pins σ Q r s') pl.isList (by omega) (by rw[size_toArray]<;>omega) (by omega) (by rw[hj];simpa using ew) ⟨rfl,fin⟩) hs
def Vi:IxR X (Op X.K):=by
 intro value slice pins s σ H x y v u Q I rx ry h hs;obtain⟨p,xs,i,z,rfl,rfl,hq,he,q⟩:=h;cases rx;obtain⟨t,rfl⟩:=ry;obtain⟨its,r,pl,hz⟩:=I.tuple hq;obtain⟨j,h1,h2,h3,h4,h5⟩:=Ky he;obtain⟨w,ew,rw'⟩:=r.get h2;have hl:=r.length;have hn:=FI;have fin:EP X pins σ Q w s:=⟨z,H,I,rw',q⟩
 exact subscriptTail_builtinR (x:=w) pl.typeIs slot_tuple_getitem.lookup
  (getItem_tuple (j:=j) (Q:=λr s'=>r=w/\EP X pins σ Q r s') pl (by omega) (by omega) (by rw[size_toArray,<- hl];exact h1) (by simpa using ew) ⟨rfl,fin⟩) hs
def Lu(its:List Value)(n j:Nat)(u:Value):Obj.mapSeq (·.setIfInBounds j u) { cls:=.type "list",data:=.seq its.toArray n }={ cls:=.type "list",data:=.seq (its.set j u).toArray n }:=by
 simp[Obj.mapSeq]
def Inv.lst{pins:List (Addr×Obj)}{σ:St}{H:Hp}{s:Shared}{p:Addr}{xs:List V}(I:Inv X pins σ H s)(h:H p=some (.lst xs)):
 ∃(its:List Value) (n:Nat),Vals xs its/\s.heap.get? p=some { cls:=.type "list",data:=.seq its.toArray n }/\xs.length<=sizeLine:=by
 obtain⟨z,its,n,r,e⟩:=I.hok p _ h;exact⟨its,n,r,e,z⟩
def Inv.lstUpd{pins:List (Addr×Obj)}{σ:St}{H:Hp}{s:Shared}{p:Addr}{xs ys:List V}{its its':List Value}{n n':Nat}{f:Obj->Obj}(I:Inv X pins σ H s)(h:H p=some (.lst xs))
 (ho:s.heap.get? p=some { cls:=.type "list",data:=.seq its.toArray n }) (hf:f { cls:=.type "list",data:=.seq its.toArray n }={ cls:=.type "list",data:=.seq its'.toArray n' }) (r:Vals ys its') (hz:ys.length<=sizeLine) (t:Nat):
 Inv X pins σ (upd H p (.lst ys)) { s with heap:=s.heap.update p f,toks:=t }:=by
 have e:(s.heap.update p f).get? p=some { cls:=.type "list",data:=.seq its'.toArray n' }:=by
  rw[Heap.get?_update_self f ho (by rw[hf]<;>rfl),hf]
 refine I.write (x:=p) (e:=p) (by rw[h];trivial) (.inl rfl) (λb u hb q=>(Heap.get?_update_other _ _ (Ne.symm hb)).trans q) ⟨_,e⟩ ?_;exact⟨hz,its',n',r,e⟩
def FZ:V->V->V->Hp->(Hp->Prop)->Prop:=λo i v H Q=>∃p xs k j,o=.ref p/\i=.int k/\H p=some (.lst xs)/\ixN xs.length k=some j/\Q (upd H p (.lst (xs.set j v)))
def J8:W9 X FZ:=by
 intro pins s σ H o i v ov iv u Q I ro ri rv h;obtain⟨p,xs,k,j,rfl,rfl,hp,hj,q⟩:=h;cases ro;obtain⟨t,rfl⟩:=ri;obtain⟨its,n,r,ho,hz⟩:=I.lst hp;obtain⟨h1,h2,h3,h4⟩:=HZ hj;have hl:=r.length;have hn:=FI;have I':Inv X pins σ (upd H p (.lst (xs.set j v))) { s with heap:=s.heap.update p (Obj.mapSeq (·.setIfInBounds j u)) }:=
  I.lstUpd hp ho (Lu its n j u) (r.set rv j) (by rw[List.length_set];exact hz) s.toks
 by_cases h0:0<=k
 .have hk:k.toNat=j:=by
   rw[seqIndex_of h0 h4]at h1;exact Option.some.inj h1
  exact PySem.W.ki_setAt ho h0 (by omega) (by rw[size_toArray,<- hl];exact h4) (by rw[hk];exact⟨_,I',q⟩)
 .have hk:(k+(its.toArray.size:Int)).toNat=j:=by
   rw[seqIndex_neg (by omega) h3]at h1;rw[size_toArray,<- hl];exact Option.some.inj h1
  exact PySem.W.ki_setBack ho (by omega) (by rw[size_toArray,<- hl];exact h3) (by omega) (by rw[hk];exact⟨_,I',q⟩)
def J4(lo hi:Option Int)(n:Nat):(sliceBounds lo hi none n).1=((HT.sIx n 0 lo:Nat):Int)/\(sliceBounds lo hi none n).2.1=((HT.sIx n n hi:Nat):Int)/\(sliceBounds lo hi none n).2.2=1:=by
 refine⟨?_,?_,rfl⟩
 .cases lo with
  |none=>simp[sliceBounds,HT.sIx]
  |some i=>
   simp only[sliceBounds,HT.sIx,Option.getD_none,show(1:Int)>0 by decide,if_true];by_cases h:i<0
   .simp only[h,if_true]<;>omega
   .simp only[h,if_false]<;>omega
 .cases hi with
  |none=>simp[sliceBounds,HT.sIx]
  |some i=>
   simp only[sliceBounds,HT.sIx,Option.getD_none,show(1:Int)>0 by decide,if_true];by_cases h:i<0
   .simp only[h,if_true]<;>omega
   .simp only[h,if_false]<;>omega
def IU(its:List Value)(lo hi:Option Int):slicePick its.toArray lo hi none=((its.drop (HT.sIx its.length 0 lo)).take (HT.sIx its.length its.length hi-HT.sIx its.length 0 lo)).toArray:=by
 obtain⟨h1,h2,h3⟩:=J4 lo hi its.toArray.size;unfold slicePick;rw[h1,h2,h3];simp only[sliceRange_one,pick_run,size_toArray]<;>rfl
def Lc(K:PySem.W.Frag):V->Option Int->Option Int->Hp->VK->Prop:=λx lo hi H Q=>∃a xs,x=.ref a/\SqL K H a xs/\∀p,H p=none->Q (.ref p) (upd H p (.lst (Dm xs lo hi)))
def Qm:SlR X (Lc X.K):=by
 intro pins s σ H x v vl vu lo hi sl Q I rx hs pl pu h;obtain⟨a,xs,rfl,hx,q⟩:=h;cases rx;obtain⟨its,r,ht,hz⟩:=I.list hx;have hlen:=r.length;refine⟨"list",_,slot_list_getitem.lookup,ht.isList.typeIs,?_⟩;refine wpAny_getItem_list_slice ht.isList hs pl pu .none (by simp) ?_ (by rw[size_toArray]<;>omega);rw[IU,<- hlen];refine⟨.ref s.heap.objs.size,_,I.laid (t':=s.toks) (o:=.lst (Dm xs lo hi)) (λb ob q=>Heap.get?_push_of_some _ q) (le_refl _) ?_,rfl,q _ (I.hok.fresh (le_refl _))⟩;exact⟨le_trans (Fq xs lo hi) hz,_,0,(r.drop (HT.sIx xs.length 0 lo)).take (HT.sIx xs.length xs.length hi-HT.sIx xs.length 0 lo),Heap.get?_push_size _ rfl⟩
def Cu:V->Bool
 |.non=>true
 |.bl _=>true
 |.int _=>true
 |.str _=>true
 |_=>false
def eqV:V->V->Bool
 |.non,.non=>true
 |.bl a,.bl b=>a==b
 |.bl a,.int b=>(if a then 1 else 0)==b
 |.int a,.bl b=>a==(if b then 1 else 0)
 |.int a,.int b=>a==b
 |.str a,.str b=>a==b
 |_,_=>false
def W0{A:Around}{s:Shared}{y x:V}{u v:Value}(ry:RelV y u)(rx:RelV x v)(fy:Cu y=true)(fx:Cu x=true):SeqAt.EqAt A s u v (eqV y x):=by
 cases y with
 |non=>
  cases ry;cases x with
  |non=>cases rx;exact SeqAt.EqAt.same _
  |bl b=>cases rx;exact SeqAt.EqAt.none_bool b
  |int b=>obtain⟨t,rfl⟩:=rx;exact SeqAt.EqAt.none_int b t
  |str b=>obtain⟨t,rfl⟩:=rx;exact SeqAt.EqAt.none_str b t
  |_=>exact absurd (show false=true from fx) Bool.false_ne_true
 |bl a=>
  cases ry;cases x with
  |non=>cases rx;exact SeqAt.EqAt.bool_none a
  |bl b=>cases rx;exact SeqAt.EqAt.bool_bool a b
  |int b=>obtain⟨t,rfl⟩:=rx;exact SeqAt.EqAt.bool_int a b t
  |str b=>obtain⟨t,rfl⟩:=rx;exact SeqAt.EqAt.bool_str a b t
  |_=>exact absurd (show false=true from fx) Bool.false_ne_true
 |int a=>
  obtain⟨t',rfl⟩:=ry;cases x with
  |non=>cases rx;exact SeqAt.EqAt.int_none a t'
  |bl b=>cases rx;exact SeqAt.EqAt.int_bool a t' b
  |int b=>obtain⟨t,rfl⟩:=rx;exact SeqAt.EqAt.int_int a t' b t
  |str b=>obtain⟨t,rfl⟩:=rx;exact SeqAt.EqAt.int_str a t' b t
  |_=>exact absurd (show false=true from fx) Bool.false_ne_true
 |str a=>
  obtain⟨t',rfl⟩:=ry;cases x with
  |non=>cases rx;exact SeqAt.EqAt.str_none a t'
  |bl b=>cases rx;exact SeqAt.EqAt.str_bool a t' b
  |int b=>obtain⟨t,rfl⟩:=rx;exact SeqAt.EqAt.str_int a t' b t
  |str b=>obtain⟨t,rfl⟩:=rx;exact SeqAt.EqAt.str_str a t' b t
  |_=>exact absurd (show false=true from fx) Bool.false_ne_true
 |_=>exact absurd (show false=true from fy) Bool.false_ne_true
def eqU(x:V)(u:Value):Bool:=match u with
 |.none=>eqV .non x
 |.bool b=>eqV (.bl b) x
 |.int i _=>eqV (.int i) x
 |.str z _=>eqV (.str z) x
 |_=>false
def Nn{x y:V}{u:Value}(r:RelV y u)(f:Cu y=true):eqU x u=eqV y x:=by
 cases y with
 |non=>cases r;rfl
 |bl b=>cases r;rfl
 |int i=>obtain⟨t,rfl⟩:=r;rfl
 |str z=>obtain⟨t,rfl⟩:=r;rfl
 |_=>exact absurd (show false=true from f) Bool.false_ne_true
def EW{x:V}:∀{xs:List V} {us:List Value},Vals xs us->xs.all Cu=true->us.any (eqU x)=xs.any λy=>eqV y x
 |_,_,.nil,_=>rfl
 |y::xs,u::us,.cons r t,f=>by
  rw[all_cons,Bool.and_eq_true]at f;rw[any_cons,any_cons,Nn r f.1,EW t f.2]
def Db{A:Around}{s:Shared}{x:V}{v:Value}(rx:RelV x v)(fx:Cu x=true):∀{xs:List V} {us:List Value},Vals xs us->xs.all Cu=true->∀u∈us,SeqAt.EqAt A s u v (eqU x u)
 |_,_,.nil,_=>λu hu=>by cases hu
 |y::xs,u::us,.cons r t,f=>λu' hu=>by
  rw[all_cons,Bool.and_eq_true]at f;rcases mem_cons.mp hu with rfl|hu
  .rw[Nn r f.1];exact W0 r rx f.1 fx
  .exact Db rx fx t f.2 u' hu
def inV(x:V)(xs:List V):Bool:=xs.any λy=>eqV y x
def rIn(K:PySem.W.Frag)(neg:Bool):R2:=λx y H Q=>∃p xs,y=.ref p/\(SqL K H p xs∨SqT K H p xs)/\Cu x=true/\xs.all Cu=true/\Q (.bl (if neg then !inV x xs else inV x xs)) H
def NF:OpR X (compareOp .In) (rIn X.K false):=by
 intro pins s σ H x y v u Q I rx ry h;obtain⟨p,xs,rfl,hq,fx,fs,q⟩:=h;cases ry;rcases hq with hq|hq
 .obtain⟨its,r,pl,hz⟩:=I.list hq;refine SeqAt.in_listAt (eqU x) pl.isList (λw hw=>Db rx fx r fs w (by simpa using hw)) ⟨.bl _,H,I,rfl,?_⟩;rw[show its.toArray.any (eqU x)=its.any (eqU x) by simp,EW r fs];exact q
 .obtain⟨its,r,pl,hz⟩:=I.tuple hq;refine SeqAt.in_tupleAt (eqU x) pl (λw hw=>Db rx fx r fs w (by simpa using hw)) ⟨.bl _,H,I,rfl,?_⟩;rw[show its.toArray.any (eqU x)=its.any (eqU x) by simp,EW r fs];exact q
def JQ:OpR X (compareOp .NotIn) (rIn X.K true):=by
 intro pins s σ H x y v u Q I rx ry h;obtain⟨p,xs,rfl,hq,fx,fs,q⟩:=h;cases ry;rcases hq with hq|hq
 .obtain⟨its,r,pl,hz⟩:=I.list hq;refine SeqAt.notIn_listAt (eqU x) pl.isList (λw hw=>Db rx fx r fs w (by simpa using hw)) ⟨.bl _,H,I,rfl,?_⟩;rw[show its.toArray.any (eqU x)=its.any (eqU x) by simp,EW r fs];exact q
 .obtain⟨its,r,pl,hz⟩:=I.tuple hq;refine SeqAt.notIn_tupleAt (eqU x) pl (λw hw=>Db rx fx r fs w (by simpa using hw)) ⟨.bl _,H,I,rfl,?_⟩;rw[show its.toArray.any (eqU x)=its.any (eqU x) by simp,EW r fs];exact q
def Js:CallR X (.builtin "len") (λxs H Q=>∃p ys,xs=[.ref p]/\(SqL X.K H p ys∨SqT X.K H p ys)/\Q (.int ys.length) H):=by
 intro pins s σ H xs us Q I r h;obtain⟨p,ys,rfl,hq,q⟩:=h;obtain⟨u,rfl,rx⟩:=BY r;cases rx;have hn:=FI;rcases hq with hq|hq
 .obtain⟨its,r',pl,hz⟩:=I.list hq;have hlen:=r'.length;exact Calls.call_len_list pl.isList (by simp only[size_toArray]<;>omega) ⟨.int ys.length,H,I.tok _,⟨s.toks+1,by rw[size_toArray,hlen]⟩,q⟩
 .obtain⟨its,r',pl,hz⟩:=I.tuple hq;have hlen:=r'.length;exact len_tuple pl (by simp only[size_toArray]<;>omega) ⟨.int ys.length,H,I.tok _,⟨s.toks+1,by rw[size_toArray,hlen]⟩,q⟩
def CallR.or{f:Value}{r r':List V->Hp->VK->Prop}(h:CallR X f r)(h':CallR X f r'):CallR X f (λxs H Q=>r xs H Q∨r' xs H Q):=by
 intro pins s σ H xs us Q I rs q;rcases q with q|q
 .exact h pins s σ H xs us Q I rs q
 .exact h' pins s σ H xs us Q I rs q
def Jr:CallR X (.type "list") (λxs H Q=>∃p ys,xs=[.ref p]/\(SqL X.K H p ys∨SqT X.K H p ys)/\∀l,H l=none->Q (.ref l) (upd H l (.lst ys))):=by
 intro pins s σ H xs us Q I r h;obtain⟨p,ys,rfl,hq,q⟩:=h;obtain⟨u,rfl,rx⟩:=BY r;cases rx;have fin:∀(its:List Value),Vals ys its->ys.length<=sizeLine->∀(h':Heap) (c':Nat),(∀b o',s.heap.get? b=some o'->h'.get? b=some o') ->
  h'.get? s.heap.objs.size=some { cls:=.type "list",dict:=none,data:=.seq its.toArray c',slots:=#[] }->EP X pins σ Q (.ref s.heap.objs.size) { s with heap:=h' }:=λits r' hz h' c' kp e=>
  ⟨.ref s.heap.objs.size,_,I.laid (t':=s.toks) kp (le_refl _) (show ObjOk X.prog X.w _ h' _ (.lst ys)from⟨hz,its,c',r',e⟩),rfl,q _ (I.hok.fresh (le_refl _))⟩
 rcases hq with hq|hq
 .obtain⟨its,r',pl,hz⟩:=I.list hq;have hlen:=r'.length;obtain⟨o,ho,hc,n,hd⟩:=pl.isList;exact call_list_seq p (.inl rfl) ho hc hd (λh' c' kp e=>fin its r' hz h' c' kp e) (by simp only[size_toArray]<;>omega)
 .obtain⟨its,r',pl,hz⟩:=I.tuple hq;have hlen:=r'.length;obtain⟨o,ho,hc,n,hd⟩:=pl;exact call_list_seq p (.inr rfl) ho hc hd (λh' c' kp e=>fin its r' hz h' c' kp e) (by simp only[size_toArray]<;>omega)
def IW:CallR X (.type "tuple") (λxs H Q=>∃p ys,xs=[.ref p]/\((SqL X.K H p ys/\∀l,H l=none->Q (.ref l) (upd H l (.tup ys)))∨(SqT X.K H p ys/\Q (.ref p) H))):=by
 intro pins s σ H xs us Q I r h;obtain⟨p,ys,rfl,h⟩:=h;obtain⟨u,rfl,rx⟩:=BY r;cases rx;rcases h with⟨hq,q⟩|⟨hq,q⟩
 .obtain⟨its,r',pl,hz⟩:=I.list hq;have hlen:=r'.length;refine call_tuple_list pl.isList (λh' kp=>?_) (by simp only[size_toArray]<;>omega);have I1:Inv X pins σ H { s with heap:=h' }:=I.kept (t':=s.toks) kp;have I2:Inv X pins σ (upd H h'.objs.size (.tup ys)) { s with heap:=h'.push { cls:=.type "tuple",data:=.seq its.toArray } }:=
   I1.laid (t':=s.toks) (λb o e=>Heap.get?_push_of_some _ e) (le_refl _) (show ObjOk X.prog X.w _ _ _ (.tup ys)from⟨hz,its,r',IsTupD.new _ _⟩)
  exact⟨.ref h'.objs.size,_,I2,rfl,q _ (I1.hok.fresh (le_refl _))⟩
 .obtain⟨its,r',pl,hz⟩:=I.tuple hq;exact call_tuple_same pl ⟨.ref p,H,I,rfl,q⟩
def tyV(K:PySem.W.Frag)(T:String)(x:V)(H:Hp):Prop:=match x with
 |.str _=>T="str"
 |.int _=>T="int"
 |.ref p=>(T="list"/\∃xs,SqL K H p xs)∨(T="tuple"/\∃o,K.lookup p=some o/\o.cls=.type "tuple"/\o.dict=none) ∨
  (T="dict"/\((∃kvs,H p=some (.dK kvs))∨∃kvs,H p=some (.dT kvs)))∨(T="set"/\∃S n,H p=some (.set S n))
 |_=>False
def MX{pins:List (Addr×Obj)}{σ:St}{H:Hp}{s:Shared}{T:String}{x:V}{v:Value}(I:Inv X pins σ H s)(r:RelV x v)(ty:tyV X.K T x H):
 s.TypeIs v T/\∀a,v=.ref a->∃ob,s.heap.get? a=some ob/\ob.dict=none:=by
 cases x with
 |str z=>
  obtain⟨t,rfl⟩:=r;cases(show T="str" from ty);exact⟨typeIs_str s z t,λ_ e=>nomatch e⟩
 |int i=>
  obtain⟨t,rfl⟩:=r;cases(show T="int" from ty);exact⟨typeIs_int s i t,λ_ e=>nomatch e⟩
 |ref p=>
  cases r;rcases ty with⟨rfl,xs,hq⟩|⟨rfl,o,hk,hc,hd⟩|⟨rfl,hk⟩|⟨rfl,S,n,hk⟩
  .obtain⟨its,_,pl,_⟩:=I.list hq;refine⟨pl.isList.typeIs,λa e=>?_⟩;cases e;obtain⟨o,n,e,c,hd,_⟩:=pl;exact⟨o,e,hd⟩
  .refine⟨⟨o,I.kIn p o hk,hc⟩,λa e=>?_⟩;cases e;exact⟨o,I.kIn _ o hk,hd⟩
  .have z:∃o,s.heap.get? p=some o/\o.ExactDict:=by
    rcases hk with⟨kvs,hk⟩|⟨kvs,hk⟩
    .obtain⟨_,_,_,_,o,_,_,e,ex,_⟩:=I.hok p _ hk;exact⟨o,e,ex⟩
    .obtain⟨_,_,_,_,o,_,_,e,ex,_⟩:=I.hok p _ hk;exact⟨o,e,ex⟩
   obtain⟨o,e,ex⟩:=z;refine⟨⟨o,e,ex.1⟩,λa e2=>?_⟩;cases e2;exact⟨o,e,ex.2.1⟩
  .obtain⟨o,_,_,_,e,ex,_⟩:=I.hok p _ hk;refine⟨⟨o,e,ex.1⟩,λa e2=>?_⟩;cases e2;exact⟨o,e,ex.2.1⟩
 |_=>exact False.elim ty
def OS(K:PySem.W.Frag)(T:String)(r:V->List V->Hp->VK->Prop)(to:TE):TE:=λσ H Q=>to σ H λx H1=>tyV K T x H1/\r x [] H1 Q
def tBM(K:PySem.W.Frag)(T:String)(r:V->List V->Hp->VK->Prop)(to:TE)(t:TA):TE:=λσ H Q=>to σ H λx H1=>tyV K T x H1/\t σ H1 λxs H2=>r x xs H2 Q
variable{o e:Expr}{es:List Expr}{to:TE}{t:TA}{name:Str}{apos cpos:Pos}{T id:String}{r:V->List V->Hp->VK->Prop}
def VL(pa:PlainAttrs T)(slot:Slot T name id)(hty:typeOf (.builtin id)=pure (.type "method_descriptor"))(hm:MtR X id r)(ho:PE X o to)
 (hbase:attributeBase o name X.env (eval o X.env)=eval o X.env:=by rfl) (hline:(apos.endLine==cpos.line)=true:=by rfl):PE X (.Call (.Attribute o name apos) [] [] cpos) (OS X.K T r to):=by
 intro pins s σ H Q I h;refine wpAny_Call_method0_late hbase hline (thn (ho pins s σ H _ I h) λv s1 ⟨x,H1,I1,r1,ty,q1⟩=>?_);obtain⟨h1,h2⟩:=MX I1 r1 ty;exact⟨T,id,pa,slot,hty,h1,h2,Calls.callWith_builtin rfl (PySem.evalArgs_none (hm pins s1 σ H1 x [] v [] Q I1 r1 .nil q1))⟩
def Wn(pa:PlainAttrs T)(slot:Slot T name id)(hty:typeOf (.builtin id)=pure (.type "method_descriptor"))(hm:MtR X id r)(ho:PE X o to)(ha:PA X (e::es) t)
 (hbase:attributeBase o name X.env (eval o X.env)=eval o X.env:=by rfl)
 (hfew:((backTo cpos (starEach (e::es) X.env)).all (λx=>!x.1)&&(backToKw cpos (keywordEach [] X.env)).all (λx=>x.1.isSome)
  && decide ((e::es).length+([]:List Keyword).length+(if([]:List Keyword).isEmpty then 0 else 1)<30))=true:=by rfl)
 (hline:(apos.endLine==cpos.line)=true:=by rfl) (hs:starEach (e::es) X.env=(false,eval e X.env)::starEach es X.env:=by rfl) (hplain:(backTo cpos (starEach es X.env)).any (·.1)=false:=by rfl):
 PE X (.Call (.Attribute o name apos) (e::es) [] cpos) (tBM X.K T r to t):=by
 intro pins s σ H Q I h;refine wpAny_Call_method_late hbase hfew hline rfl (thn (ho pins s σ H _ I h) λv s1 ⟨x,H1,I1,r1,ty,q1⟩=>?_);obtain⟨h1,h2⟩:=MX I1 r1 ty;refine⟨T,id,pa,slot,hty,h1,h2,?_⟩;have hA:=ha cpos pins s1 σ H1 _ I1 q1;rw[hs]at hA ⊢;refine Calls.callWith_builtin (by show(false||(backTo cpos (starEach es X.env)).any (·.1))=false;rw[hplain]<;>rfl) (Calls.evalArgs_plain ?_);exact thn hA λus s2 ⟨vs,H2,I2,r2,q2⟩=>hm pins s2 σ H2 x vs v us Q I2 r1 r2 q2
end
def MtM(X:Cx)(id:String)(r:V->List V->Hp->VK->Prop):Prop:=
 ∀(pins:List (Addr×Obj)) (s:Shared) (σ:St) (H:Hp) (x:V) (xs:List V) (v:Value) (us:List Value) (Q:VK),Inv X pins σ H s->RelV x v->Vals xs us->r x xs H Q ->
   wpAny (model X.prog X.w) X.A (call (.builtin id) (v::us)) (EP X pins σ Q) X.xe s
def Vals.one:∀{x:V} {us:List Value},Vals [x] us->∃u,us=[u]/\RelV x u
 |_,_,.cons r .nil=>⟨_,rfl,r⟩
def Vals.eraseIdx:∀{xs:List V} {us:List Value} (i:Nat),Vals xs us->Vals (xs.eraseIdx i) (us.eraseIdx i)
 |_,_,_,.nil=>.nil
 |_,_,0,.cons _ t=>t
 |_,_,i+1,.cons r t=>.cons r (Vals.eraseIdx i t)
def Vals.rep{xs:List V}{us:List Value}(h:Vals xs us):∀k:Nat,Vals (List.replicate k xs).flatten (List.replicate k us).flatten
 |0=>.nil
 |k+1=>by
  rw[replicate_succ,replicate_succ,flatten_cons,flatten_cons];exact Vals.append h (Vals.rep h k)
def IE{α:Type}:∀(l:List α) (i:Nat),(l.eraseIdx i).length<=l.length
 |[],_=>le_refl _
 |_::_,0=>le_succ _
 |_::r,i+1=>Nat.succ_le_succ (IE r i)
def II(its:List Value):∀(k:Nat) (acc:List Value),
 List.foldl (λx1 x2=>x1++x2) acc.toArray (List.replicate k its.toArray)=(acc++(List.replicate k its).flatten).toArray
 |0,acc=>by simp
 |k+1,acc=>by
  have e:acc.toArray++its.toArray=(acc++its).toArray:=by simp
  have e2:(acc++its)++(List.replicate k its).flatten=acc++(List.replicate (k+1) its).flatten:=by
   rw[replicate_succ,flatten_cons,append_assoc]
  rw[<- e2,<- II its k (acc++its),<- e,replicate_succ,List.foldl_cons]
section
variable{X:Cx}{pins:List (Addr×Obj)}{σ:St}{H:Hp}{s:Shared}{l b:Addr}{xs ys zs:List V}
def Inv.lset{its its':List Value}{n:Nat}{f:Array Value->Array Value}{t':Nat}(I:Inv X pins σ H s)(hH:H l=some (.lst xs))
 (e:s.heap.get? l=some { cls:=.type "list",data:=.seq its.toArray n }) (hf:f its.toArray=its'.toArray) (hv:Vals ys its') (hz:ys.length<=sizeLine):
 Inv X pins σ (upd H l (.lst ys)) { s with heap:=s.heap.update l (Obj.mapSeq f),toks:=t' }:=by
 have q:=PySem.IsL.update e f;rw[hf]at q;refine I.write (x:=l) (e:=l) (by rw[hH];exact trivial) (.inl rfl) (λb' u hb hu=>(Heap.get?_update_other s.heap (Obj.mapSeq f) (Ne.symm hb)).trans hu) ⟨_,q⟩ ?_;exact⟨hz,its',_,hv,q⟩
def Inv.lnew{its:List Value}{t':Nat}(I:Inv X pins σ H s)(hv:Vals ys its)(hz:ys.length<=sizeLine):
 Inv X pins σ (upd H s.heap.objs.size (.lst ys)) { s with heap:=s.heap.push { cls:=.type "list",data:=.seq its.toArray },toks:=t' }:=
 I.laid (λ_ _ q=>Heap.get?_push_of_some _ q) (le_refl _) ⟨hz,its,0,hv,Heap.get?_push_size _ rfl⟩
def Inv.fresh(I:Inv X pins σ H s):H s.heap.objs.size=none:=I.hok.fresh (le_refl _)
def Inv.lstM(I:Inv X pins σ H s)(hH:H l=some (.lst xs)):xs.length<=sizeLine/\∃(its:List Value) (n:Nat),Vals xs its/\xs.length=its.length/\s.heap.get? l=some { cls:=.type "list",data:=.seq its.toArray n }:=by
 obtain⟨z,its,n,r,e⟩:=I.hok l _ hH;exact⟨z,its,n,r,r.length,e⟩
def PP{n:Nat}(h:n<=sizeLine):Builtin.List.listTooLong n=false:=by
 unfold Builtin.List.listTooLong;exact decide_eq_false (by omega)
end
section
variable{X:Cx}
def Kd:V->List V->Hp->VK->Prop:=λx vs H Q=>∃l xs y,x=.ref l/\vs=[y]/\H l=some (.lst xs)/\xs.length<sizeLine/\Q .non (upd H l (.lst (xs++[y])))
def ID:MtM X "list.append" Kd:=by
 intro pins s σ H x vs v us Q I rx rv h;obtain⟨l,xs,y,rfl,rfl,hH,hz,q⟩:=h;cases rx;obtain⟨u,rfl,ru⟩:=rv.one;obtain⟨z,its,n,r,hl,e⟩:=I.lstM hH;refine call_meets F.slot_list_append ⟨_,e,rfl⟩ F.entry_list_append (F.args_list_append_2 _ _) (PySem.list_append l its.toArray n u (by rw[size_toArray];omega)) ⟨e,?_⟩;refine⟨.non,_,I.lset (its':=its++[u]) hH e (by simp) (r.append (.cons ru .nil)) ?_,rfl,q⟩;rw[length_append,List.length_singleton];omega
def Rk:V->List V->Hp->VK->Prop:=λx vs H Q=>∃l b xs zs,x=.ref l/\vs=[.ref b]/\H l=some (.lst xs)/\H b=some (.lst zs)/\xs.length+zs.length<=sizeLine/\Q .non (upd H l (.lst (xs++zs)))
def XA:MtM X "list.extend" Rk:=by
 intro pins s σ H x vs v us Q I rx rv h;obtain⟨l,b,xs,zs,rfl,rfl,hH,hB,hz,q⟩:=h;cases rx;obtain⟨u,rfl,ru⟩:=rv.one;cases ru;obtain⟨z,its,n,r,hl,e⟩:=I.lstM hH;obtain⟨z2,its2,n2,r2,hl2,e2⟩:=I.lstM hB;have hsz:its.toArray.size+its2.toArray.size<=sizeLine:=by rw[size_toArray,size_toArray];omega
 have hlong:¬ (!its.toArray.isEmpty&&Builtin.List.listTooLong (its.toArray.size+its2.toArray.size))=true:=by
  rw[PP hsz,Bool.and_false];exact Bool.false_ne_true
 refine call_meets F.slot_list_extend ⟨_,e,rfl⟩ F.entry_list_extend (F.args_list_extend_2 _ _)
  (AutoSeq1.list_extend_list_list_0 l its.toArray n b its2.toArray n2 hlong (by rw[size_toArray];omega) (by omega)) ⟨e,e2,?_⟩
 refine⟨.non,_,I.lset (its':=its++its2) hH e (by simp) (r.append r2) ?_,rfl,q⟩;rw[length_append];omega
def N2:V->List V->Hp->VK->Prop:=λx vs H Q=>∃l xs i k y,x=.ref l/\vs=[.int i]/\H l=some (.lst xs)/\-(2^63)<=i/\i<2^63/\seqIndex? i xs.length=some k/\xs[k]?=some y/\Q y (upd H l (.lst (xs.eraseIdx k)))
def PR:MtM X "list.pop" N2:=by
 intro pins s σ H x vs v us Q I rx rv h;obtain⟨l,xs,i,k,y,rfl,rfl,hH,h1,h2,hk,hy,q⟩:=h;cases rx;obtain⟨u,rfl,ru⟩:=rv.one;obtain⟨t,rfl⟩:=ru;obtain⟨z,its,n,r,hl,e⟩:=I.lstM hH;obtain⟨w,hw,rw'⟩:=r.get hy;refine call_meets F.slot_list_pop ⟨_,e,rfl⟩ F.entry_list_pop (F.args_list_pop_2 _ _)
  (MeetsSeq.list_pop_at l its.toArray n i t k w (fitsIndex_both h1 h2) (by rw[size_toArray,<- hl];exact hk) (by rw[<- Array.getElem?_toList];exact hw) (by rw[size_toArray];omega)) ⟨e,?_⟩
 refine⟨y,_,I.lset (its':=its.eraseIdx k) hH e ?_ (r.eraseIdx k) ?_,rw',q⟩
 .show its.toArray.eraseIdxIfInBounds k=(its.eraseIdx k).toArray;rw[List.eraseIdxIfInBounds_toArray]
 .have:=IE xs k;omega
def Ot:R2:=λx y H Q=>∃l b xs zs,x=.ref l/\y=.ref b/\H l=some (.lst xs)/\H b=some (.lst zs)/\xs.length+zs.length<=sizeLine/\∀p,H p=none->Q (.ref p) (upd H p (.lst (xs++zs)))
def VW:OpR X (binaryOp .Add) Ot:=by
 intro pins s σ H x y v u Q I rx ry h;obtain⟨l,b,xs,zs,rfl,rfl,hH,hB,hz,q⟩:=h;cases rx;cases ry;obtain⟨z,its,n,r,hl,e⟩:=I.lstM hH;obtain⟨z2,its2,n2,r2,hl2,e2⟩:=I.lstM hB;refine PySem.P.add_list e e2 ?_ (by rw[size_toArray,size_toArray];omega);have ea:its.toArray++its2.toArray=(its++its2).toArray:=by simp
 rw[ea];exact⟨.ref _,_,I.lnew (t':=s.toks) (r.append r2) (by rw[length_append];omega),rfl,q _ I.fresh⟩
def T0{α:Type}(xs:List α)(k:Nat):(List.replicate k xs).flatten.length=k*xs.length:=by
 induction k with
 |zero=>simp
 |succ k ih=>rw[replicate_succ,flatten_cons,length_append,ih,Nat.succ_mul,Nat.add_comm]
end
end L2
namespace Att
open PySem PySem.W PySem.Calls PyProof.Rows
def Gw{P:Params}{h:Heap}:∀(ns:List Int) (vs:List Value),WellAll P h vs (ns.map WData.int)->IntsAre vs ns:=by
 intro ns
 induction ns with
 |nil=>
  intro vs w;rw[map_nil]at w;cases w;exact .nil
 |cons n ns ih=>
  intro vs w;rw[map_cons]at w;cases w with
  |cons a b=>
   cases a;exact .cons _ _ (ih _ b)
def Mi{l:OpenLaw}{n:Nat}(hn:l.most=some n){P:Params}{h:Heap}{args:List WData}{vals:List Value}
 (hpre:l.row.toRowW.claim.pre args=true) (hwl:WellAll P h vals args):
 ∃a vs ns,vals=[Value.ref a]/\args=[WData.list (ns.map WData.int)]/\h.get? a=some { cls:=.type "list",data:=.seq vs.toArray }/\IntsAre vs ns/\ns.length<=n:=by
 have hsh:WShape.hasAll [] args [.list .int]=true:=(pre_splitW hpre).1;have hc:l.pre.holds [] { args:=args }=true:=(pre_splitW hpre).2;obtain⟨d,r,rfl,h1,h2⟩:=hasAllW_cons hsh;obtain rfl:=hasAllW_nil h2;obtain⟨xs,rfl,h3⟩:=hasW_list h1;obtain⟨ns,rfl⟩:=items_int h3;have hlen:ns.length<=n:=by
  unfold OpenLaw.pre at hc;have h4:(WTm.not (.lt (.lit (.int (n:Int))) (.len (.arg 0)))).holds [] { args:=[.list (ns.map .int)] }=true:=by
   have h4:=(holds_andW hc).1;rw[hn]at h4;exact h4
  have h5:=condW_of h4 (w_not (w_lt w_lit (w_len_list (w_arg rfl))));rw[length_map]at h5;refine Nat.le_of_not_lt λq=>?_;have q':(n:Int)<((ns.length:Nat):Int):=by omega
  first
   |(rw[decide_eq_true q']at h5;exact absurd h5 (by decide))
   |(simp at h5;omega)
 cases hwl with
 |cons w1 w2=>
  cases w2;cases w1 with
  |list ho hall=>exact⟨_,_,ns,rfl,rfl,ho,Gw ns _ hall,hlen⟩
def N5(l:OpenLaw)(args:List WData):l.row.toRowW.claim.post args (.bool true) args=true:=
 postW_of (r:=l.row.toRowW) (X:=(true==true))
  (show WShape.has [] (.bool true) .bool=true by first|rfl|decide|simp[WShape.has,WShape.arms,WShape.armsAll])
  (show(WTm.eq .res (.lit (.bool true))).value [] { args:=args,res:=some (.bool true),after:=args }=some (.bool (true==true))from w_eq_bool (w_res rfl) w_lit) rfl
def attach_call{l:OpenLaw}{n:Nat}{q:Program}{loose:List Str}{XP:(Str->Option Value)->Heap->Prop}{YP:World->Heap->Prop}{d:DefRec}
 (hn:l.most=some n) (hdf:d.params.defaults=[])
 (call:∀(w:World) (s₀ s₁:Shared) (mg mb:Str->Option Value) (fa:Addr) (o:Obj) (pm cd doc:Value) (a:Addr) (vs:List Value) (ns:List Int),
  Ground q loose [] XP w s₀ mg mb s₁.heap->YP w s₁.heap ->
  s₁.heap.get? fa=some o->o.data=.func (docDef d.name d.params d.body d.scope pm cd doc)->s₁.heap.CodeRec cd d.name->mg d.name=some (.ref fa) ->
  s₁.heap.get? a=some { cls:=.type "list",data:=.seq vs.toArray }->IntsAre vs ns->ns.length<=n->s₁.gens=#[] ->
  codeAny (model l.prog w) callerA (.call (.ref fa) ⟨[.ref a],[]⟩) (λr s'=>r=.ok (.ret (.bool true))/\OldK s₁.heap s'.heap/\s'.os=s₁.os/\AllBare s'.gens) s₁):
 WalkO q loose XP YP l.row.toRowW d [] (λf vs=>PySem.call f vs):=by
 intro w s₀ s₁ mg mb G Y fa o pm cd doc dV kV ho hd hcd hD hmg hg args vals as hpre hlay hrd hwl hlo;obtain rfl:dV=.none:=Dflts.none hD hdf;obtain rfl:kV=.none:=Dflts.noKw hD;obtain⟨a,vs,ns,rfl,rfl,hobj,hints,hlen⟩:=Mi hn hpre hwl;refine enter_call (codeAny_mono (call w s₀ s₁ mg mb fa o pm cd doc a vs ns G Y ho (fd_plain hd) hcd hmg hobj hints hlen hg) λr s' hq=>?_);obtain⟨rfl,h2,h3,h4⟩:=hq;exact⟨.inl ⟨.bool true,.bool true,[],rfl,λ_=>rfl,.bool true,N5 l _,λ_=>⟨List.Pairwise.nil,λ_ hm=>(nomatch hm)⟩⟩,h2,h3,h4⟩
end Att
namespace L2
open PySem PySem.Spec PyProof.Rows
def Hv:∀{vs:List Value} {ns:List Int},IntsAre vs ns->Vals (ns.map V.int) vs
 |_,_,.nil=>.nil
 |_,_,.cons n t h=>.cons ⟨t,rfl⟩ (Hv h)
def C4(s:Stmt):Arguments:=match s with
 |.FunctionDef _ a _ _ _ _ _ _ _ _=>a
 |_=>{ posonlyargs:=[],args:=[],vararg:=none,kwonlyargs:=[],kw_defaults:=[],kwarg:=none,defaults:=[] }
def BK(s:Stmt):List Stmt:=match s with
 |.FunctionDef _ _ b _ _ _ _ _ _ _=>b
 |_=>[]
def AM(s:Stmt):Scope:=match s with
 |.FunctionDef _ _ _ _ _ _ sc _ _ _=>sc
 |_=>{ kind:=.function,names:=[],isGenerator:=false,isCoroutine:=false }
abbrev CX0:CXT:=λ_ _ _ _ _ _=>False
abbrev E0:XK:=λ_ _ _=>False
def Wp{X:Cx}:Jz CX0 X E0:=λ_ _ _ _ _ _ _ h=>h.elim
structure Fun(K:PySem.W.Frag)(x qual:Str)(st:Stmt)(f:Addr)(fd:FuncData):Prop where
 ex:∃(oc:Value) (od:Option Addr) (kV doc pm:Value) (an:Option Addr) (cdv ct:Value) (osl:Array (Option Value)),
  fd=PySem.W.fnOf x qual (C4 st) (BK st) (AM st) .none kV doc pm an cdv ct/\K.lookup f=some ⟨oc,od,.func fd,osl⟩/\PySem.W.codeIn K cdv qual=true
 kp:PySem.W.keepIn K (.ref f)=true
section
variable{P:Program}{w:World}{K:PySem.W.Frag}{mg:Str->Option Value}{base:Heap}
def Fun.ok{x qual:Str}{st:Stmt}{f:Addr}{fd:FuncData}{N ps:List Str}{k:Nat}{sp:Sp}(F:Fun K x qual st f fd)(S:FnScope N ps (AM st))(len:∀vs H Q E,sp vs H Q E->vs.length=ps.length)
 (hbody:∀(cdv:Value) (A:Around) (outer:List Env) (s:Shared) (H:Hp) (vs:List V) (Q:VK) (E:XK),Room k (A.deeper (envOfC qual (AM st) s.heap.objs.size f cdv))->sp vs H Q E ->
  ∃t,PSs (FQ CX0 P w K mg base N qual (AM st) f cdv A outer s H E).nox (BK st) t/\t { nx:=λ_ H'=>Q .non H',rt:=Q } (CC N vs) H):FnOk P w K mg base CX0 (k+1) f fd ps sp:=by
 obtain⟨oc,od,kV,doc,pm,an,cdv,ct,osl,rfl,lk,hcd⟩:=F.ex;refine Wz lk hcd S len λA outer s H vs Q E hr hsp=>?_;obtain⟨t,h,q⟩:=hbody cdv A outer s H vs Q E hr hsp;exact⟨t,h.nox,q⟩
def Fun.binds{x qual:Str}{st:Stmt}{f:Addr}{fd:FuncData}{ps:List Str}(F:Fun K x qual st f fd)
 (h:∀(kV doc pm:Value) (an:Option Addr) (cdv ct:Value) (us:List Value),us.length=ps.length->bindArgs (PySem.W.fnOf x qual (C4 st) (BK st) (AM st) .none kV doc pm an cdv ct) ⟨us,[]⟩=pure (ps.zip us)):Binds K fd ps []:=by
 obtain⟨oc,od,kV,doc,pm,an,cdv,ct,osl,rfl,lk,hcd⟩:=F.ex;exact .all (h kV doc pm an cdv ct)
def Vm{x qual:Str}{st:Stmt}{f:Addr}{oc:Value}{od an:Option Addr}{osl:Array (Option Value)}{kV doc pm cdv ct:Value}(l:K.lookup f=some ⟨oc,od,.func (PySem.W.fnOf x qual (C4 st) (BK st) (AM st) .none kV doc pm an cdv ct),osl⟩)
 (c:PySem.W.codeIn K cdv qual=true) (k:PySem.W.keepIn K (.ref f)=true):Fun K x qual st f (PySem.W.fnOf x qual (C4 st) (BK st) (AM st) .none kV doc pm an cdv ct):=⟨⟨oc,od,kV,doc,pm,an,cdv,ct,osl,rfl,l,c⟩,k⟩
end
def M2{A:Around}{k:Nat}(hr:Room k A):A.units+1<cLine:=lt_of_le_of_lt (Nat.add_le_add_left (by decide:1<=64) _) hr.units
def Hy{n:Nat}(h:n<=1000):n<sizeLine:=lt_of_le_of_lt h (by decide)
section
variable{κ:Type}[DecidableEq κ]
def Ck(kvs:List (κ×V))(k:κ):Option V:=(kvs.find? λkv=>decide (kv.1=k)).map (·.2)
def Ba(kvs:List (κ×V))(k:κ)(v:V):List (κ×V):=
 if(kvs.any λkv=>decide (kv.1=k))=true then kvs.map (λkv=>if kv.1=k then(kv.1,v)else kv)else kvs++[(k,v)]
def DT{p:κ×V}{r:List (κ×V)}{k:κ}(e:p.1=k):Ck (p::r) k=some p.2:=by simp[Ck,find?_cons,e]
def DU{p:κ×V}{r:List (κ×V)}{k:κ}(e:¬ p.1=k):Ck (p::r) k=Ck r k:=by simp[Ck,find?_cons,e]
def Ix(k:κ):∀kvs:List (κ×V),(kvs.any λkv=>decide (kv.1=k))=(Ck kvs k).isSome
 |[]=>rfl
 |p::r=>by
  rw[any_cons];by_cases e:p.1=k
  .simp only[DT e,decide_eq_true e,Bool.true_or,Option.isSome_some]
  .rw[DU e,decide_eq_false e,Bool.false_or];exact Ix k r
def E6(kvs:List (κ×V))(k:κ)(v:V):(Ba kvs k v).length<=kvs.length+1:=by
 unfold Ba;split
 .rw[length_map];omega
 .rw[length_append,length_cons,length_nil];omega
def RelO.isSome_eq{o:Option V}{u:Option Value}(r:RelO o u):o.isSome=u.isSome:=by
 cases o with
 |none=>cases u with
  |none=>rfl
  |some _=>exact(show False from r).elim
 |some _=>cases u with
  |none=>exact(show False from r).elim
  |some _=>rfl
def KV.val{kvs:List (κ×V)}{vs:List (κ×Value)}(r:KV kvs vs)(k:κ):RelO (Ck kvs k) (valueAt vs k):=by
 unfold KV at r
 induction r with
 |nil=>exact True.intro
 |@cons p q ps qs h t ih=>
  obtain⟨h1,h2⟩:=h;by_cases e:p.1=k
  .have e':q.1=k:=h1.symm.trans e;have b:valueAt (q::qs) k=some q.2:=by simp[valueAt,find?_cons,e']
   rw[DT e,b];exact h2
  .have e':¬ q.1=k:=λz=>e (h1.trans z);have b:valueAt (q::qs) k=valueAt qs k:=by simp[valueAt,find?_cons,e']
   rw[DU e,b];exact ih
def KV.any{kvs:List (κ×V)}{vs:List (κ×Value)}(r:KV kvs vs)(k:κ):(kvs.any λkv=>decide (kv.1=k))=vs.any λkv=>decide (kv.1=k):=by
 unfold KV at r
 induction r with
 |nil=>rfl
 |cons h t ih=>rw[any_cons,any_cons,ih,h.1]
def KV.repl{kvs:List (κ×V)}{vs:List (κ×Value)}(r:KV kvs vs)(k:κ){y:V}{u:Value}(ry:RelV y u):
 KV (kvs.map λkv=>if kv.1=k then(kv.1,y)else kv) (vs.map λkv=>if kv.1=k then(kv.1,u)else kv):=by
 unfold KV at r ⊢
 induction r with
 |nil=>exact .nil
 |@cons p q ps qs h t ih=>
  rw[map_cons,map_cons];refine .cons ?_ ih;obtain⟨h1,h2⟩:=h;by_cases e:p.1=k
  .rw[if_pos e,if_pos (h1.symm.trans e)];exact⟨h1,ry⟩
  .rw[if_neg e,if_neg (λz=>e (h1.trans z))];exact⟨h1,h2⟩
def KV.put{kvs:List (κ×V)}{vs:List (κ×Value)}(r:KV kvs vs)(k:κ){y:V}{u:Value}(ry:RelV y u):KV (Ba kvs k y) (stored vs k u):=by
 unfold Ba stored;rw[r.any k];by_cases e:(vs.any λkv=>decide (kv.1=k))=true
 .rw[if_pos e,if_pos e];exact r.repl k ry
 .rw[if_neg e,if_neg e];exact Paired.snoc r ⟨rfl,ry⟩
def KV.length{kvs:List (κ×V)}{vs:List (κ×Value)}(r:KV kvs vs):kvs.length=vs.length:=Paired.length r
end
def Gu{P:Program}{w:World}{k:Key}{u:Value}(r:RelV (kV k) u):(Ax P w).is k u=true:=by
 cases k with
 |inl i=>obtain⟨t,e⟩:=(show ∃t,u=Value.int i t from r);subst e;exact K3 P w i t
 |inr x=>obtain⟨t,e⟩:=(show ∃t,u=Value.str x t from r);subst e;exact K2 P w x t
def IG{P:Program}{w:World}:∀{ks:List Key} {us:List Value},Vals (ks.map kV) us->ItemsAre (Ax P w) ks us
 |[],_,r=>by rw[map_nil]at r;cases r;exact .nil
 |k::ks,_,r=>by
  rw[map_cons]at r;cases r with
  |cons h t=>exact .cons (Gu h) (IG t)
abbrev KT(H:Hp):List (List Key×V)->List (List Key×Addr×Value)->Prop:=Paired λp q=>p.1=q.1/\H q.2.1=some (.tup (p.1.map kV))/\RelV p.2 q.2.2
def KT.val{H:Hp}{kvs:List (List Key×V)}{xs:List (List Key×Addr×Value)}(r:KT H kvs xs)(k:List Key):RelO (Ck kvs k) ((atKey xs k).map (·.2)):=by
 induction r with
 |nil=>exact True.intro
 |@cons p q ps qs h t ih=>
  obtain⟨h1,_,h2⟩:=h;by_cases e:p.1=k
  .have e':q.1=k:=h1.symm.trans e;have b:atKey (q::qs) k=some q.2:=by simp[atKey,find?_cons,e']
   rw[DT e,b];exact h2
  .have e':¬ q.1=k:=λz=>e (h1.trans z);have b:atKey (q::qs) k=atKey qs k:=by simp[atKey,find?_cons,e']
   rw[DU e,b];exact ih
def KT.repl{H:Hp}{kvs:List (List Key×V)}{xs:List (List Key×Addr×Value)}(r:KT H kvs xs)(k:List Key){y:V}{u:Value}(ry:RelV y u):
 KT H (kvs.map λkv=>if kv.1=k then(kv.1,y)else kv) (xs.map (putAt k u)):=by
 induction r with
 |nil=>exact .nil
 |@cons p q ps qs h t ih=>
  rw[map_cons,map_cons];refine .cons ?_ ih;obtain⟨h1,h2,h3⟩:=h;unfold putAt;by_cases e:p.1=k
  .rw[if_pos e,if_pos (h1.symm.trans e)];exact⟨h1,h2,ry⟩
  .rw[if_neg e,if_neg (λz=>e (h1.trans z))];exact⟨h1,h2,h3⟩
def KT.put{H:Hp}{kvs:List (List Key×V)}{xs:List (List Key×Addr×Value)}(r:KT H kvs xs)(k:List Key){b:Addr}{y:V}{u:Value}(hb:H b=some (.tup (k.map kV)))(ry:RelV y u):
 KT H (Ba kvs k y) (storedH xs k b u):=by
 have e:(kvs.any λkv=>decide (kv.1=k))=(atKey xs k).isSome:=by
  rw[Ix,(r.val k).isSome_eq,Option.isSome_map]
 unfold Ba storedH;rw[e];by_cases q:(atKey xs k).isSome=true
 .rw[if_pos q,if_pos q];exact r.repl k ry
 .rw[if_neg q,if_neg q];exact Paired.snoc r ⟨rfl,hb,ry⟩
def KT.keeps{H H':Hp}{kvs:List (List Key×V)}{xs:List (List Key×Addr×Value)}(r:KT H kvs xs)(ht:∀b ys,H b=some (.tup ys)->H' b=some (.tup ys)):KT H' kvs xs:=
 Paired.mapP r λ_ _ z=>⟨z.1,ht _ _ z.2.1,z.2.2⟩
section
variable{P:Program}{w:World}{H:Hp}{h:Heap}{a:Addr}
def Px{u:HO}(ok:HOk P w H h)(e:Rd H a u):ObjOk P w H h a u:=e.ok ok
def Ij{kvs:List (Key×V)}(ok:HOk P w H h)(e:Rd H a (.dK kvs)):kvs.length<=sizeLine/\(a==sysModules)=false/\∃vs,KV kvs vs/\h.DictOf (Ax P w) a vs:=
 show ObjOk P w H h a (.dK kvs)from Px ok e
def QB{kvs:List (Key×V)}(ok:HOk P w H h)(e:H a=some (.dK kvs)):kvs.length<=sizeLine/\(a==sysModules)=false/\∃vs,KV kvs vs/\h.DictOf (Ax P w) a vs:=Ij ok (.inl e)
def Gs{ks:List Key}(ok:HOk P w H h)(e:H a=some (.tup (ks.map kV))):(tupleKind (Ax P w)).is h ks a:=by
 obtain⟨_,its,r,o,h1,h2,⟨n,h3⟩,_⟩:=(show ObjOk P w H h a (.tup (ks.map kV))from ok a _ e)
 exact⟨o,its.toArray,n,h1,h2,h3,by simpa using IG r⟩
def Ii{kvs:List (List Key×V)}(ok:HOk P w H h)(e:Rd H a (.dT kvs)):kvs.length<=sizeLine/\(a==sysModules)=false /\
 ∃xs,KT H kvs xs/\h.DictOfH (tupleKind (Ax P w)) a xs:=by
 obtain⟨z,y,xs,r,o,es,ep,h1,h2,h3,h4,h5⟩:=(show ObjOk P w H h a (.dT kvs)from Px ok e)
 refine⟨z,y,xs,r,o,es,ep,h1,h2,h3,h4,λx hx=>?_,h5⟩;have all:∀{l:List (List Key×V)} {m:List (List Key×Addr×Value)},KT H l m->∀x∈m,(tupleKind (Ax P w)).is h x.1 x.2.1:=by
  intro l m q
  induction q with
  |nil=>intro x hx;exact nomatch hx
  |@cons p q ps qs hq t ih=>
   intro x hx;rcases mem_cons.mp hx with e|hx
   .subst e;exact Gs ok (by rw[<- hq.1];exact hq.2.1)
   .exact ih x hx
 exact all r x hx
def X4{kvs:List (List Key×V)}(ok:HOk P w H h)(e:H a=some (.dT kvs)):kvs.length<=sizeLine/\(a==sysModules)=false /\
 ∃xs,KT H kvs xs/\h.DictOfH (tupleKind (Ax P w)) a xs:=Ii ok (.inl e)
end
def DGet(H:Hp)(a:Addr)(y:V)(r:Option V):Prop:=
 (∃kvs k,Rd H a (.dK kvs)/\y=kV k/\r=Ck kvs k)∨∃kvs k b,Rd H a (.dT kvs)/\y=.ref b/\H b=some (.tup (k.map kV))/\r=Ck kvs k
def DPut(H:Hp)(a:Addr)(y v:V)(H':Hp):Prop:=
 (∃kvs k,H a=some (.dK kvs)/\y=kV k/\kvs.length<sizeLine/\H'=upd H a (.dK (Ba kvs k v))) ∨
 ∃kvs k b,H a=some (.dT kvs)/\y=.ref b/\H b=some (.tup (k.map kV))/\kvs.length<sizeLine/\H'=upd H a (.dT (Ba kvs k v))
def DGet.k{H:Hp}{a:Addr}{kvs:List (Key×V)}{k:Key}(e:H a=some (.dK kvs)):DGet H a (kV k) (Ck kvs k):=.inl ⟨kvs,k,.inl e,rfl,rfl⟩
def DPut.k{H:Hp}{a:Addr}{kvs:List (Key×V)}{k:Key}{v:V}(e:H a=some (.dK kvs))(hl:kvs.length<sizeLine):DPut H a (kV k) v (upd H a (.dK (Ba kvs k v))):=.inl ⟨kvs,k,e,rfl,hl,rfl⟩
section
variable{X:Cx}{pins:List (Addr×Obj)}{σ:St}{H:Hp}{s:Shared}{a:Addr}{y v:V}{u r:Value}{o:Option V}{A:Around}{E:Value->Shared->Prop}
def Inv.big(I:Inv X pins σ H s):sysModules<s.heap.objs.size:=by
 have h:mainGlobals<s.heap.objs.size:=(I.mod.glob.keeps I.bk).lt;exact lt_trans (by decide) h
def Nt{Q:Value->Shared->Prop}(hu:A.units+1<cLine)(I:Inv X pins σ H s)(g:DGet H a y (some v))(ry:RelV y u)(h:∀w' s',Inv X pins σ H s'->RelV v w'->Q w' s'):
 wpAny (model X.prog X.w) A (getItem (.ref a) u) Q E s:=by
 rcases g with⟨kvs,k,e,ey,l⟩|⟨kvs,k,b,e,ey,eb,l⟩
 .subst ey;obtain⟨z,hd,vs,rel,dd⟩:=Ij I.hok e;obtain⟨w',hw,rw'⟩:=RelO.some_of (v:=v) (o:=valueAt vs k) (by rw[l];exact rel.val k);exact wpAny_getItem_of (Gu ry) dd.mapOf hw (h w' _ (I.tok _) rw')
 .subst ey;cases(show u=Value.ref b from ry);obtain⟨z,hd,xs,rel,dd⟩:=Ii I.hok e;obtain⟨w',hw,rw'⟩:=RelO.some_of (v:=v) (o:=(atKey xs k).map (·.2)) (by rw[l];exact rel.val k);obtain⟨p,hp,hp2⟩:=Yq hw;refine wpAny_getItem_heap (tupleKind_room_in1 hu) (Gs I.hok eb) dd hp ?_;rw[hp2];exact h w' _ (I.tok _) rw'
def Xd{Q:Value->Shared->Prop}(hu:A.units+1<cLine)(I:Inv X pins σ H s)(g:DGet H a y o)(ry:RelV y u)(h:∀s',Inv X pins σ H s'->Q (.bool o.isSome) s'):
 wpAny (model X.prog X.w) A (compareOp .In u (.ref a)) Q E s:=by
 rcases g with⟨kvs,k,e,ey,l⟩|⟨kvs,k,b,e,ey,eb,l⟩
 .subst ey;obtain⟨z,hd,vs,rel,dd⟩:=Ij I.hok e;refine wpAny_in_of (Gu ry) hd dd.mapOf ?_;rw[<- (rel.val k).isSome_eq,<- l];exact h _ (I.tok _)
 .subst ey;cases(show u=Value.ref b from ry);obtain⟨z,hd,xs,rel,dd⟩:=Ii I.hok e;refine wpAny_in_heap (tupleKind_room_in1 hu) (Gs I.hok eb) hd dd ?_;have q:=(rel.val k).isSome_eq;rw[Option.isSome_map]at q;rw[<- q,<- l];exact h _ (I.tok _)
def Hm{h':Heap}{t':Nat}{ob:HO}(I:Inv X pins σ H s)(mu:Mut (H a))(hs:Heap.SameBut a s.heap h')(he:∃q,h'.get? a=some q)(new:ObjOk X.prog X.w (upd H a ob) h' a ob):
 Inv X pins σ (upd H a ob) { s with heap:=h',toks:=t' }:=
 I.write (x:=a) (e:=a) mu (.inl rfl) (λb q hb z=>(hs.2 b hb).trans z) he new
def Np{P:Program}{w:World}{H':Hp}{h':Heap}{kvs:List (Key×V)}{vs:List (Key×Value)}(z:kvs.length<=sizeLine)(hd:(a==sysModules)=false)(rel:KV kvs vs)(dd:h'.DictOf (Ax P w) a vs):
 ObjOk P w H' h' a (.dK kvs):=⟨z,hd,vs,rel,dd⟩
def Nr{H':Hp}{Q:Unit->Shared->Prop}(hu:A.units+1<cLine)(I:Inv X pins σ H s)(g:DPut H a y v H')(ry:RelV y u)(rv:RelV v r)(h:∀s',Inv X pins σ H' s'->Q () s'):
 wpAny (model X.prog X.w) A (setItem (.ref a) u r) Q E s:=by
 rcases g with⟨kvs,k,e,ey,l,eH⟩|⟨kvs,k,b,e,ey,eb,l,eH⟩
 .subst ey eH;obtain⟨z,hd,vs,rel,dd⟩:=QB I.hok e;have hz:vs.length<=sizeLine:=by rw[<- rel.length];exact z
  have hl:(Ba kvs k v).length<=sizeLine:=by have:=E6 kvs k v;omega
  refine wpAny_setItem_pairs (hsz:=hz) (Gu ry) dd λh' dd' hs=>h _ ?_;have he:∃q,h'.get? a=some q:=let ⟨q,_,_,hq,_⟩:=dd';⟨q,hq⟩
  exact Hm I (by rw[e];exact True.intro) hs he (Np hl hd (rel.put k rv) dd')
 .subst ey eH;cases(show u=Value.ref b from ry);obtain⟨z,hd,xs,rel,dd⟩:=X4 I.hok e;have hz:xs.length<=sizeLine:=by rw[<- Paired.length rel];exact z
  have hl:(Ba kvs k v).length<=sizeLine:=by have:=E6 kvs k v;omega
  refine wpAny_setItem_heap (hsz:=hz) (tupleKind_room_in1 hu) (Gs I.hok eb) dd λh' dd' hs=>h _ ?_;obtain⟨q,es,ep,hq,h2,h3,h4,_,h5⟩:=dd';refine Hm I (by rw[e];exact True.intro) hs ⟨q,hq⟩ ⟨hl,hd,_,(rel.put k eb rv).keeps λc ys ec=>?_,q,es,ep,hq,h2,h3,h4,h5⟩;rw[AH (Wt ec e (λz=>nomatch z))];exact ec
end
def Po(i:Expr):Prop:=∀ov iv,subscripted i false ov iv=operate [ov,iv] (getItem ov iv)
def Qh{prog:Program}{w:World}{A:Around}{E:Value->Shared->Prop}{s:Shared}{env:Env}{value slice:Expr}{pos:Pos}{T id:String}{Q:Value->Shared->Prop}
 (hl:typeLookup (.type T) "__getitem__"=pure (some (.builtin id))) (hs:Po slice)
 (h:wpAny (model prog w) A (eval value env) (λo s₁=>wpAny (model prog w) A (eval slice env) (λi s₂=>s₂.TypeIs o T/\wpAny (model prog w) A (getItem o i) Q E s₂) E s₁) E s):
 wpAny (model prog w) A (eval (.Subscript value slice pos) env) Q E s:=by
 refine Subscript_ (wpAny_mono h (λo s₁ h₁=>wpAny_mono h₁ (λi s₂ h₂=>?_) λ_ _ x=>x) λ_ _ x=>x);obtain⟨hT,h₂⟩:=h₂;unfold subscriptTail;refine wpAny_bind ?_;rw[getitemInPython_of_ne hT.not_modules];refine wpAny_bind (wpAny_specialOf hT hl ?_);have fin:wpAny (model prog w) A (subscripted slice false o i) (λr s₃=>wpAny (model prog w) A (letTemporaryGo value o r >>= λ_=>pure r) Q E s₃) E s₂:=by
  rw[hs o i];exact wpAny_operating (wpAny_mono h₂ (λr s₃ h₃=>wpAny_bind (wpAny_letTemporaryGo (wpAny_pure h₃))) λ_ _ x=>x)
 first
  |exact wpAny_pure (wpAny_bind fin)
  |exact wpAny_bind (wpAny_pure (wpAny_bind fin))
  |exact wpAny_bind fin
def K6{X:Cx}{pins:List (Addr×Obj)}{σ:St}{H:Hp}{s:Shared}{a:Addr}{y:V}{o:Option V}(I:Inv X pins σ H s)(g:DGet H a y o):s.TypeIs (.ref a) "dict":=by
 rcases g with⟨kvs,k,e,_,_⟩|⟨kvs,k,b,e,_,_,_⟩
 .obtain⟨_,_,vs,_,dd⟩:=Ij I.hok e;exact dd.typeIs
 .obtain⟨_,_,xs,_,dd⟩:=Ii I.hok e;exact dd.typeIs
def LN(td ty:TE):TE:=λσ H Q=>td σ H λx H1=>ty σ H1 λy H2=>∃a v,x=.ref a/\DGet H2 a y (some v)/\Q v H2
def OQ(ty td:TE):TE:=λσ H Q=>ty σ H λy H1=>td σ H1 λx H2=>∃a o,x=.ref a/\DGet H2 a y o/\Q (.bl o.isSome) H2
def LV(td ty tv:TE):TS:=λD σ H=>tv σ H λv H1=>td σ H1 λx H2=>ty σ H2 λy H3=>∃a H4,x=.ref a/\DPut H3 a y v H4/\D.nx σ H4
section
variable{X:Cx}{o i e value:Expr}{pos pos' tpos:Pos}{td ty tv:TE}
def Sc(hu:X.A.units+1<cLine)(ho:PE X o td)(hi:PE X i ty)(hs:Po i):PE X (.Subscript o i pos) (LN td ty):=by
 intro pins s σ H Q I h;refine Qh PySem.F.slot_dict_getitem.lookup hs (thn (ho pins s σ H _ I h) λu s1 ⟨x,H1,I1,rx,q1⟩=>thn (hi pins s1 σ H1 _ I1 q1) λiv s2 ⟨y,H2,I2,ry,a,v,ex,g,q2⟩=>?_);subst ex;obtain rfl:u=Value.ref a:=rx;exact⟨K6 I2 g,Nt hu I2 g ry λw' s3 I3 rw'=>⟨v,H2,I3,rw',q2⟩⟩
def VN(hu:X.A.units+1<cLine)(hi:PE X i ty)(ho:PE X o td):PC X .In i o (OQ ty td):=by
 intro pins s σ H Q I h;refine thn (hi pins s σ H _ I h) λiv s1 ⟨y,H1,I1,ry,q1⟩=>thn (ho pins s1 σ H1 _ I1 q1) λu s2 ⟨x,H2,I2,rx,a,ov,ex,g,q2⟩=>?_;subst ex;obtain rfl:u=Value.ref a:=rx;exact Xd hu I2 g ry λs3 I3=>⟨.bl ov.isSome,H2,I3,rfl,q2⟩
def SO(hu:X.A.units+1<cLine)(ho:PE X o td)(hi:PE X i ty)(hv:PE X value tv)(hs:swapsWith value (some (.Subscript o i pos')) pos.line X.env=pure false):
 PS X (.Assign [.Subscript o i pos'] value pos) (LV td ty tv):=by
 intro pins s σ H D I h;refine wpAny_Assign_Subscript (thn (hv pins s σ H _ I h) λr s1 ⟨v,H1,I1,rv,q1⟩=>thn (ho pins s1 σ H1 _ I1 q1) λu s2 ⟨x,H2,I2,rx,q2⟩=>thn (hi pins s2 σ H2 _ I2 q2) λiv s3 ⟨y,H3,I3,ry,a,H4,ex,g,q3⟩=>?_) hs;subst ex;obtain rfl:u=Value.ref a:=rx;exact Nr hu I3 g ry rv λs4 I4=>⟨σ,H4,I4,q3⟩
end
def Jh{P:Program}{w:World}{H:Hp}(h:Heap)(hb:sysModules<h.objs.size):ObjOk P w H (h.push { cls:=.type "dict",data:=.dict #[] }) h.objs.size (.dK []):=
 ⟨zero_le _,beq_eq_false_iff_ne.mpr (Ne.symm (ne_of_lt hb)),[],.nil,Heap.DictOf.new h⟩
def J1:TE:=λ_ H Q=>∀p,H p=none->Q (.ref p) (upd H p (.dK []))
section
variable{X:Cx}{pos:Pos}
def PK:PE X (.Dict [] [] pos) J1:=λpins s σ H Q I h=>
 wpAny_Dict_empty ⟨.ref s.heap.objs.size,_,I.laid (a:=s.heap.objs.size) (o:=.dK []) (t':=s.toks) (λ_ _ q=>Heap.get?_push_of_some _ q) (le_refl _) (Jh s.heap I.big),rfl,h _ (I.hok.fresh (le_refl _))⟩
end
def F4:List (TE×TE)->St->Hp->(List (V×V)->Hp->Prop)->Prop
 |[],_,H,Q=>Q [] H
 |(tk,tv)::r,σ,H,Q=>tk σ H λx H1=>tv σ H1 λy H2=>F4 r σ H2 λps H3=>Q ((x,y)::ps) H3
abbrev VV:List (V×V)->List (Value×Value)->Prop:=Paired λp q=>RelV p.1 q.1/\RelV p.2 q.2
def PPs(X:Cx)(pos:Pos)(keys:List (Option Expr))(values:List Expr)(trs:List (TE×TE)):Prop:=
 ∀(pins:List (Addr×Obj)) (s:Shared) (σ:St) (H:Hp) (Q:List (V×V)->Hp->Prop),Inv X pins σ H s->F4 trs σ H Q ->
   wpAny (model X.prog X.w) X.A (evalPairs (pairTrees keys values X.env pos)) (λvs s'=>∃ps H',Inv X pins σ H' s'/\VV ps vs/\Q ps H') X.xe s
def SQ{X:Cx}{pos:Pos}:PPs X pos [] [] []:=λpins s σ H Q I h=>pairTrees_nil_walk ⟨[],H,I,.nil,h⟩
def P7{X:Cx}{pos:Pos}{k v:Expr}{ks:List (Option Expr)}{vs:List Expr}{tk tv:TE}{trs:List (TE×TE)}(hk:PE X k tk)(hv:PE X v tv)(hr:PPs X pos ks vs trs):
 PPs X pos (some k::ks) (v::vs) ((tk,tv)::trs):=λpins s σ H Q I h=>
 pairTrees_cons_walk (thn (hk pins s σ H _ I h) λu s1 ⟨x,H1,I1,rx,q1⟩=>thn (hv pins s1 σ H1 _ I1 q1) λw2 s2 ⟨y,H2,I2,ry,q2⟩=>
  thn (hr pins s2 σ H2 _ I2 q2) λws s3 ⟨ps,H3,I3,rel,q3⟩=>⟨(x,y)::ps,H3,I3,.cons ⟨rx,ry⟩ rel,q3⟩)
def Cz(kvs more:List (Key×V)):List (Key×V):=more.foldl (λacc kv=>Ba acc kv.1 kv.2) kvs
def KV.merge:∀{more:List (Key×V)} {rs:List (Key×Value)} {kvs:List (Key×V)} {vs:List (Key×Value)},KV more rs->KV kvs vs->KV (Cz kvs more) (merged vs rs):=by
 intro more rs kvs vs r;unfold KV at r
 induction r generalizing kvs vs with
 |nil=>intro q;exact q
 |@cons p q ps qs h t ih=>
  intro r0;have e:KV (Ba kvs p.1 p.2) (stored vs q.1 q.2):=by
   have:=r0.put p.1 h.2;rw[<- h.1];exact this
  exact ih e
def Ex:∀(more kvs:List (Key×V)),(Cz kvs more).length<=kvs.length+more.length
 |[],kvs=>by show kvs.length<=kvs.length+0;omega
 |p::r,kvs=>by
  have h1:=Ex r (Ba kvs p.1 p.2);have h2:=E6 kvs p.1 p.2;show(Cz (Ba kvs p.1 p.2) r).length<=_;rw[length_cons];omega
def Gy{P:Program}{w:World}:∀{kvs:List (Key×V)} {ws:List (Value×Value)},VV (kvs.map λkv=>(kV kv.1,kv.2)) ws->∃rs,Carries (Ax P w) ws rs/\KV kvs rs
 |[],_,r=>by rw[map_nil]at r;cases r;exact⟨[],True.intro,.nil⟩
 |p::kvs,_,r=>by
  rw[map_cons]at r;cases r with
  |@cons a b as bs h t=>
   obtain⟨rs,c,q⟩:=Gy (P:=P) (w:=w) t;obtain⟨b1,b2⟩:=b;exact⟨(p.1,b2)::rs,⟨Gu h.1,rfl,c⟩,.cons ⟨rfl,h.2⟩ q⟩
def LM(trs:List (TE×TE)):TE:=λσ H Q=>∀p,H p=none->F4 trs σ (upd H p (.dK [])) λps H2=>H2 p=some (.dK [])/\∃kvs:List (Key×V),ps=kvs.map (λkv=>(kV kv.1,kv.2))/\kvs.length<=15/\Q (.ref p) (upd H2 p (.dK (Cz [] kvs)))
def Sb{X:Cx}{pos:Pos}{keys:List (Option Expr)}{values:List Expr}{trs:List (TE×TE)}(h:PPs X pos keys values trs)(hall:keys.all (·.isSome)=true)(hl:keys.length=values.length)(h0:keys≠[])
 (h15:keys.length<=15):PE X (.Dict keys values pos) (LM trs):=by
 intro pins s σ H Q I q;have hn:=I.hok.fresh (le_refl s.heap.objs.size);have I1:=I.laid (a:=s.heap.objs.size) (o:=.dK []) (h':=s.heap.push { cls:=.type "dict",data:=.dict #[] }) (t':=s.toks) (λ_ _ q=>Heap.get?_push_of_some _ q) (le_refl _) (Jh s.heap I.big);refine wpAny_Dict_walk (knd:=Ax X.prog X.w) hall hl h0 h15 (thn (h pins _ σ _ _ I1 (q _ hn)) λws s2 ⟨ps,H2,I2,rel,e,kvs,ep,lk,q2⟩=>?_);subst ep;obtain⟨rs,c,rk⟩:=Gy (P:=X.prog) (w:=X.w) rel;obtain⟨z,hd,vs0,r0,dd⟩:=QB I2.hok e;cases r0;refine⟨rs,c,dd,λh' dd' hs=>⟨.ref s.heap.objs.size,_,?_,rfl,q2⟩⟩;have hz:(Cz [] kvs).length<=sizeLine:=by
  have h1:=Ex kvs [];rw[length_nil]at h1;rw[sizeLine_eq];omega
 have he:∃q,h'.get? s.heap.objs.size=some q:=let ⟨q,_,_,hq,_⟩:=dd';⟨q,hq⟩
 exact Hm I2 (by rw[e];exact True.intro) hs he (Np hz hd (rk.merge .nil) dd')
def As(cells:List (Str×Addr)):List (Str×NameKind)->List (Str×Addr)->List (Str×Addr)
 |[],acc=>acc
 |(n,k)::r,acc=>if k==.free then As cells r ((n,(cells.lookup n).getD 0)::acc)else As cells r acc
def ET{env:Env}(f:Str×NameKind->List (Str×Addr)->Sem (ForInStep (List (Str×Addr))))
 (hf:∀name kind cs,f (name,kind) cs=if(kind==NameKind.free)=true then(do let a <- cellOf env name;pure (ForInStep.yield ((name,a)::cs)))else pure (ForInStep.yield cs)):
 ∀(names:List (Str×NameKind)) (acc:List (Str×Addr)),(∀y∈names,y.2=.free->∃c,env.cells.lookup y.1=some c)->forIn names acc f=pure (As env.cells names acc)
 |[],acc,_=>rfl
 |(n,k)::r,acc,hy=>by
   rw[List.forIn_cons,hf];have ih:=λa=>ET f hf r a λz hz=>hy z (mem_cons_of_mem _ hz);by_cases hk:(k==NameKind.free)=true
   .obtain⟨c,hc⟩:=hy (n,k) mem_cons_self (by simpa using hk);have hc:env.cells.lookup n=some c:=hc;have e1:cellOf env n=pure c:=by unfold cellOf;rw[hc]
    rw[if_pos hk,e1];show forIn r ((n,c)::acc) f=_;have e2:As env.cells ((n,k)::r) acc=As env.cells r ((n,c)::acc):=by
     rw[As,if_pos hk,hc];rfl
    rw[ih,e2]
   .rw[if_neg hk];show forIn r acc f=_;have e2:As env.cells ((n,k)::r) acc=As env.cells r acc:=by
     rw[As,if_neg hk]
    rw[ih,e2]
def Ey{scope:Scope}{env:Env}(h:∀y∈scope.names,y.2=.free->∃c,env.cells.lookup y.1=some c):closureFor scope env=pure (As env.cells scope.names []):=by
 unfold closureFor;dsimp only;rw[ET _ (λname kind cs=>rfl) scope.names [] h];rfl
def DJ{cells:List (Str×Addr)}:∀{names:List (Str×NameKind)} {acc:List (Str×Addr)},(∀y∈names,y.2=.free->∃c,cells.lookup y.1=some c)->(∀x c,acc.lookup x=some c->cells.lookup x=some c) ->
 ∀x c,(As cells names acc).lookup x=some c->cells.lookup x=some c
 |[],_,_,ha,x,c,e=>ha x c e
 |(n,k)::r,acc,hy,ha,x,c,e=>by
   unfold As at e;have hr:∀y∈r,y.2=.free->∃c,cells.lookup y.1=some c:=λz hz=>hy z (mem_cons_of_mem _ hz);by_cases hk:(k==NameKind.free)=true
   .rw[if_pos hk]at e;refine DJ hr (λz d q=>?_) x c e;obtain⟨c0,hc0⟩:=hy (n,k) mem_cons_self (by simpa using hk);have hc0:cells.lookup n=some c0:=hc0;rw[lookup_cons]at q;by_cases hz:(z==n)=true
    .rw[hz,hc0]at q;have:z=n:=by simpa using hz
     subst this;simpa [hc0]using q
    .have hz':(z==n)=false:=by simpa using hz
     rw[hz']at q;exact ha z d q
   .rw[if_neg hk]at e;exact DJ hr ha x c e
def DK{cells:List (Str×Addr)}:∀{names:List (Str×NameKind)} {acc:List (Str×Addr)} {x:Str},((acc.lookup x).isSome=true∨(x,NameKind.free)∈names)->((As cells names acc).lookup x).isSome=true
 |[],_,_,h=>h.elim id λz=>by cases z
 |(n,k)::r,acc,x,h=>by
   unfold As;by_cases hk:(k==NameKind.free)=true
   .rw[if_pos hk];refine DK ?_;by_cases hx:(x==n)=true
    .exact .inl (by rw[lookup_cons,hx];rfl)
    .have hx':(x==n)=false:=by simpa using hx
     rcases h with h|h
     .exact .inl (by rw[lookup_cons,hx'];exact h)
     .rcases mem_cons.mp h with h|h
      .cases h;simp at hx
      .exact .inr h
   .rw[if_neg hk];refine DK ?_;rcases h with h|h
    .exact .inl h
    .rcases mem_cons.mp h with h|h
     .cases h;simp at hk
     .exact .inr h
def Bk:Nat->List (Str×NameKind)->List (Str×Addr)
 |_,[]=>[]
 |n,(x,k)::r=>if k==.cell then Bk (n+1) r++[(x,n)]else Bk n r
def BL:∀(names:List (Str×NameKind)) (n:Nat) (acc:List (Str×Addr)),cellsFrom n names acc=Bk n names++acc
 |[],_,_=>rfl
 |(x,k)::r,n,acc=>by
   unfold cellsFrom Bk;by_cases hk:(k==NameKind.cell)=true
   .rw[if_pos hk,if_pos hk,BL r (n+1),append_assoc];rfl
   .rw[if_neg hk,if_neg hk,BL r n]
def G6:∀(names:List (Str×NameKind)) (n:Nat) (x:Str) (c:Addr),(Bk n names).lookup x=some c->(x,NameKind.cell)∈names
 |[],_,_,_,e=>by cases e
 |(y,k)::r,n,x,c,e=>by
   unfold Bk at e;by_cases hk:(k==NameKind.cell)=true
   .rw[if_pos hk]at e;have hk':k=.cell:=by simpa using hk
    rw[lookup_append]at e;cases q:(Bk (n+1) r).lookup x with
    |some d=>exact mem_cons_of_mem _ (G6 r _ x d q)
    |none=>
     rw[q]at e;simp only[none_or,lookup_cons]at e;by_cases hx:(x==y)=true
     .have:x=y:=by simpa using hx
      subst this;subst hk';exact mem_cons_self
     .have hx':(x==y)=false:=by simpa using hx
      rw[hx']at e;cases e
   .rw[if_neg hk]at e;exact mem_cons_of_mem _ (G6 r n x c e)
def G7:∀(names:List (Str×NameKind)) (n:Nat) (x:Str),(x,NameKind.cell)∈names->∃c,(Bk n names).lookup x=some c
 |[],_,_,h=>by cases h
 |(y,k)::r,n,x,h=>by
   unfold Bk;by_cases hk:(k==NameKind.cell)=true
   .rw[if_pos hk,lookup_append];rcases mem_cons.mp h with h|h
    .obtain⟨rfl,rfl⟩:=Prod.mk.inj h;cases q:(Bk (n+1) r).lookup x with
     |some d=>exact⟨d,rfl⟩
     |none=>exact⟨n,by simp[lookup_cons]⟩
    .obtain⟨c,hc⟩:=G7 r (n+1) x h;exact⟨c,by rw[hc];rfl⟩
   .rw[if_neg hk];rcases mem_cons.mp h with h|h
    .cases h;simp at hk
    .exact G7 r n x h
def Pl(scope:Scope)(C:Addr)(env:Env):Env:=
 { scope:=relabel scope env,locals:=C,globals:=env.globals,cells:=cellsFrom (C+1) scope.names (As env.cells scope.names []),qual:=env.qual,func:=none,code:=env.code,frame:=env.frame,builtins:=env.builtins }
def Ki{M:Model}{A:Around}{E:Value->Shared->Prop}{s:Shared}{scope:Scope}{cl:List (Str×Addr)}{env:Env}{Q:Env->Shared->Prop}
 (hQ:∀h',(∀b o,s.heap.get? b=some o->h'.get? b=some o)->h'.Ns s.heap.objs.size (λ_=>none)->(∀x c,(Bk (s.heap.objs.size+1) scope.names).lookup x=some c->h'.IsCell c none/\s.heap.objs.size<c) ->
  ((Bk (s.heap.objs.size+1) scope.names).Pairwise λx y=>x.2≠y.2) ->
  Q { scope:=scope,locals:=s.heap.objs.size,globals:=env.globals,cells:=cellsFrom (s.heap.objs.size+1) scope.names cl,qual:=env.qual,func:=none,code:=env.code,frame:=env.frame,builtins:=env.builtins } { s with heap:=h' }):
 wpAny M A (newFunctionEnv scope env.globals cl [] env.qual none .none (some env)) Q E s:=by
 simp only[newFunctionEnv,Option.isSome_some,if_true];refine wpAny_bind (wpAny_alloc ?_);refine wpAny_bind (wpAny_layCells _ (λname kind cells=>by cases hkc:kind==NameKind.cell<;>simp[hkc]) _ _ _ _ ?_);have ok:=cellsFrom_ok scope.names (s.heap.push { cls:=.type "dict",data:=.dict #[] }) (s.heap.objs.size+1) [] ⟨λ_ _ hm=>(nomatch hm),List.Pairwise.nil⟩ (by rw[Heap.size_push];exact le_refl _);rw[Heap.size_push,BL,append_nil]at ok;rw[show({ s with heap:=s.heap.push { cls:=.type "dict",data:=.dict #[] } }:Shared).heap.objs.size=s.heap.objs.size+1 from Heap.size_push ..];refine wpAny_bind (wpAny_pure (wpAny_pure ?_));exact hQ _ (λb o e=>pushCells_keeps _ _ b o (Heap.get?_push_of_some _ e)) ((Heap.Ns.new s.heap (.type "dict")).keeps (pushCells_keeps _ _)) (λx c hc=>⟨(ok.empty x c (mem_of_lookup hc)).1,(ok.empty x c (mem_of_lookup hc)).2⟩) ok.apart
def IC:∀{names:List (Str×NameKind)} {x:Str} {k k':NameKind},(names.map (·.1)).Nodup->(x,k)∈names->(x,k')∈names->k=k'
 |[],_,_,_,_,h,_=>by cases h
 |(y,q)::r,x,k,k',nd,h,h'=>by
   have nd:(y::r.map (·.1)).Nodup:=nd;obtain⟨n1,n2⟩:=nodup_cons.mp nd;have out:∀{z:NameKind},(y,z)∈r->False:=λm=>n1 (mem_map.mpr ⟨_,m,rfl⟩);rcases mem_cons.mp h with e|e<;>rcases mem_cons.mp h' with e'|e'
   .cases e;cases e';rfl
   .cases e;exact(out e').elim
   .cases e';exact(out e).elim
   .exact IC n2 e e'
def Ew{env:Env}{x:Str}:∀{names:List (Str×NameKind)},names.lookup x=some .free ->
 (names.map λ(n,k)=>if(k==NameKind.free&&env.scope.kind==.function&&env.kindOf n==some .cell)then(n,NameKind.cell)else(n,k)).lookup x=some .cell ∨
 (names.map λ(n,k)=>if(k==NameKind.free&&env.scope.kind==.function&&env.kindOf n==some .cell)then(n,NameKind.cell)else(n,k)).lookup x=some .free
 |[],h=>by simp at h
 |(n,k)::r,h=>by
   have ih:=@Ew env x r;show List.lookup x ((if(k==NameKind.free&&env.scope.kind==.function&&env.kindOf n==some .cell)=true then(n,NameKind.cell)else(n,k))::_)=_∨List.lookup x ((if(k==NameKind.free&&env.scope.kind==.function&&env.kindOf n==some .cell)=true then(n,NameKind.cell)else(n,k))::_)=_;cases hx:x==n with
   |true=>
    simp only[lookup_cons,hx]at h;cases h;by_cases hc:(NameKind.free==NameKind.free&&env.scope.kind==.function&&env.kindOf n==some .cell)=true
    .rw[if_pos hc];exact .inl (by simp only[lookup_cons,hx])
    .rw[if_neg hc];exact .inr (by simp only[lookup_cons,hx])
   |false=>
    simp only[lookup_cons,hx]at h;by_cases hc:(k==NameKind.free&&env.scope.kind==.function&&env.kindOf n==some .cell)=true
    .rw[if_pos hc];simp only[lookup_cons,hx];exact ih h
    .rw[if_neg hc];simp only[lookup_cons,hx];exact ih h
def FA{env:Env}{x:Str}:∀{names:List (Str×NameKind)},
 ((names.map λ(n,k)=>if(k==NameKind.free&&env.scope.kind==.function&&env.kindOf n==some .cell)then(n,NameKind.cell)else(n,k)).lookup x=some .cell ∨
 (names.map λ(n,k)=>if(k==NameKind.free&&env.scope.kind==.function&&env.kindOf n==some .cell)then(n,NameKind.cell)else(n,k)).lookup x=some .free) ->
 names.lookup x=some .cell∨names.lookup x=some .free
 |[],h=>by simp at h
 |(n,k)::r,h=>by
   have ih:=@FA env x r;have h:List.lookup x ((if(k==NameKind.free&&env.scope.kind==.function&&env.kindOf n==some .cell)=true then(n,NameKind.cell)else(n,k))::_)=_∨List.lookup x ((if(k==NameKind.free&&env.scope.kind==.function&&env.kindOf n==some .cell)=true then(n,NameKind.cell)else(n,k))::_)=_:=h;cases hx:x==n with
   |true=>
    by_cases hc:(k==NameKind.free&&env.scope.kind==.function&&env.kindOf n==some .cell)=true
    .have hk:k=.free:=by
      have:=(Bool.and_eq_true _ _ ▸ (Bool.and_eq_true _ _ ▸ hc).1:(k==NameKind.free)=true/\_).1;simpa using this
     exact .inr (by simp only[lookup_cons,hx,hk])
    .rw[if_neg hc]at h;simp only[lookup_cons,hx]at h ⊢;exact h
   |false=>
    simp only[lookup_cons,hx];refine ih ?_;by_cases hc:(k==NameKind.free&&env.scope.kind==.function&&env.kindOf n==some .cell)=true
    .rw[if_pos hc]at h;simp only[lookup_cons,hx]at h;exact h
    .rw[if_neg hc]at h;simp only[lookup_cons,hx]at h;exact h
def cCx(X:Cx)(N':List Str)(scope:Scope)(s:Shared)(H:Hp)(ex:List Addr):Cx:=
 { X with N:=N',s₀:=s,H₀:=H,env:=Pl scope s.heap.objs.size X.env,outer:=X.stack,ex:=ex,fn:=λx=>decide ((x,NameKind.cell)∈scope.names),pn:=[],xe:=λ_ _=>False }
structure CSc(X:Cx)(scope:Scope)(fr:List Str)(ix:List Nat):Prop where
 kind:scope.kind=.function
 nd:(scope.names.map (·.1)).Nodup
 free:(scope.names.all λy=>y.2 != .free||X.env.kindOf y.1==some .cell||X.env.kindOf y.1==some .free)=true
 frs:(fr.all λx=>scope.names.lookup x==some .free)=true
 ixs:fr.map some=ix.map λi=>X.N[i]?
 loc:(scope.names.all λy=>y.2 != .local||scope.names.lookup y.1==some .local)=true
def FT(n:Nat)(ix:List Nat)(σ:St):St:=List.replicate n none++ix.map λi=>(σ[i]?).join
section
variable{X:Cx}{scope:Scope}{fr loc:List Str}{ix:List Nat}{pins:List (Addr×Obj)}{σ:St}{H:Hp}{s:Shared}
def CSc.outer(S:CSc X scope fr ix){y:Str×NameKind}(hy:y∈scope.names)(e:y.2=.free):X.env.kindOf y.1=some .cell∨X.env.kindOf y.1=some .free:=by
 have h:=all_eq_true.mp S.free y hy;rw[e]at h;simpa using h
def CSc.clos(S:CSc X scope fr ix)(ok:X.Ok):∀y∈scope.names,y.2=.free->∃c,X.env.cells.lookup y.1=some c:=λy hy e=>ok.has y.1 (S.outer hy e)
def C9(S:CSc X scope fr ix)(ok:X.Ok){n:Nat}{x:Str}{c:Addr}(e:(cellsFrom n scope.names (As X.env.cells scope.names [])).lookup x=some c):
 (Bk n scope.names).lookup x=some c∨X.env.cells.lookup x=some c:=by
 rw[BL,lookup_append]at e;cases q:(Bk n scope.names).lookup x with
 |some d=>rw[q]at e;exact .inl e
 |none=>
  rw[q]at e;exact .inr (DJ (S.clos ok) (λ_ _ z=>by simp at z) x c e)
def JW(S:CSc X scope fr ix)(I:Inv X pins σ H s){ex:List Addr}(hex:∀b∈ex,C6 X pins H b){h':Heap}(hk:∀b o,s.heap.get? b=some o->h'.get? b=some o)(hn:h'.Ns s.heap.objs.size λ_=>none)
 (ho:∀x c,(Bk (s.heap.objs.size+1) scope.names).lookup x=some c->h'.IsCell c none/\s.heap.objs.size<c) (ha:(Bk (s.heap.objs.size+1) scope.names).Pairwise λx y=>x.2≠y.2) (hlt:∀b∈ex,b<s.heap.objs.size):
 Inv (cCx X (loc++fr) scope s H ex) [] (FT loc.length ix σ) H { s with heap:=h' }:=by
 have old:∀x c,X.env.cells.lookup x=some c->c<s.heap.objs.size:=λx c e=>let ⟨v,z⟩:=I.cell x c e;z.lt
 have lenix:fr.length=ix.length:=by simpa using congrArg List.length S.ixs
 refine⟨⟨I.ok.mod,?_,I.ok.glob,I.ok.blt,le_refl _,?_,?_,?_,I.ok.hd,I.ok.frames,.inl rfl,?_,I.bs,le_trans I.ok.bsz I.sz,?_,?_,I.stack,I.stkFree⟩,rfl,I.bare,Un.kept hk,⟨_,hn,?_⟩,?_,I.hok.fresh (le_refl _),?_,?_,I.hok.kept hk,?_⟩
 .exact S.kind
 .intro x y c e1 e2;rcases C9 S I.ok e1 with a|a<;>rcases C9 S I.ok e2 with b|b
  .exact name_of_addr ha (PySem.mem_of_lookup a) (PySem.mem_of_lookup b)
  .exact absurd (lt_trans (ho x c a).2 (old y c b)) (lt_irrefl _)
  .exact absurd (lt_trans (ho y c b).2 (old x c a)) (lt_irrefl _)
  .exact I.ok.inj x y c a b
 .intro x hx;rcases FA hx with e|e
  .exact isSome_iff_exists.mp (PySem.W.cellsFrom_some _ _ _ (.inl e))
  .exact isSome_iff_exists.mp (PySem.W.cellsFrom_some _ _ _ (.inr (DK (.inr (PySem.mem_of_lookup e)))))
 .intro x c hf e;have hf:(x,NameKind.cell)∈scope.names:=of_decide_eq_true hf;obtain⟨d,hd⟩:=G7 scope.names (s.heap.objs.size+1) x hf;have e':(cellsFrom (s.heap.objs.size+1) scope.names (As X.env.cells scope.names [])).lookup x=some c:=e;rw[BL,lookup_append,hd]at e';cases e';exact le_of_lt (ho x _ hd).2
 .intro b hb;refine⟨ne_of_lt (hlt b hb),λx c e z=>?_⟩;rcases C9 S I.ok e with a|a
  .exact absurd (lt_trans (ho x c a).2 (by rw[z];exact hlt b hb)) (lt_irrefl _)
  .exact(hex b hb).2.2.2.2.1 x c a z
 .intro b o e hb;rcases(hex b hb).2.2.2.1 with z|z
  .exact I.ok.noex b o e z
  .exact absurd (lt_of_lt_of_le (Heap.lt_size (I.ok.bs b o e).1) z) (lt_irrefl _)
 .intro b hb hf;rcases mem_cons.mp (I.stkSub b hf)with z|z
  .exact(hex b hb).2.1 z
  .exact(hex b hb).2.2.1 z
 .intro i x v e1 e2 e3;have e1:(loc++fr)[i]?=some x:=e1;unfold FT at e2;by_cases hi:i<loc.length
  .rw[List.getElem?_append_left (by simpa using hi),List.getElem?_replicate]at e2;split at e2<;>cases e2
  .have hi':loc.length<=i:=Nat.not_lt.mp hi;rw[List.getElem?_append_right (by simpa using hi')]at e2;rw[List.getElem?_append_right hi']at e1;rw[List.length_replicate,List.getElem?_map]at e2;generalize hj:i-loc.length=j at e1 e2;have e4:(fr.map some)[j]?=some (some x):=by rw[List.getElem?_map,e1];rfl
   rw[S.ixs,List.getElem?_map]at e4;cases q:ix[j]? with
   |none=>rw[q]at e2;cases e2
   |some k=>
    rw[q]at e2 e4;have e2:(σ[k]?).join=some v:=Option.some.inj e2;have e4:X.N[k]?=some x:=Option.some.inj e4;have e5:σ[k]?=some (some v):=by
     cases w:σ[k]? with
     |none=>rw[w]at e2;cases e2
     |some z=>rw[w]at e2;simpa using e2
    have hfx:=all_eq_true.mp S.frs x (mem_of_getElem? e1);have hfx:scope.names.lookup x=some .free:=by simpa using hfx
    have hmem:=PySem.mem_of_lookup hfx;have hout:=S.outer hmem rfl;obtain⟨m,hm,hl⟩:=I.loc;obtain⟨u,r,l⟩:=hl k x v e4 e5 (.inr hout);refine⟨u,r,.inr ⟨Ew hfx,?_⟩⟩;rcases l with⟨kk,_⟩|⟨kk,c,ec,z⟩
    .rcases hout with w|w
     .rw[kk]at w;cases w
     .rw[kk]at w;cases w
    .have own0:(Bk (s.heap.objs.size+1) scope.names).lookup x=none:=by
      cases w:(Bk (s.heap.objs.size+1) scope.names).lookup x with
      |none=>rfl
      |some d=>exact absurd (IC S.nd (G6 _ _ _ _ w) hmem) (by decide)
     have hc:(As X.env.cells scope.names []).lookup x=some c:=by
      obtain⟨d,hd⟩:=isSome_iff_exists.mp (DK (cells:=X.env.cells) (acc:=[]) (.inr hmem));have:=DJ (S.clos I.ok) (λ_ _ z=>by simp at z) x d hd;rw[ec]at this;cases this;exact hd
     refine⟨c,?_,z.keeps hk⟩;show(cellsFrom (s.heap.objs.size+1) scope.names (As X.env.cells scope.names [])).lookup x=some c;rw[BL,lookup_append,own0,hc];rfl
 .intro x c e;rcases C9 S I.ok e with a|a
  .exact⟨_,(ho x c a).1⟩
  .obtain⟨v,z⟩:=I.cell x c a;exact⟨v,z.keeps hk⟩
 .intro x c e;rcases C9 S I.ok e with a|a
  .exact I.hok.fresh (le_of_lt (ho x c a).2)
  .exact I.freeC x c a
 .intro p hp;cases hp
 .unfold FT;show _=(loc++fr).length;simp[lenix]
end
section
variable{prog:Program}{w:World}{A:Around}{R:Result->Shared->Prop}{s:Shared}
def FR{elt target iter:Expr}{ifs:List Expr}{scope:Scope}{pos:Pos}{it acc:Value}{env:Env}(I:Nat->Shared->Prop)
 (turn:∀n s,I n s->wpAny (model prog w) A (pyNext it) (λr s₁=>match r with
  |none=>R (.ok .next) s₁
  | some v=>wpAny (model prog w) A (letOwnedTupleGo target it v) (λ_ s₁=>wpAny (model prog w) A (assign target env v) (λ_ s₂=>
   wpAny (model prog w) A (forIn ifs true λc r=>if r=true then do let ok <- isTrue c env (eval c env);pure (ForInStep.yield ok)else pure (ForInStep.yield r)) (λok s₃=>
    if ok=true then wpAny (model prog w) A (eval elt env) (λx s₄=>
     wpAny (model prog w) A (call (.builtin "list.append") [acc,x]) (λ_ s₅=>∃m,m<n/\I m s₅) (λ_ _=>False) s₄) (λ_ _=>False) s₃
    else ∃m,m<n/\I m s₃) (λ_ _=>False) s₂) (λ_ _=>False) s₁) (λ_ _=>False) s₁) (λ_ _=>False) s)
 (n:Nat) (h:I n s):
 codeAny (model prog w) A (.compLoop (.ListComp elt [⟨target,iter,ifs,0⟩] scope pos) 0 it acc env) R s:=by
 refine codeAny_loop rfl I (λn s hI=>?_) n h;show wpAny _ A ((compTurn (.ListComp elt [⟨target,iter,ifs,0⟩] scope pos) 0 it acc env).onRaise (λx=>do noteFrame x env;theTreesLotGoes x)) _ _ s;refine wpAny_noted ?_;rw[compTurn_list];refine wpAny_bind (wpAny_standAt (wpAny_bind (wpAny_mono (turn n s hI) (λr s₁ h₁=>?_) λ_ _ h'=>h'.elim)));cases r with
 |none=>exact wpAny_pure h₁
 |some v=>
  refine wpAny_bind (wpAny_mono h₁ (λ_ s₁ h₁=>?_) λ_ _ h'=>h'.elim);refine wpAny_bind (wpAny_mono h₁ (λ_ s₂ h₂=>wpAny_bind (wpAny_mono h₂ (λok s₃ h₃=>?_) λ_ _ h'=>h'.elim)) λ_ _ h'=>h'.elim);cases ok with
  |false=>exact wpAny_pure ⟨rfl,h₃⟩
  |true=>
   exact wpAny_bind (wpAny_bind (wpAny_mono h₃ (λx s₄ h₄=>wpAny_bind (wpAny_mono h₄ (λ_ s₅ h₅=>wpAny_pure (wpAny_pure ⟨rfl,h₅⟩)) λ_ _ h'=>h'.elim)) λ_ _ h'=>h'.elim))
end
def PF(X:Cx)(ifs:List Expr)(t:TT):Prop:=
 ∀(pins:List (Addr×Obj)) (s:Shared) (σ:St) (H:Hp) (Q:Bool->Hp->Prop),Inv X pins σ H s->t σ H Q ->
   wpAny (model X.prog X.w) X.A (forIn ifs true λc r=>if r=true then do let ok <- isTrue c X.env (eval c X.env);pure (ForInStep.yield ok)else pure (ForInStep.yield r)) (TP X pins σ Q) X.xe s
def OF:TT:=λ_ H Q=>Q true H
def V8{X:Cx}:PF X [] OF:=λpins s σ H Q I h=>wpAny_tests_nil ⟨H,I,h⟩
def V7{X:Cx}{c:Expr}{t:TT}(h:PT X c t):PF X [c] t:=λpins s σ H Q I q=>wpAny_tests_one (h pins s σ H Q I q)
def QD(J:It)(D:Addr)(σ0:St)(H0:Hp)(g:TG)(tf:TT)(te:TE)(Q:VK):Prop:=∃W:Nat->Nat->St->List V->Hp->Prop,
 (∃m,W 0 m σ0 [] (upd H0 D (.lst [])))/\∀i m σ ys H,W i m σ ys H->H D=some (.lst ys)/\
  ((J.stop i H/\Q (.ref D) H)∨(J.go i H/\ys.length<sizeLine/\∃N:St->List V->Hp->Prop,(∀σ' ys' H',N σ' ys' H'->∃m',m'<m/\W (i+1) m' σ' ys' H')/\
    ∀x H',J.yld i H x H'->g x σ H' λσ2 H2=>tf σ2 H2 λb H3=>
     if b=true then te σ2 H3 λv H4=>H4 D=some (.lst ys)/\N σ2 (ys++[v]) (upd H4 D (.lst (ys++[v])))
     else N σ2 ys H3))
def Ed(n:Nat)(ix:List Nat)(wi:TI)(g:TG)(tf:TT)(te:TE):TE:=λσ H Q=>wi σ H λJ H1=>∀D,H1 D=none->QD J D (FT n ix σ) H1 g tf te Q
section
variable{X:Cx}
def O3{pins:List (Addr×Obj)}{σ:St}{H:Hp}{s:Shared}{D:Addr}{ys:List V}{x:V}{u:Value}{Q:Value->Shared->Prop}{E:Value->Shared->Prop}(I:Inv X pins σ H s)(hD:H D=some (.lst ys))(r:RelV x u)(hz:ys.length<sizeLine)
 (h:∀v s',Inv X pins σ (upd H D (.lst (ys++[x]))) s'->Q v s'):wpAny (model X.prog X.w) X.A (call (.builtin "list.append") [.ref D,u]) Q E s:=by
 have I':=I.wish λ_ _=>False;have q:=ID (X:=X.wish λ_ _=>False) pins s σ H (.ref D) [x] (.ref D) [u] (λv H'=>H'=upd H D (.lst (ys++[x]))) I' rfl (.cons r .nil) ⟨D,ys,x,rfl,rfl,hD,hz,rfl⟩;refine wpAny_mono q (λv s' ⟨v',H',I2,_,e⟩=>?_) λ_ _ z=>False.elim z;subst e;exact h v s' I2.unwish
def Sd{elt tg iter:Expr}{ifs:List Expr}{scope:Scope}{pos:Pos}{loc fr:List Str}{ix:List Nat}{wi:TI}{g:TG}{tf:TT}{te:TE}(hc:X.calm=true)(S:CSc X scope fr ix)(hi:PI X tg iter wi)
 (hg:∀s H ex,PG (cCx X (loc++fr) scope s H ex) tg g) (hf:∀s H ex,PF (cCx X (loc++fr) scope s H ex) ifs tf) (he:∀s H ex,PE (cCx X (loc++fr) scope s H ex) elt te)
 (hs:∀x,foldedSetIterable iter X.env x=pure x:=by intro _;rfl):PE X (.ListComp elt [⟨tg,iter,ifs,0⟩] scope pos) (Ed loc.length ix wi g tf te):=by
 intro pins s σ H Q I h;rw[eval_ListComp];have hnames:∀y∈scope.names,y.2=.local->scope.names.lookup y.1=some .local:=λy hy e=>by
  have:=all_eq_true.mp S.loc y hy;rw[e]at this;simpa using this
 refine wpAny_comprehension_free (use:=none) rfl hs (Ey (S.clos I.ok)) S.kind hnames (thn (hi pins s σ H _ I h) λv s1 h1=>thn h1 λitv s2 h2=>?_);obtain⟨it,fp,tn,J,H2,rfl,I2,T,st2,f2,hW⟩:=h2;refine wpAny_newObj_type ?_;have fresh2:H2 s2.heap.objs.size=none:=I2.hok.fresh (le_refl _);have I3:=I2.lnew (its:=[]) (ys:=[]) (t':=s2.toks) .nil (zero_le _);obtain⟨W,⟨m0,w0⟩,turn⟩:=hW s2.heap.objs.size fresh2;have lt2:∀b∈fp,b<s2.heap.objs.size:=λb hb=>let ⟨o,e,_⟩:=T.obj 0 _ st2 b hb;Heap.lt_size e
 have f3:∀b∈fp,C6 X pins (upd H2 s2.heap.objs.size (.lst [])) b:=λb hb=>⟨by rw[AH (ne_of_lt (lt2 b hb))];exact(f2 b hb).1,(f2 b hb).2⟩
 have lt3:∀b∈fp,b<(s2.heap.push { cls:=.type "list",data:=.seq ([]:List Value).toArray }).objs.size:=λb hb=>by rw[Heap.size_push];exact lt_succ_of_lt (lt2 b hb)
 generalize hs3:({ s2 with heap:=s2.heap.push { cls:=.type "list",data:=.seq ([]:List Value).toArray } }:Shared)=s3 at *;have lt3:∀b∈fp,b<s3.heap.objs.size:=by rw[<- hs3];exact lt3
 have st3:tn 0 s3.heap:=T.keep _ _ _ st2 λb hb o e=>by rw[<- hs3];exact Heap.get?_push_of_some _ e
 refine Ki λh' hk hn ho ha=>?_;have I4:=JW (loc:=loc) S I3 f3 hk hn ho ha lt3;have fpX:∀{H':Hp},(∀b∈fp,H' b=none)->∀b∈fp,C6 (cCx X (loc++fr) scope s3 (upd H2 s2.heap.objs.size (.lst [])) fp) [] H' b:=λhn b hb=>
  ⟨hn b hb,(I4.ok.exf b hb).1,I4.ok.exfs b hb,.inl hb,(I4.ok.exf b hb).2,λp hp=>by cases hp⟩
 have loop:codeAny (model X.prog X.w) X.A (.compLoop (.ListComp elt [⟨tg,iter,ifs,0⟩] scope pos) 0 (.ref it) (.ref s2.heap.objs.size) (Pl scope s3.heap.objs.size X.env))
  (compPost (model X.prog X.w) X.A X.xe none (EP X pins σ Q) (.ref s2.heap.objs.size) s3.heap.objs.size) { s3 with heap:=h' }:=by
  refine FR (λn s'=>∃i σ' ys H',Inv (cCx X (loc++fr) scope s3 (upd H2 s2.heap.objs.size (.lst [])) fp) [] σ' H' s'/\tn i s'.heap/\(∀b∈fp,H' b=none)/\W i n σ' ys H') ?_ m0
   ⟨0,_,[],_,I4,T.keep _ _ _ st3 λb hb o e=>hk b o e,λb hb=>(f3 b hb).1,w0⟩
  rintro n s5 ⟨i,σ5,ys,H5,I5,st5,fr5,w5⟩;obtain⟨hD,w5⟩:=turn i n σ5 ys H5 w5;rcases w5 with⟨stop,qn⟩|⟨go,hz,N,hN,step⟩
  .refine thn (T.done (cCx X (loc++fr) scope s3 (upd H2 s2.heap.objs.size (.lst [])) fp) rfl rfl rfl hc i [] s5 σ5 H5 _ I5 (fpX fr5) st5 stop) λr s6 ⟨hr,I6⟩=>?_;subst hr;obtain⟨m,hm,_⟩:=I6.loc;refine⟨m,hm,λh'' hs=>?_⟩;have neC:∀b o,s3.heap.get? b=some o->b≠s3.heap.objs.size:=λb o e=>ne_of_lt (Heap.lt_size e);have un:=I6.base;refine⟨.ref s2.heap.objs.size,H5,I3.call' (s':={ s6 with heap:=h'' }) (ch:=fp) I6.os ⟨λb o e n hb hx=>?_,λb o e n hb hx=>?_,un.free,λb o e hx=>?_,un.tups,un.frzs,un.tbls⟩ ?_ I6.bare ?_,rfl,qn⟩
   .exact(hs.2 b (neC b o e)).trans (un.keep b o e n hb hx)
   .obtain⟨sl,q⟩:=un.slot b o e n hb hx;exact⟨sl,(hs.2 b (neC b o e)).trans q⟩
   .obtain⟨o',q⟩:=un.there b o e hx;exact⟨o',(hs.2 b (neC b o e)).trans q⟩
   .intro b ob e;have hfree:H5 s3.heap.objs.size=none:=I6.free;refine(I6.hok b ob e).stay (λc w' hc q=>(hs.2 c ?_).trans q) (λ_ q=>q) λ_ _ q=>q;intro z;rcases hc with hc|hc
    .rw[<- hc,z,hfree]at e;cases e
    .rw[z,hfree]at hc;cases hc
   .intro b hb;obtain⟨_,a2,_,a4,a5,a6⟩:=f3 b hb;exact⟨a4,a2,a5,a6⟩
  .refine thn (T.item (cCx X (loc++fr) scope s3 (upd H2 s2.heap.objs.size (.lst [])) fp) rfl rfl rfl hc i [] s5 σ5 H5 _ I5 (fpX fr5) st5 go) λr s6 ⟨u,hr,h6⟩=>?_;subst hr;refine thn h6 λ_ s7 ⟨x,H7,I7,r7,y7,st7,fr7⟩=>?_;have I7':=I7.pinned (fpX fr7) (T.obj _ _ st7);have keepI:∀{σ8:St} {H8:Hp} {s8:Shared},Inv (cCx X (loc++fr) scope s3 (upd H2 s2.heap.objs.size (.lst [])) fp) ([]++EG fp s7.heap) σ8 H8 s8->tn (i+1) s8.heap/\∀b∈fp,H8 b=none:=λ{σ8 H8 s8} I8=>by
    refine⟨T.keep _ _ _ st7 λb hb o e=>(I8.pin (b,o) (mem_append_right _ (mem_append_right _ (C3 hb e)))).1,λb hb=>?_⟩;obtain⟨o,e,d⟩:=T.obj _ _ st7 b hb;exact(I8.pin (b,o) (mem_append_right _ (mem_append_right _ (C3 hb e)))).2.1
   refine thn (hg s3 (upd H2 s2.heap.objs.size (.lst [])) fp _ s7 σ5 H7 x u _ I7' r7 (step x H7 y7)) λ_ s8 ⟨σ8,H8,I8,q8⟩=>?_;refine thn (hf s3 (upd H2 s2.heap.objs.size (.lst [])) fp _ s8 σ8 H8 _ I8 q8) λb s9 ⟨H9,I9,q9⟩=>?_;cases b with
   |false=>
    rw[if_neg Bool.false_ne_true]at q9 ⊢;obtain⟨m',hm,w9⟩:=hN _ _ _ q9;exact⟨m',hm,i+1,σ8,ys,H9,I9.unpinned,(keepI I9).1,(keepI I9).2,w9⟩
   |true=>
    rw[if_pos rfl]at q9 ⊢;refine thn (he s3 (upd H2 s2.heap.objs.size (.lst [])) fp _ s9 σ8 H9 _ I9 q9) λe10 s10 ⟨v10,H10,I10,r10,hD10,n10⟩=>?_;obtain⟨m',hm,w10⟩:=hN _ _ _ n10;refine O3 (X:=cCx X (loc++fr) scope s3 (upd H2 s2.heap.objs.size (.lst [])) fp) I10 hD10 r10 hz λ_ s11 I11=>?_;exact⟨m',hm,i+1,σ8,_,_,I11.unpinned,(keepI I11).1,(keepI I11).2,w10⟩
 exact codeAny_compStart_list loop (T.self X.A 0 _ _ _ (T.keep _ _ _ st3 λb hb o e=>hk b o e) loop)
end
section
variable{X:Cx}
def M8{elt tg iter:Expr}{ifs:List Expr}{scope:Scope}{pos:Pos}{loc fr:List Str}{ix:List Nat}{g:TG}{tf:TT}{te:TE}{pins:List (Addr×Obj)}{σ:St}{Q:VK}{it:Addr}{fp:List Addr}{tn:Nat->Heap->Prop}{J:It}{H2:Hp}{s2:Shared}{E:Value->Shared->Prop}
 {RR:Value->Addr->Result->Shared->Prop} (hc:X.calm=true) (S:CSc X scope fr ix)
 (hg:∀s H ex,PG (cCx X (loc++fr) scope s H ex) tg g) (hf:∀s H ex,PF (cCx X (loc++fr) scope s H ex) ifs tf) (he:∀s H ex,PE (cCx X (loc++fr) scope s H ex) elt te)
 (I2:Inv X pins σ H2 s2) (T:Turn X.prog X.w X.K tg J fp it tn) (st2:tn 0 s2.heap) (f2:∀b∈fp,C6 X pins H2 b) (hW:∀D,H2 D=none->QD J D (FT loc.length ix σ) H2 g tf te Q)
 (hfin:∀(s3 s6:Shared) (H5:Hp) (σ5:St) (D:Addr),Inv X pins σ (upd H2 D (.lst [])) s3->Inv (cCx X (loc++fr) scope s3 (upd H2 D (.lst [])) fp) [] σ5 H5 s6->(∀b∈fp,C6 X pins (upd H2 D (.lst [])) b)->Q (.ref D) H5->RR (.ref D) s3.heap.objs.size (.ok .next) s6):
 wpAny (model X.prog X.w) X.A (newList []) (λacc s₃=>wpAny (model X.prog X.w) X.A (newFunctionEnv scope X.env.globals (As X.env.cells scope.names []) [] X.env.qual none .none (some X.env)) (λcenv s₄=>
  codeAny (model X.prog X.w) X.A (.compStart (.ListComp elt [⟨tg,iter,ifs,0⟩] scope pos) 0 (.ref it) acc { cenv with scope:=relabel scope X.env }) (RR acc cenv.locals) s₄) E s₃) E s2:=by
 refine wpAny_newObj_type ?_;have fresh2:H2 s2.heap.objs.size=none:=I2.hok.fresh (le_refl _);have I3:=I2.lnew (its:=[]) (ys:=[]) (t':=s2.toks) .nil (zero_le _);obtain⟨W,⟨m0,w0⟩,turn⟩:=hW s2.heap.objs.size fresh2;have lt2:∀b∈fp,b<s2.heap.objs.size:=λb hb=>let ⟨o,e,_⟩:=T.obj 0 _ st2 b hb;Heap.lt_size e
 have f3:∀b∈fp,C6 X pins (upd H2 s2.heap.objs.size (.lst [])) b:=λb hb=>⟨by rw[AH (ne_of_lt (lt2 b hb))];exact(f2 b hb).1,(f2 b hb).2⟩
 have lt3:∀b∈fp,b<(s2.heap.push { cls:=.type "list",data:=.seq ([]:List Value).toArray }).objs.size:=λb hb=>by rw[Heap.size_push];exact lt_succ_of_lt (lt2 b hb)
 generalize hs3:({ s2 with heap:=s2.heap.push { cls:=.type "list",data:=.seq ([]:List Value).toArray } }:Shared)=s3 at *;have lt3:∀b∈fp,b<s3.heap.objs.size:=by rw[<- hs3];exact lt3
 have st3:tn 0 s3.heap:=T.keep _ _ _ st2 λb hb o e=>by rw[<- hs3];exact Heap.get?_push_of_some _ e
 refine Ki λh' hk hn ho ha=>?_;have I4:=JW (loc:=loc) S I3 f3 hk hn ho ha lt3;have fpX:∀{H':Hp},(∀b∈fp,H' b=none)->∀b∈fp,C6 (cCx X (loc++fr) scope s3 (upd H2 s2.heap.objs.size (.lst [])) fp) [] H' b:=λhn b hb=>
  ⟨hn b hb,(I4.ok.exf b hb).1,I4.ok.exfs b hb,.inl hb,(I4.ok.exf b hb).2,λp hp=>by cases hp⟩
 have loop:codeAny (model X.prog X.w) X.A (.compLoop (.ListComp elt [⟨tg,iter,ifs,0⟩] scope pos) 0 (.ref it) (.ref s2.heap.objs.size) (Pl scope s3.heap.objs.size X.env))
  (RR (.ref s2.heap.objs.size) s3.heap.objs.size) { s3 with heap:=h' }:=by
  refine FR (λn s'=>∃i σ' ys H',Inv (cCx X (loc++fr) scope s3 (upd H2 s2.heap.objs.size (.lst [])) fp) [] σ' H' s'/\tn i s'.heap/\(∀b∈fp,H' b=none)/\W i n σ' ys H') ?_ m0
   ⟨0,_,[],_,I4,T.keep _ _ _ st3 λb hb o e=>hk b o e,λb hb=>(f3 b hb).1,w0⟩
  rintro n s5 ⟨i,σ5,ys,H5,I5,st5,fr5,w5⟩;obtain⟨hD,w5⟩:=turn i n σ5 ys H5 w5;rcases w5 with⟨stop,qn⟩|⟨go,hz,N,hN,step⟩
  .refine thn (T.done (cCx X (loc++fr) scope s3 (upd H2 s2.heap.objs.size (.lst [])) fp) rfl rfl rfl hc i [] s5 σ5 H5 _ I5 (fpX fr5) st5 stop) λr s6 ⟨hr,I6⟩=>?_;subst hr;exact hfin s3 s6 H5 σ5 s2.heap.objs.size I3 I6 f3 qn
  .refine thn (T.item (cCx X (loc++fr) scope s3 (upd H2 s2.heap.objs.size (.lst [])) fp) rfl rfl rfl hc i [] s5 σ5 H5 _ I5 (fpX fr5) st5 go) λr s6 ⟨u,hr,h6⟩=>?_;subst hr;refine thn h6 λ_ s7 ⟨x,H7,I7,r7,y7,st7,fr7⟩=>?_;have I7':=I7.pinned (fpX fr7) (T.obj _ _ st7);have keepI:∀{σ8:St} {H8:Hp} {s8:Shared},Inv (cCx X (loc++fr) scope s3 (upd H2 s2.heap.objs.size (.lst [])) fp) ([]++EG fp s7.heap) σ8 H8 s8->tn (i+1) s8.heap/\∀b∈fp,H8 b=none:=λ{σ8 H8 s8} I8=>by
    refine⟨T.keep _ _ _ st7 λb hb o e=>(I8.pin (b,o) (mem_append_right _ (mem_append_right _ (C3 hb e)))).1,λb hb=>?_⟩;obtain⟨o,e,d⟩:=T.obj _ _ st7 b hb;exact(I8.pin (b,o) (mem_append_right _ (mem_append_right _ (C3 hb e)))).2.1
   refine thn (hg s3 (upd H2 s2.heap.objs.size (.lst [])) fp _ s7 σ5 H7 x u _ I7' r7 (step x H7 y7)) λ_ s8 ⟨σ8,H8,I8,q8⟩=>?_;refine thn (hf s3 (upd H2 s2.heap.objs.size (.lst [])) fp _ s8 σ8 H8 _ I8 q8) λb s9 ⟨H9,I9,q9⟩=>?_;cases b with
   |false=>
    rw[if_neg Bool.false_ne_true]at q9 ⊢;obtain⟨m',hm,w9⟩:=hN _ _ _ q9;exact⟨m',hm,i+1,σ8,ys,H9,I9.unpinned,(keepI I9).1,(keepI I9).2,w9⟩
   |true=>
    rw[if_pos rfl]at q9 ⊢;refine thn (he s3 (upd H2 s2.heap.objs.size (.lst [])) fp _ s9 σ8 H9 _ I9 q9) λe10 s10 ⟨v10,H10,I10,r10,hD10,n10⟩=>?_;obtain⟨m',hm,w10⟩:=hN _ _ _ n10;refine O3 (X:=cCx X (loc++fr) scope s3 (upd H2 s2.heap.objs.size (.lst [])) fp) I10 hD10 r10 hz λ_ s11 I11=>?_;exact⟨m',hm,i+1,σ8,_,_,I11.unpinned,(keepI I11).1,(keepI I11).2,w10⟩
 exact codeAny_compStart_list loop (T.self X.A 0 _ _ _ (T.keep _ _ _ st3 λb hb o e=>hk b o e) loop)
def KA{scope:Scope}{N':List Str}{fp:List Addr}{pins:List (Addr×Obj)}{σ σ5:St}{H3 H5:Hp}{s3 s6:Shared}{h'':Heap}(I3:Inv X pins σ H3 s3)(I6:Inv (cCx X N' scope s3 H3 fp) [] σ5 H5 s6)(f3:∀b∈fp,C6 X pins H3 b)
 (hs:Heap.SameBut s3.heap.objs.size s6.heap h''):Inv X pins σ H5 { s6 with heap:=h'' }:=by
 have neC:∀b o,s3.heap.get? b=some o->b≠s3.heap.objs.size:=λb o e=>ne_of_lt (Heap.lt_size e);have un:=I6.base;refine I3.call' (s':={ s6 with heap:=h'' }) (ch:=fp) I6.os ⟨λb o e n hb hx=>?_,λb o e n hb hx=>?_,un.free,λb o e hx=>?_,un.tups,un.frzs,un.tbls⟩ ?_ I6.bare ?_
 .exact(hs.2 b (neC b o e)).trans (un.keep b o e n hb hx)
 .obtain⟨sl,q⟩:=un.slot b o e n hb hx;exact⟨sl,(hs.2 b (neC b o e)).trans q⟩
 .obtain⟨o',q⟩:=un.there b o e hx;exact⟨o',(hs.2 b (neC b o e)).trans q⟩
 .intro b ob e;have hfree:H5 s3.heap.objs.size=none:=I6.free;refine(I6.hok b ob e).stay (λc w' hc q=>(hs.2 c ?_).trans q) (λ_ q=>q) λ_ _ q=>q;intro z;rcases hc with hc|hc
  .rw[<- hc,z,hfree]at e;cases e
  .rw[z,hfree]at hc;cases hc
 .intro b hb;obtain⟨_,a2,_,a4,a5,a6⟩:=f3 b hb;exact⟨a4,a2,a5,a6⟩
def SK{i:Nat}{y:Str}{elt tg iter:Expr}{ifs:List Expr}{scope:Scope}{pos spos py:Pos}{loc fr:List Str}{ix:List Nat}{wi:TI}{g:TG}{tf:TT}{te:TE}(hN:X.N.Nodup)(hiN:X.N[i]?=some y)(hy:X.env.scope.names.lookup y=some .local)
 (hc:X.calm=true) (S:CSc X scope fr ix) (hi:PI X tg iter wi)
 (hg:∀s H ex,PG (cCx X (loc++fr) scope s H ex) tg g) (hf:∀s H ex,PF (cCx X (loc++fr) scope s H ex) ifs tf) (he:∀s H ex,PE (cCx X (loc++fr) scope s H ex) elt te)
 (hsw:swapsWith (.ListComp elt [⟨tg,iter,ifs,0⟩] scope pos) (some (.Name y py)) spos.line X.env=pure true:=by rfl) (hs:∀x,foldedSetIterable iter X.env x=pure x:=by intro _;rfl):
 PS X (.Assign [.Name y py] (.ListComp elt [⟨tg,iter,ifs,0⟩] scope pos) spos) (Dz (Ed loc.length ix wi g tf te) (Ct i)):=by
 intro pins s σ H D I h;have hnames:∀y∈scope.names,y.2=.local->scope.names.lookup y.1=some .local:=λy hy e=>by
  have:=all_eq_true.mp S.loc y hy;rw[e]at this;simpa using this
 rw[exec_Assign_Name_used _ _ _ _ hsw];refine wpAny_bind (wpAny_standAt (wpAny_bind ?_));show wpAny _ _ (do let _ <- comprehension (.ListComp elt [⟨tg,iter,ifs,0⟩] scope pos) scope X.env _ (newList []) false (eval iter X.env) (some (assign (.Name y py) X.env))) _ _ s;refine wpAny_bind (wpAny_mono (wpAny_comprehension_free (use:=some (assign (.Name y py) X.env)) (Q:=λ_ s'=>SP X pins D .next s') rfl hs (Ey (S.clos I.ok)) S.kind hnames
  (thn (hi pins s σ H _ I h) λv s1 h1=>thn h1 λitv s2 h2=>?_)) (λ_ s' hq=>wpAny_pure (wpAny_pure hq)) λ_ _ e=>e)
 obtain⟨it,fp,tn,J,H2,rfl,I2,T,st2,f2,hW⟩:=h2;refine M8 (RR:=λacc C=>compPost (model X.prog X.w) X.A X.xe (some (assign (.Name y py) X.env)) (λ_ s'=>SP X pins D .next s') acc C) hc S hg hf he I2 T st2 f2 hW λs3 s6 H5 σ5 L I3 I6 f3 q=>?_;have J6:Inv X pins σ H5 s6:=KA (h'':=s6.heap) I3 I6 f3 (.refl ..);obtain⟨m,hm,_⟩:=I6.loc;have hm:s6.heap.Ns s3.heap.objs.size m:=hm;have hL:s3.heap.objs.size≠X.env.locals:=Ne.symm (ne_of_lt I3.lt);show wpAny _ _ (assign (.Name y py) X.env (.ref L)) _ _ s6;refine wpAny_assign_Name (Hx (v:=.ref L) J6 hN hiN (.inl hy) rfl (λs7 I7 ⟨a,sb,ha⟩=>?_) (.inr hy));have hca:s3.heap.objs.size≠a:=by
  rcases ha with rfl|ha
  .exact hL
  .obtain⟨v,z⟩:=I3.cell y a ha;exact Ne.symm (ne_of_lt z.lt)
 refine⟨m,hm.sameBut sb hca,λh' hs'=>?_⟩;refine⟨_,H5,I7.turned (t':=s7.toks) (it:=s3.heap.objs.size) (λb o hb e=>(hs'.2 b hb).trans e) I6.free hL (.inr I3.sz) (λx c e z=>?_) (λp hp z=>?_),q⟩
 .obtain⟨v,w⟩:=I3.cell x c e;exact absurd w.lt (by rw[z];exact lt_irrefl _)
 .exact absurd (Heap.lt_size (I3.pin p hp).1) (by rw[z];exact lt_irrefl _)
end
mutual
def Rep(K:PySem.W.Frag)(H:Hp):PyData->V->Prop
 |.none,v=>v=.non
 |.bool b,v=>v=.bl b
 |.int i,v=>v=.int i
 |.str x,v=>v=.str x
 |.list ds,v=>∃a xs,v=.ref a/\SqL K H a xs/\BC K H ds xs
 |.tuple ds,v=>∃a xs,v=.ref a/\SqT K H a xs/\BC K H ds xs
 |.dict _,_=>False
def BC(K:PySem.W.Frag)(H:Hp):List PyData->List V->Prop
 |[],xs=>xs=[]
 |d::ds,xs=>∃x r,xs=x::r/\Rep K H d x/\BC K H ds r
end
section
variable{X:Cx}{pins:List (Addr×Obj)}{σ:St}{H:Hp}{s:Shared}
mutual
def CQ(I:Inv X pins σ H s):∀(d:PyData) (v:V) (u:Value),Rep X.K H d v->RelV v u->∃as,Reads s.heap u d as
 |.none,v,u,h,r=>by
  have h:v=.non:=by simpa only[Rep]using h
  subst h;cases r;exact⟨_,.none⟩
 |.bool b,v,u,h,r=>by
  have h:v=.bl b:=by simpa only[Rep]using h
  subst h;cases r;exact⟨_,.bool b⟩
 |.int i,v,u,h,r=>by
  have h:v=.int i:=by simpa only[Rep]using h
  subst h;obtain⟨t,rfl⟩:=r;exact⟨_,.int i t⟩
 |.str x,v,u,h,r=>by
  have h:v=.str x:=by simpa only[Rep]using h
  subst h;obtain⟨t,rfl⟩:=r;exact⟨_,.str x t⟩
 |.list ds,v,u,h,r=>by
  have h:∃a xs,v=.ref a/\SqL X.K H a xs/\BC X.K H ds xs:=by simpa only[Rep]using h
  obtain⟨a,xs,rfl,hq,ha⟩:=h;cases r;obtain⟨its,rv,⟨o,n,e,c,_,dd⟩,hz⟩:=I.list hq;obtain⟨as,q⟩:=DX I ds xs its ha rv;exact⟨_,.list e c dd (by simpa using q)⟩
 |.tuple ds,v,u,h,r=>by
  have h:∃a xs,v=.ref a/\SqT X.K H a xs/\BC X.K H ds xs:=by simpa only[Rep]using h
  obtain⟨a,xs,rfl,hq,ha⟩:=h;cases r;obtain⟨its,rv,⟨o,e,c,n,dd⟩,hz⟩:=I.tuple hq;obtain⟨as,q⟩:=DX I ds xs its ha rv;exact⟨_,.tuple e c dd (by simpa using q)⟩
 |.dict _,v,u,h,r=>by
  have h:False:=by simpa only[Rep]using h
  exact h.elim
def DX(I:Inv X pins σ H s):∀(ds:List PyData) (xs:List V) (us:List Value),BC X.K H ds xs->Vals xs us->∃as,ReadsAll s.heap us ds as
 |[],xs,us,h,r=>by
  have h:xs=[]:=by simpa only[BC]using h
  subst h;cases r;exact⟨_,.nil⟩
 |d::ds,xs,us,h,r=>by
  have h:∃x r,xs=x::r/\Rep X.K H d x/\BC X.K H ds r:=by simpa only[BC]using h
  obtain⟨x,rr,rfl,h1,h2⟩:=h;cases r with
  |cons r1 r2=>
   obtain⟨as,q1⟩:=CQ I d _ _ h1 r1;obtain⟨bs,q2⟩:=DX I ds _ _ h2 r2;exact⟨_,.cons q1 q2⟩
end
end
structure Grow(H H':Hp):Prop where
 tup:∀b xs,H b=some (.tup xs)->H' b=some (.tup xs)
 frz:∀b o u,H b=some (.frz o u)->H' b=some (.frz o u)
def Grow.refl{H:Hp}:Grow H H:=⟨λ_ _ h=>h,λ_ _ _ h=>h⟩
def Chg(H:Hp)(p:Addr):Prop:=(∀xs,H p≠some (.tup xs))/\∀o u,H p≠some (.frz o u)
def Grow.put{H H':Hp}{p:Addr}{o:HO}(a:Grow H H')(h:Chg H' p):Grow H (upd H' p o):=⟨λc xs e=>by
 have q:=a.tup c xs e;have n:c≠p:=λz=>h.1 xs (by rw[<- z];exact q);rw[AH n];exact q,λc z u e=>by
 have q:=a.frz c z u e;have n:c≠p:=λw=>h.2 z u (by rw[<- w];exact q);rw[AH n];exact q⟩
def Chg.lst{H:Hp}{p:Addr}{xs:List V}(h:H p=some (.lst xs)):Chg H p:=⟨(λ_ e=>by rw[h]at e;cases e),(λ_ _ e=>by rw[h]at e;cases e)⟩
def Grow.sq{K:PySem.W.Frag}{H H':Hp}{a:Addr}{xs:List V}(g:Grow H H')(h:SqT K H a xs):SqT K H' a xs:=by
 rcases h with(h|⟨o,h⟩)|h
 .exact .inl (.inl (g.tup _ _ h))
 .exact .inl (.inr ⟨o,g.frz _ _ _ h⟩)
 .exact .inr h
section
variable{X:Cx}
def Ld(K:PySem.W.Frag):List V->Hp->VK->Prop:=λxs H Q=>∃x d,xs=[x]/\Rep K H d x/\d.showable=true/\d.hasDict=false/\isDisplay d=true/\d.depth<=30/\d.shown.length<=sizeLine/\Q (.str d.shown) H
def M9(hg:X.A.guards=some [])(hu:X.A.units+64<cLine):CallR X (.builtin "repr") (Ld X.K):=by
 intro pins s σ H xs us Q I r h;obtain⟨x,d,rfl,hr,hs,hd,hi,hdep,hsz,q⟩:=h;obtain⟨u,rfl,ru⟩:=BY r;obtain⟨as,hR⟩:=CQ I d x u hr ru;obtain⟨a,rfl⟩:=isRef_of_reads hR hi;exact repr_of_reads' hR hs (PyData.noDict_hsm hd) hg (by omega) (λ_ _ e=>e) (λh' u tk hk=>⟨.str d.shown,H,I.kept hk,⟨_,rfl⟩,q⟩) hsz
def Lf(K:PySem.W.Frag):R2:=λx y H Q=>∃d e,Rep K H d x/\Rep K H e y/\d.canLay0=true/\e.canLay0=true/\min d.depth e.depth<=60/\Q (.bl (!PyData.eqv d e)) H
def Os(K:PySem.W.Frag):R2:=λx y H Q=>∃d e,Rep K H d x/\Rep K H e y/\d.canLay0=true/\e.canLay0=true/\min d.depth e.depth<=60/\Q (.bl (PyData.eqv d e)) H
def VQ(hu:X.A.units+64<cLine):OpR X (compareOp .NotEq) (Lf X.K):=by
 intro pins s σ H x y v u Q I rx ry h;obtain⟨d,e,h1,h2,c1,c2,hm,q⟩:=h;obtain⟨as,q1⟩:=CQ I d x v h1 rx;obtain⟨bs,q2⟩:=CQ I e y u h2 ry;exact PySem.SeqAt.compareNe_reads q1 q2 c1 c2 (by omega) ⟨.bl _,H,I,rfl,q⟩
def VU(hu:X.A.units+64<cLine):OpR X (compareOp .Eq) (Os X.K):=by
 intro pins s σ H x y v u Q I rx ry h;obtain⟨d,e,h1,h2,c1,c2,hm,q⟩:=h;obtain⟨as,q1⟩:=CQ I d x v h1 rx;obtain⟨bs,q2⟩:=CQ I e y u h2 ry;exact PySem.SeqAt.compareEq_reads q1 q2 c1 c2 (by omega) ⟨.bl _,H,I,rfl,q⟩
def ints_of:∀{ns:List Int} {us:List Value},Vals (ns.map V.int) us->IntsAre us ns
 |[],_,.nil=>.nil
 |n::ns,_,.cons r t=>by obtain⟨k,rfl⟩:=r;exact .cons _ _ (ints_of t)
end
end L2
namespace L2
open PySem PySem.Spec PyProof.Rows
section
variable(K:PySem.W.Frag){X:Cx}
def JV(hK:X.K=K:=by rfl):IxR X (Oq K):=by subst hK;exact T3
def Kl(hK:X.K=K:=by rfl):IxR X (Op K):=by subst hK;exact Vi
def OW(hK:X.K=K:=by rfl):SlR X (Lc K):=by subst hK;exact Qm
def Qk(hK:X.K=K:=by rfl):SlR X (JK K):=by subst hK;exact Mg
def NG(hK:X.K=K:=by rfl):OpR X (compareOp .In) (rIn K false):=by subst hK;exact NF
def ND(hK:X.K=K:=by rfl):OpR X (compareOp .NotIn) (rIn K true):=by subst hK;exact JQ
def HN(hu:X.A.units+64<cLine)(hK:X.K=K:=by rfl):OpR X (compareOp .Eq) (Os K):=by subst hK;exact VU hu
def HM(hu:X.A.units+64<cLine)(hK:X.K=K:=by rfl):OpR X (compareOp .NotEq) (Lf K):=by subst hK;exact VQ hu
def JR(hK:X.K=K:=by rfl):OpR X (binaryOp .Add) (Lg K):=by subst hK;exact Sh
def UO:List V->Hp->VK->Prop:=λxs H Q=>∃p ys,xs=[.ref p]/\(SqL K H p ys∨SqT K H p ys)/\Q (.int ys.length) H
def Ny(hK:X.K=K:=by rfl):CallR X (.builtin "len") (UO K):=by subst hK;exact Js
def EE:List V->Hp->VK->Prop:=λxs H Q=>∃p ys,xs=[.ref p]/\(SqL K H p ys∨SqT K H p ys)/\∀l,H l=none->Q (.ref l) (upd H l (.lst ys))
def Gz(hK:X.K=K:=by rfl):CallR X (.type "list") (EE K):=by subst hK;exact Jr
def JJ:List V->Hp->VK->Prop:=λxs H Q=>∃p ys,xs=[.ref p]/\((SqL K H p ys/\∀l,H l=none->Q (.ref l) (upd H l (.tup ys)))∨(SqT K H p ys/\Q (.ref p) H))
def Fs(hK:X.K=K:=by rfl):CallR X (.type "tuple") (JJ K):=by subst hK;exact IW
def K9(hg:X.A.guards=some [])(hu:X.A.units+64<cLine)(hK:X.K=K:=by rfl):CallR X (.builtin "repr") (Ld K):=by subst hK;exact M9 hg hu
def JO{tg l:Expr}{tl:TE}(hl:PE X l tl)(hK:X.K=K:=by rfl):PI X tg l (Fg K tl):=by subst hK;exact SW hl
def SV{tg l:Expr}{tl:TE}(hl:PE X l tl)(hK:X.K=K:=by rfl):PI X tg l (Lz K tl):=by subst hK;exact V6 hl
def SX{pos:Pos}{es:List Expr}{k:Nat}{t:TGs}{n:Nat}(hc:X.calm=true)(h:PGs X es t)(hK:X.K=K:=by rfl)
 (hn:(assignEach es X.env).length=n:=by rfl) (hst:(assignEach es X.env).findIdx? (·.1)=none:=by rfl):PG X (.Tuple es k pos) (Hb K n t):=by
 subst hK;exact N9 hc h hn hst
end
section
variable(K:PySem.W.Frag){X:Cx}
def IP:∀{bs:List Bool} {us:List Value} {i:Nat} {v:Value},Vals (bs.map V.bl) us->us[i]?=some v->∃b,bs[i]?=some b/\v=.bool b
 |[],_,_,_,.nil,e=>by simp at e
 |b::bs,_,0,_,.cons r _,e=>by simp at e;subst e;exact⟨b,rfl,r⟩
 |b::bs,_,i+1,_,.cons _ t,e=>by
  obtain⟨c,h1,h2⟩:=IP (i:=i) t (by simpa using e);exact⟨c,by simpa using h1,h2⟩
def UP:List V->Hp->VK->Prop:=λxs H Q=>∃(a:Addr) (bs:List Bool),xs=[.ref a]/\SqL K H a (bs.map V.bl)/\Q (.bl (bs.all id)) H
def IM(hc:X.calm=true)(hK:X.K=K:=by rfl):CallR X (.builtin "all") (UP K):=by
 subst hK;intro pins s σ H xs us Q I r h;obtain⟨a,bs,rfl,hq,q⟩:=h;obtain⟨u,rfl,ru⟩:=BY r;cases ru;obtain⟨its,rv,p,hz⟩:=I.list hq;have hl:=p.isList;have hlen:=rv.length;have hlt:a<s.heap.objs.size:=by obtain⟨_,e,_⟩:=hl;exact Heap.lt_size e
 refine call_all_walk (wpAny_pyIter_list hl ?_);refine⟨s.heap.objs.size,[s.heap.objs.size,a],[s.heap.objs.size],its.toArray.size,_,_,λi=>(bs[i]?).getD true,rfl,Walks.list (A:=X.A.in1) (I.ok.hd hc) _ a (ne_of_lt hlt) its.toArray,
  ⟨⟨_,Heap.get?_push_size _ rfl,rfl,rfl⟩,hl.push _⟩,λi v s' Q' E' hP hQ=>?_,λh' tk hk=>?_⟩
 .obtain⟨b,e,rfl⟩:=IP rv (by simpa using hP);simp only[e,Option.getD_some]at hQ;exact wpAny_truthy_bool hQ
 .have e:((List.range its.toArray.size).all λi=>(bs[i]?).getD true)=bs.all id:=by
   rw[size_toArray,<- hlen,length_map];exact LSm.range_all bs
  rw[e];exact⟨.bl _,H,I.kept (LSm.kept_iter hk),rfl,q⟩
def KK:∀{ns:List Int} {us:List Value},IntsAre us ns->Vals (ns.map V.int) us
 |[],_,.nil=>.nil
 |_::_,_,.cons _ _ t=>.cons ⟨_,rfl⟩ (KK t)
end
structure DefAt(K:PySem.W.Frag)(mg:Str->Option Value)(x:Str)(st:Stmt)(f:Addr)(fd:FuncData)(ps:List Str):Prop where
 fn:Fun K x x st f fd
 mg:mg x=some (.ref f)
 bd:Binds K fd ps []
def Q3{X:Cx}{j k:Nat}{f:Addr}{fd:FuncData}{ps:List Str}{sp:Sp}{x:Str}{st:Stmt}{e:Expr}{es:List Expr}{t:TA}{p pos:Pos}(F:FnOk X.prog X.w X.K X.mg X.base CX0 j f fd ps sp)(hr:Room k X.A)(D:DefAt X.K X.mg x st f fd ps)(ha:PA X (e::es) t)
 (hjk:j<=k:=by decide) (hg:Gl X x:=by rfl) (hdb:(x==("__debug__":Str))=false:=by decide) (he:starEach (e::es) X.env=(false,eval e X.env)::starEach es X.env:=by rfl) (hpl:(backTo pos (starEach es X.env)).any (·.1)=false:=by rfl):
 PE X (.Call (.Name x p) (e::es) [] pos) (Dr sp [] E0 t):=
 Se (F.mono hjk) hr hg D.mg D.fn.kp D.bd .nil Wp ha hdb he hpl
def LJ(i j k:Nat)(ta:TA):TS:=λD σ H=>ta σ H λvs H1=>∃v w z,vs=[v,w,z]/\D.nx (((σ.set k (some z)).set j (some w)).set i (some v)) H1
def SM{X:Cx}{i j k:Nat}{x y z:Str}{a b c:Expr}{ta:TA}{px py pz pt pos:Pos}{kt k2 pt2}(hc:X.calm=true)(hN:X.N.Nodup)(hi:X.N[i]?=some x)(hj:X.N[j]?=some y)(hk:X.N[k]?=some z)
 (hx:X.env.scope.names.lookup x=some .local) (hy:X.env.scope.names.lookup y=some .local) (hz:X.env.scope.names.lookup z=some .local) (ha:PA X [a,b,c] ta)
 (hw:swappedStores [.Tuple [.Name x px,.Name y py,.Name z pz] kt pt] (.Tuple [a,b,c] k2 pt2) X.env=pure (some [x,y,z]))
 (hs:swapsWithSole [.Tuple [.Name x px,.Name y py,.Name z pz] kt pt] (.Tuple [a,b,c] k2 pt2) pos.line X.env=pure false:=by rfl):
 PS X (.Assign [.Tuple [.Name x px,.Name y py,.Name z pz] kt pt] (.Tuple [a,b,c] k2 pt2) pos) (LJ i j k ta):=by
 intro pins s σ H D I h;rw[exec_Assign_arm];refine wpAny_bind (wpAny_standAt ?_);rw[hs];refine wpAny_bind (wpAny_pure ?_);rw[if_neg (by decide)];refine wpAny_bind (Tuple_ (thn (ha _ pins s σ H _ I h) λus s1 ⟨vs,H1,I1,r1,q1⟩=>?_));obtain⟨v,w,q,e1,q1⟩:=q1;subst e1;obtain⟨u1,u2,u3,rfl,rv,rw',rq⟩:∃u1 u2 u3,us=[u1,u2,u3]/\RelV v u1/\RelV w u2/\RelV q u3:=by
  cases r1 with
  |cons p1 q1=>
   cases q1 with
   |cons p2 q2=>
    cases q2 with
    |cons p3 q3=>
     cases q3;exact⟨_,_,_,rfl,p1,p2,p3⟩
 refine wpAny_newObj_type ?_ (by show 3<=sizeLine;decide);have I2:Inv X pins σ H1 { s1 with heap:=s1.heap.push { cls:=.type "tuple",data:=.seq [u1,u2,u3].toArray } }:=I1.kept (t':=s1.toks) λb o e=>Heap.get?_push_of_some _ e;rw[hw];refine wpAny_bind (wpAny_pure ?_);show wpAny (model X.prog X.w) X.A (do rule "assign.swapped-stores";let items <- unpackItems (.ref s1.heap.objs.size) 3 none;assignInOrder [λv=>bindName X.env z v,λv=>bindName X.env y v,λv=>bindName X.env x v] items.reverse;pure Flow.next) _ _ _;refine wpAny_bind (wpAny_rule (wpAny_bind (unpackItems_tuple (items:=#[u1,u2,u3]) (I.ok.hd hc) (IsTup.new s1.heap _) λh' hx'=>?_)));have I3:=I2.kept (h':=h') (t':=s1.toks) λb o e=>hx' b o (ne_of_lt (Heap.lt_size e)) e;show wpAny _ _ (assignInOrder [λv=>bindName X.env z v,λv=>bindName X.env y v,λv=>bindName X.env x v] [u3,u2,u1] >>= λ_=>pure Flow.next) _ _ _;refine wpAny_bind (assignInOrder_cons (wpAny_bindName (CG I3 hN hk (.inl hz) rq (λs2 I4=>?_) (.inr hz))));refine assignInOrder_cons (wpAny_bindName (CG I4 hN hj (.inl hy) rw' (λs3 I5=>?_) (.inr hy)));refine assignInOrder_cons (wpAny_bindName (CG I5 hN hi (.inl hx) rv (λs4 I6=>assignInOrder_nil (wpAny_pure ?_)) (.inr hx)));exact⟨_,H1,I6,q1⟩
def Ho:bootBuiltins "list"=some (.type "list"):=by decide +kernel
def bt_tuple:bootBuiltins "tuple"=some (.type "tuple"):=by decide +kernel
def bt_int:bootBuiltins "int"=some (.type "int"):=by decide +kernel
def bt_len:bootBuiltins "len"=some (.builtin "len"):=by decide +kernel
def bt_repr:bootBuiltins "repr"=some (.builtin "repr"):=by decide +kernel
def bt_min:bootBuiltins "min"=some (.builtin "min"):=by decide +kernel
def IN:bootBuiltins "sorted"=some (.builtin "sorted"):=by decide +kernel
def bt_all:bootBuiltins "all"=some (.builtin "all"):=by decide +kernel
def IX:bootBuiltins "isinstance"=some (.builtin "isinstance"):=by decide +kernel
def ne1:¬ (("cells":Str)="next"):=by decide +kernel
def ne2:¬ (("cells":Str)="left"):=by decide +kernel
def ne3:¬ (("cells":Str)="turn"):=by decide +kernel
def ne4:¬ (("next":Str)="left"):=by decide +kernel
def ne5:¬ (("next":Str)="turn"):=by decide +kernel
def ne6:¬ (("left":Str)="turn"):=by decide +kernel
def XO:¬ (("left":Str)="next"):=by decide +kernel
def XN:¬ (("turn":Str)="next"):=by decide +kernel
def XM:¬ (("turn":Str)="left"):=by decide +kernel
mutual
def Fr:∀ns:List Int,PyData.canLayAll0 (ns.map PyData.int)=true
 |[]=>by simp[PyData.canLayAll0]
 |n::ns=>by simp[PyData.canLayAll0,PyData.canLay0,Fr ns]
end
end L2
namespace L2
open PySem PySem.Spec PyProof.Rows PySem.W
def cdF(c:Addr)(q:Str):Heap->Prop:=λh=>h.CodeRec (.ref c) q
def X9(H:Hp)(q:Str)(pos:Pos)(ps:Array Value):Prop:=ps=#[]∨∃c,ps=#[rawInt pos.line,rawInt pos.col,.ref c]/\H c=some (.ext (cdF c q))
end L2
namespace L2
open PySem PySem.Spec PyProof.Rows
inductive I where
 |non|bl (b:Bool)|int (i:Int)|str (x:Str)|tup (ds:List I)
inductive D where
 |im (i:I)|mu (n:Nat)|tm (ds:List D)|ro (ns:List Int)
inductive MO where
 |lst (ds:List D)|dic (kvs:List (Key×D))
abbrev Hd:=List MO
abbrev Ls:=List (Option D)
def RoL(K:PySem.W.Frag)(H:Hp)(a:Addr)(xs:List V):Prop:=(∃o,H a=some (.frz o (.lst xs))) ∨
 ∃(o:Obj) (its:Array Value) (n:Nat),K.lookup a=some o/\o.cls=.type "list"/\o.dict=none/\o.data=.seq its n/\its.size<=sizeLine/\Vals xs its.toList
def RoL.sq{K:PySem.W.Frag}{H:Hp}{a:Addr}{xs:List V}(h:RoL K H a xs):SqL K H a xs:=by
 rcases h with⟨o,h⟩|h
 .exact .inl (.inr ⟨o,h⟩)
 .exact .inr h
def RoL.grow{K:PySem.W.Frag}{H H':Hp}{a:Addr}{xs:List V}(g:Grow H H')(h:RoL K H a xs):RoL K H' a xs:=by
 rcases h with⟨o,h⟩|h
 .exact .inl ⟨o,g.frz _ _ _ h⟩
 .exact .inr h
def BB(n:Nat):Prop:=n<=sizeLine
def CD(n:Nat):Prop:=n<sizeLine
def Dt(i j:Int):Prop:=(-(2^64)<i/\i<2^64)∨(-(2^64)<j/\j<2^64)
def Ic(i j:Int):Prop:=0<=j/\j<=1000000/\i.natAbs<2^64
def Ik(j:Int):Prop:=0<j/\j<1073741824
def Bm(j:Int):Prop:=0<j
def DW(j:Int):Prop:=-(2^62)<=j/\j<2^62
def JE(i j:Int):Prop:=(-(2^62)<=i/\i<2^62)/\-(2^62)<=j/\j<2^62
def Ga(j:Int):Prop:=j<2^24/\-(2^62)<=j
def Pv(i j:Int):Prop:=(-(2^62)<=i/\i<2^62)/\(-(2^62)<=j/\j<2^62)/\(j-i).toNat<=2^24
def AR{n:Nat}(h:n<=1000000):BB n:=le_trans h (by rw[sizeLine_eq];decide)
def Bu{n:Nat}(h:n<1000000):CD n:=lt_of_lt_of_le h (by rw[sizeLine_eq];decide)
def DO{i j:Int}(a:-1000000000000<=i)(b:i<=1000000000000):Dt i j:=.inl ⟨by omega,by omega⟩
def CP{j:Int}(a:-1000000000000<=j)(b:j<=1000000000000):DW j:=⟨by omega,by omega⟩
def R8{i j:Int}(a:-1000000000000<=i)(b:i<=1000000000000)(c:-1000000000000<=j)(d:j<=1000000000000):JE i j:=⟨⟨by omega,by omega⟩,by omega,by omega⟩
def Fw{j:Int}(a:-1000000000000<=j)(b:j<=1000000):Ga j:=⟨by omega,by omega⟩
section
variable(K:PySem.W.Frag)
mutual
def RI(H:Hp):I->V->Prop
 |.non,v=>v=.non
 |.bl b,v=>v=.bl b
 |.int i,v=>v=.int i
 |.str x,v=>v=.str x
 |.tup ds,v=>∃a xs,v=.ref a/\SqT K H a xs/\RIs H ds xs
def RIs(H:Hp):List I->List V->Prop
 |[],xs=>xs=[]
 |d::ds,xs=>∃x r,xs=x::r/\RI H d x/\RIs H ds r
end
mutual
def RD(ρ:List Addr)(H:Hp):D->V->Prop
 |.im i,v=>RI K H i v
 |.mu n,v=>∃a,ρ[n]?=some a/\v=.ref a
 |.tm ds,v=>∃a xs,v=.ref a/\SqT K H a xs/\RDs ρ H ds xs
 |.ro ns,v=>∃a,v=.ref a/\RoL K H a (ns.map V.int)
def RDs(ρ:List Addr)(H:Hp):List D->List V->Prop
 |[],xs=>xs=[]
 |d::ds,xs=>∃x r,xs=x::r/\RD ρ H d x/\RDs ρ H ds r
end
def RKs(ρ:List Addr)(H:Hp):List (Key×D)->List (Key×V)->Prop
 |[],xs=>xs=[]
 |d::ds,xs=>∃x r,xs=x::r/\x.1=d.1/\RD K ρ H d.2 x.2/\RKs ρ H ds r
def RC(ρ:List Addr)(H:Hp):MO->HO->Prop
 |.lst ds,o=>∃xs,o=.lst xs/\RDs K ρ H ds xs
 |.dic kvs,o=>∃kv,o=.dK kv/\RKs K ρ H kvs kv
def IY:List Value->List (Addr×Str×Pos)
 |.ref P::.str q _::.int l _::.int c _::r=>(P,q,⟨l.toNat,c.toNat,0,0⟩)::IY r
 |_=>[]
def WQ(o:Obj):List (Addr×Str×Pos):=match o.cls,o.data with
 |.str _ _,.fields vs=>IY vs.toList
 |_,_=>[]
def GV(K:PySem.W.Frag):List (Addr×Str×Pos):=match K.getLast? with
 |some p=>WQ p.2
 |none=>[]
def TabsOk(K:PySem.W.Frag)(H:Hp):Prop:=∀x∈GV K,∃ps,H x.1=some (.tbl ps)/\X9 H x.2.1 x.2.2 ps
structure RH(ρ:List Addr)(H:Hp)(hd:Hd):Prop where
 len:ρ.length=hd.length
 nd:ρ.Nodup
 tabs:TabsOk K H
 ob:∀(n:Nat) (o:MO) (a:Addr),hd[n]?=some o->ρ[n]?=some a->∃ho,H a=some ho/\RC K ρ H o ho
structure RL(ρ:List Addr)(H:Hp)(ls:Ls)(σ:St):Prop where
 len:ls.length=σ.length
 ob:∀(i:Nat) (d:D),ls[i]?=some (some d)->∃v,σ[i]?=some (some v)/\RD K ρ H d v
end
structure Ext(ρ:List Addr)(H:Hp)(ρ':List Addr)(H':Hp):Prop where
 pre:∃r,ρ'=ρ++r/\∀b∈r,H b=none
 keep:∀b o,H b=some o->b∉ρ->(∀ps,o≠.tbl ps)->H' b=some o
 tab:∀b ps,H b=some (.tbl ps)->∃ps',H' b=some (.tbl ps')
def nt{o:HO}(h:match o with|.tbl _=>False|_=>True:=by trivial):∀ps,o≠.tbl ps:=λps e=>by subst e;exact h
def TabsOk.upd{K:PySem.W.Frag}{H:Hp}(t:TabsOk K H){a:Addr}{ho:HO}(h1:∀ps,H a≠some (.tbl ps))(h2:∀φ,H a≠some (.ext φ)):TabsOk K (upd H a ho):=λx hx=>by
 obtain⟨ps,e,g⟩:=t x hx;have ne:x.1≠a:=λz=>h1 ps (by rw[<- z];exact e);refine⟨ps,by rw[AH ne];exact e,?_⟩;rcases g with g|⟨c,g1,g2⟩
 .exact .inl g
 .have nc:c≠a:=λz=>h2 _ (by rw[<- z];exact g2);exact .inr ⟨c,g1,by rw[AH nc];exact g2⟩
section
variable{K:PySem.W.Frag}{ρ ρ' ρ1 ρ2:List Addr}{H H' H1 H2:Hp}{hd hd' hd1:Hd}
mutual
def RI.grow(g:Grow H H'):∀{i:I} {v:V},RI K H i v->RI K H' i v
 |.non,v,h=>by simpa only[RI]using h
 |.bl b,v,h=>by simpa only[RI]using h
 |.int b,v,h=>by simpa only[RI]using h
 |.str b,v,h=>by simpa only[RI]using h
 |.tup ds,v,h=>by
  simp only[RI]at h ⊢;obtain⟨a,xs,e,q,r⟩:=h;exact⟨a,xs,e,g.sq q,RIs.grow g r⟩
def RIs.grow(g:Grow H H'):∀{i:List I} {v:List V},RIs K H i v->RIs K H' i v
 |[],v,h=>by simpa only[RIs]using h
 |d::ds,v,h=>by
  simp only[RIs]at h ⊢;obtain⟨x,r,e,q,z⟩:=h;exact⟨x,r,e,q.grow g,RIs.grow g z⟩
end
def RH.mut(h:RH K ρ H hd){a:Addr}(m:a∈ρ):(∃xs,H a=some (.lst xs))∨∃kv,H a=some (.dK kv):=by
 obtain⟨n,e⟩:=List.mem_iff_getElem?.mp m;have hn:n<hd.length:=by rw[<- h.len];exact(List.getElem?_eq_some_iff.mp e).1
 obtain⟨ho,e1,e2⟩:=h.ob n hd[n] a (by simp[hn]) e;cases q:hd[n]with
 |lst ds=>rw[q]at e2;obtain⟨xs,rfl,_⟩:=e2;exact .inl ⟨xs,e1⟩
 |dic ds=>rw[q]at e2;obtain⟨xs,rfl,_⟩:=e2;exact .inr ⟨xs,e1⟩
def RH.tup_out(h:RH K ρ H hd){a:Addr}{xs:List V}(e:H a=some (.tup xs)):a∉ρ:=λm=>by
 rcases h.mut m with⟨y,z⟩|⟨y,z⟩<;>(rw[e]at z;cases z)
def RH.frz_out(h:RH K ρ H hd){a:Addr}{o:Obj}{u:HO}(e:H a=some (.frz o u)):a∉ρ:=λm=>by
 rcases h.mut m with⟨y,z⟩|⟨y,z⟩<;>(rw[e]at z;cases z)
def Ext.grow(e:Ext ρ H ρ' H')(h:RH K ρ H hd):Grow H H':=⟨λb xs q=>e.keep b _ q (h.tup_out q) nt,λb o u q=>e.keep b _ q (h.frz_out q) nt⟩
def Ext.refl:Ext ρ H ρ H:=⟨⟨[],by simp,by simp⟩,λ_ _ h _ _=>h,λ_ ps h=>⟨ps,h⟩⟩
def Ext.trans(e:Ext ρ H ρ1 H1)(h0:RH K ρ1 H1 hd1)(e2:Ext ρ1 H1 ρ2 H2):Ext ρ H ρ2 H2:=by
 obtain⟨r1,rfl,f1⟩:=e.pre;obtain⟨r2,rfl,f2⟩:=e2.pre;refine⟨⟨r1++r2,by simp,λb m=>?_⟩,λb o q n t=>?_,λb ps q=>?_⟩
 .rcases mem_append.mp m with m|m
  .exact f1 b m
  .have z:=f2 b m;cases q:H b with
   |none=>rfl
   |some o=>
    by_cases n:b∈ρ
    .rcases h0.mut (List.mem_append_left r1 n)with⟨y,w⟩|⟨y,w⟩<;>(rw[z]at w;cases w)
    .by_cases t:∃ps,o=.tbl ps
     .obtain⟨ps,rfl⟩:=t;obtain⟨ps',this⟩:=e.tab b ps q;rw[z]at this;cases this
     .have:=e.keep b o q n λps y=>t ⟨ps,y⟩;rw[z]at this;cases this
 .refine e2.keep b o (e.keep b o q n t) (λm=>?_) t;rcases mem_append.mp m with m|m
  .exact n m
  .have:=f1 b m;rw[q]at this;cases this
 .obtain⟨ps',q'⟩:=e.tab b ps q;exact e2.tab b ps' q'
mutual
def RD.mono(g:Grow H H')(r:List Addr):∀{d:D} {v:V},RD K ρ H d v->RD K (ρ++r) H' d v
 |.im i,v,h=>by simp only[RD]at h ⊢;exact h.grow g
 |.mu n,v,h=>by
  simp only[RD]at h ⊢;obtain⟨a,e,q⟩:=h;exact⟨a,by rw[List.getElem?_append_left (List.getElem?_eq_some_iff.mp e).1];exact e,q⟩
 |.tm ds,v,h=>by
  simp only[RD]at h ⊢;obtain⟨a,xs,e,q,z⟩:=h;exact⟨a,xs,e,g.sq q,RDs.mono g r z⟩
 |.ro ns,v,h=>by
  simp only[RD]at h ⊢;obtain⟨a,e,q⟩:=h;exact⟨a,e,q.grow g⟩
def RDs.mono(g:Grow H H')(r:List Addr):∀{d:List D} {v:List V},RDs K ρ H d v->RDs K (ρ++r) H' d v
 |[],v,h=>by simpa only[RDs]using h
 |d::ds,v,h=>by
  simp only[RDs]at h ⊢;obtain⟨x,r',e,q,z⟩:=h;exact⟨x,r',e,q.mono g r,RDs.mono g r z⟩
end
def RKs.mono(g:Grow H H')(r:List Addr):∀{d:List (Key×D)} {v:List (Key×V)},RKs K ρ H d v->RKs K (ρ++r) H' d v
 |[],v,h=>by simpa only[RKs]using h
 |d::ds,v,h=>by
  simp only[RKs]at h ⊢;obtain⟨x,r',e,q1,q,z⟩:=h;exact⟨x,r',e,q1,q.mono g r,RKs.mono g r z⟩
def RC.mono(g:Grow H H')(r:List Addr){o:MO}{ho:HO}(h:RC K ρ H o ho):RC K (ρ++r) H' o ho:=by
 cases o with
 |lst ds=>obtain⟨xs,e,q⟩:=h;exact⟨xs,e,q.mono g r⟩
 |dic ds=>obtain⟨xs,e,q⟩:=h;exact⟨xs,e,q.mono g r⟩
def RD.ext(h:RH K ρ H hd)(e:Ext ρ H ρ' H'){d:D}{v:V}(q:RD K ρ H d v):RD K ρ' H' d v:=by
 obtain⟨r,rfl,_⟩:=e.pre;exact q.mono (e.grow h) r
def RDs.ext(h:RH K ρ H hd)(e:Ext ρ H ρ' H'){d:List D}{v:List V}(q:RDs K ρ H d v):RDs K ρ' H' d v:=by
 obtain⟨r,rfl,_⟩:=e.pre;exact q.mono (e.grow h) r
def RL.ext(h:RH K ρ H hd)(e:Ext ρ H ρ' H'){ls:Ls}{σ:St}(q:RL K ρ H ls σ):RL K ρ' H' ls σ:=
 ⟨q.len,λi d z=>let ⟨v,a,b⟩:=q.ob i d z;⟨v,a,b.ext h e⟩⟩
def RDs.len:∀{ds:List D} {xs:List V},RDs K ρ H ds xs->xs.length=ds.length
 |[],xs,h=>by simp only[RDs]at h;rw[h];rfl
 |d::ds,xs,h=>by
  simp only[RDs]at h;obtain⟨x,r,rfl,_,z⟩:=h;simp[RDs.len z]
def RDs.get:∀{ds:List D} {xs:List V} {i:Nat} {d:D},RDs K ρ H ds xs->ds[i]?=some d->∃x,xs[i]?=some x/\RD K ρ H d x
 |[],xs,i,d,h,e=>by simp at e
 |d::ds,xs,0,e,h,q=>by
  simp only[RDs]at h;obtain⟨x,r,rfl,z,_⟩:=h;simp at q;subst q;exact⟨x,rfl,z⟩
 |d::ds,xs,i+1,e,h,q=>by
  simp only[RDs]at h;obtain⟨x,r,rfl,_,z⟩:=h;obtain⟨y,a,b⟩:=RDs.get (i:=i) z (by simpa using q);exact⟨y,by simpa using a,b⟩
def RDs.nil:RDs K ρ H [] []:=by simp[RDs]
def RDs.cons{d:D}{v:V}{ds:List D}{vs:List V}(h:RD K ρ H d v)(t:RDs K ρ H ds vs):RDs K ρ H (d::ds) (v::vs):=by
 simp only[RDs];exact⟨v,vs,rfl,h,t⟩
def RDs.app:∀{ds es:List D} {xs ys:List V},RDs K ρ H ds xs->RDs K ρ H es ys->RDs K ρ H (ds++es) (xs++ys)
 |[],es,xs,ys,h,t=>by simp only[RDs]at h;subst h;simpa using t
 |d::ds,es,xs,ys,h,t=>by
  simp only[RDs]at h;obtain⟨x,r,rfl,z,q⟩:=h;simp only[cons_append];exact .cons z (q.app t)
def RDs.set:∀{ds:List D} {xs:List V} {d:D} {v:V} (i:Nat),RDs K ρ H ds xs->RD K ρ H d v->RDs K ρ H (ds.set i d) (xs.set i v)
 |[],xs,d,v,i,h,t=>by simp only[RDs]at h;subst h;simp[RDs]
 |d::ds,xs,e,v,0,h,t=>by
  simp only[RDs]at h;obtain⟨x,r,rfl,z,q⟩:=h;simpa using RDs.cons t q
 |d::ds,xs,e,v,i+1,h,t=>by
  simp only[RDs]at h;obtain⟨x,r,rfl,z,q⟩:=h;simpa using RDs.cons z (q.set i t)
def RDs.drop:∀{ds:List D} {xs:List V} (n:Nat),RDs K ρ H ds xs->RDs K ρ H (ds.drop n) (xs.drop n)
 |ds,xs,0,h=>by simpa using h
 |[],xs,n+1,h=>by simp only[RDs]at h;subst h;simp[RDs]
 |d::ds,xs,n+1,h=>by
  simp only[RDs]at h;obtain⟨x,r,rfl,z,q⟩:=h;simpa using q.drop n
def RDs.take:∀{ds:List D} {xs:List V} (n:Nat),RDs K ρ H ds xs->RDs K ρ H (ds.take n) (xs.take n)
 |ds,xs,0,h=>by simp[RDs]
 |[],xs,n+1,h=>by simp only[RDs]at h;subst h;simp[RDs]
 |d::ds,xs,n+1,h=>by
  simp only[RDs]at h;obtain⟨x,r,rfl,z,q⟩:=h;simpa using RDs.cons z (q.take n)
def RIs.ds:∀{is:List I} {xs:List V},RIs K H is xs->RDs K ρ H (is.map D.im) xs
 |[],xs,h=>by simpa only[RIs,RDs,map_nil]using h
 |i::is,xs,h=>by
  simp only[RIs]at h;obtain⟨x,r,rfl,z,q⟩:=h;exact .cons (by simpa only[RD]using z) q.ds
def RDs.is:∀{is:List I} {xs:List V},RDs K ρ H (is.map D.im) xs->RIs K H is xs
 |[],xs,h=>by simpa only[RIs,RDs,map_nil]using h
 |i::is,xs,h=>by
  simp only[map_cons,RDs]at h;obtain⟨x,r,rfl,z,q⟩:=h;simp only[RIs];exact⟨x,r,rfl,by simpa only[RD]using z,q.is⟩
def RH.new(h:RH K ρ H hd){a:Addr}(ha:H a=none){o:MO}{ho:HO}(c:RC K ρ H o ho):RH K (ρ++[a]) (upd H a ho) (hd++[o])/\Ext ρ H (ρ++[a]) (upd H a ho):=by
 have out:a∉ρ:=λm=>by rcases h.mut m with⟨y,z⟩|⟨y,z⟩<;>(rw[ha]at z;cases z)
 have ex:Ext ρ H (ρ++[a]) (upd H a ho):=⟨⟨[a],rfl,λb m=>by simp at m;subst m;exact ha⟩,λb o q n _=>by rw[AH (AT q ha)];exact q,λb ps q=>⟨ps,by rw[AH (AT q ha)];exact q⟩⟩
 refine⟨⟨by simp[h.len],?_,h.tabs.upd (by simp[ha]) (by simp[ha]),λn o' b e1 e2=>?_⟩,ex⟩
 .rw[List.nodup_append];refine⟨h.nd,by simp,λx hx y hy z=>?_⟩;simp at hy;subst hy;subst z;exact out hx
 .have gr:=ex.grow h;by_cases hn:n<ρ.length
  .rw[List.getElem?_append_left hn]at e2;rw[List.getElem?_append_left (by rw[<- h.len];exact hn)]at e1;obtain⟨ho',q1,q2⟩:=h.ob n o' b e1 e2;exact⟨ho',by rw[AH (AT q1 ha)];exact q1,q2.mono gr [a]⟩
  .have hn':n=ρ.length:=by
    have:=(List.getElem?_eq_some_iff.mp e2).1;simp at this;omega
   subst hn';simp at e2;rw[h.len]at e1;simp at e1;subst e1;subst e2;exact⟨ho,AL,c.mono gr [a]⟩
def RH.put(h:RH K ρ H hd){n:Nat}{a:Addr}(hn:ρ[n]?=some a){o:MO}{ho:HO}(c:RC K ρ H o ho):RH K ρ (upd H a ho) (hd.set n o)/\Ext ρ H ρ (upd H a ho):=by
 have ha:=h.mut (mem_of_getElem? hn);have n1:∀ps,H a≠some (.tbl ps):=λps e=>by rcases ha with⟨y,z⟩|⟨y,z⟩<;>(rw[e]at z;cases z)
 have n2:∀φ,H a≠some (.ext φ):=λps e=>by rcases ha with⟨y,z⟩|⟨y,z⟩<;>(rw[e]at z;cases z)
 have ex:Ext ρ H ρ (upd H a ho):=⟨⟨[],by simp,by simp⟩,λb o q m _=>by
  have:b≠a:=λz=>m (by rw[z];exact mem_of_getElem? hn);rw[AH this];exact q,λb ps q=>⟨ps,(AH (show b≠a from λz=>n1 ps (by rw[<- z];exact q))).trans q⟩⟩
 have gr:=ex.grow h;refine⟨⟨by simp[h.len],h.nd,h.tabs.upd n1 n2,λm o' b e1 e2=>?_⟩,ex⟩;have hm:m<hd.length:=by rw[<- h.len];exact(List.getElem?_eq_some_iff.mp e2).1
 by_cases hmn:m=n
 .subst hmn;rw[hn]at e2;cases e2;rw[List.getElem?_set_self hm]at e1;cases e1;exact⟨ho,AL,by simpa using c.mono gr []⟩
 .rw[List.getElem?_set_ne (λz=>hmn z.symm)]at e1;obtain⟨ho',q1,q2⟩:=h.ob m o' b e1 e2;have:b≠a:=λz=>by
   subst z;have l1:=(List.getElem?_eq_some_iff.mp e2).1;have l2:=(List.getElem?_eq_some_iff.mp hn).1;exact hmn ((List.getElem?_inj l1 h.nd).mp (e2.trans hn.symm))
  exact⟨ho',by rw[AH this];exact q1,by simpa using q2.mono gr []⟩
def RH.lst(h:RH K ρ H hd){n:Nat}{a:Addr}{ds:List D}(hn:ρ[n]?=some a)(e:hd[n]?=some (.lst ds)):∃xs,H a=some (.lst xs)/\RDs K ρ H ds xs:=by
 obtain⟨ho,q,xs,rfl,r⟩:=h.ob n _ a e hn;exact⟨xs,q,r⟩
def RH.dic(h:RH K ρ H hd){n:Nat}{a:Addr}{ds:List (Key×D)}(hn:ρ[n]?=some a)(e:hd[n]?=some (.dic ds)):∃xs,H a=some (.dK xs)/\RKs K ρ H ds xs:=by
 obtain⟨ho,q,xs,rfl,r⟩:=h.ob n _ a e hn;exact⟨xs,q,r⟩
def RH.hid(h:RH K ρ H hd){a:Addr}(ha:H a=none){ho:HO}:RH K ρ (upd H a ho) hd/\Ext ρ H ρ (upd H a ho):=by
 have out:a∉ρ:=λm=>by rcases h.mut m with⟨y,z⟩|⟨y,z⟩<;>(rw[ha]at z;cases z)
 have ex:Ext ρ H ρ (upd H a ho):=⟨⟨[],by simp,by simp⟩,λb o q n _=>by rw[AH (AT q ha)];exact q,λb ps q=>⟨ps,by rw[AH (AT q ha)];exact q⟩⟩
 have gr:=ex.grow h;refine⟨⟨h.len,h.nd,h.tabs.upd (by simp[ha]) (by simp[ha]),λm o' b e1 e2=>?_⟩,ex⟩;obtain⟨ho',q1,q2⟩:=h.ob m o' b e1 e2;exact⟨ho',by rw[AH (AT q1 ha)];exact q1,by simpa using q2.mono gr []⟩
def RH.hput(h:RH K ρ H hd){a:Addr}(out:a∉ρ){xs:List V}{ho:HO}(hl:H a=some (.lst xs)):RH K ρ (upd H a ho) hd:=by
 have gr:Grow H (upd H a ho):=Grow.refl.put (.lst hl);refine⟨h.len,h.nd,h.tabs.upd (by simp[hl]) (by simp[hl]),λm o' b e1 e2=>?_⟩;obtain⟨ho',q1,q2⟩:=h.ob m o' b e1 e2;have:b≠a:=λz=>out (by rw[<- z];exact mem_of_getElem? e2);exact⟨ho',by rw[AH this];exact q1,by simpa using q2.mono gr []⟩
end
end L2
namespace L2
open PySem PySem.Spec PyProof.Rows
abbrev ME:=Ls->Hd->Option (D×Hd)
abbrev MT:=Ls->Hd->Option (Bool×Hd)
abbrev MA:=Ls->Hd->Option (List D×Hd)
inductive Fl where
 |nx (ls:Ls)|rt (d:D)|bk (ls:Ls)|ct (ls:Ls)
abbrev MS:=Ls->Hd->Option (Fl×Hd)
section
variable(K:PySem.W.Frag)
def RE(t:TE)(m:ME):Prop:=∀(ρ:List Addr) (σ:St) (H:Hp) (hd:Hd) (ls:Ls) (Q:VK) (d:D) (hd':Hd),RH K ρ H hd->RL K ρ H ls σ->m ls hd=some (d,hd') ->
 (∀ρ' H' v,Ext ρ H ρ' H'->RH K ρ' H' hd'->RD K ρ' H' d v->Q v H')->t σ H Q
def RT(t:TT)(m:MT):Prop:=∀(ρ:List Addr) (σ:St) (H:Hp) (hd:Hd) (ls:Ls) (Q:Bool->Hp->Prop) (d:Bool) (hd':Hd),RH K ρ H hd->RL K ρ H ls σ->m ls hd=some (d,hd') ->
 (∀ρ' H',Ext ρ H ρ' H'->RH K ρ' H' hd'->Q d H')->t σ H Q
def RA(t:TA)(m:MA):Prop:=∀(ρ:List Addr) (σ:St) (H:Hp) (hd:Hd) (ls:Ls) (Q:List V->Hp->Prop) (d:List D) (hd':Hd),RH K ρ H hd->RL K ρ H ls σ->m ls hd=some (d,hd') ->
 (∀ρ' H' v,Ext ρ H ρ' H'->RH K ρ' H' hd'->RDs K ρ' H' d v->Q v H')->t σ H Q
def RN(t:TE)(m:MA):Prop:=∀(ρ:List Addr) (σ:St) (H:Hp) (hd:Hd) (ls:Ls) (Q:VK) (d:List D) (hd':Hd),RH K ρ H hd->RL K ρ H ls σ->m ls hd=some (d,hd') ->
 (∀ρ' H' a xs,Ext ρ H ρ' H'->RH K ρ' H' hd'->H a=none->a∉ρ'->H' a=some (.lst xs)->RDs K ρ' H' d xs->Q (.ref a) H')->t σ H Q
def X8(E:Ends)(ρ:List Addr)(H:Hp):Fl->Prop
 |.nx ls=>∀σ,RL K ρ H ls σ->E.nx σ H
 |.bk ls=>∀σ,RL K ρ H ls σ->E.bk σ H
 |.ct ls=>∀σ,RL K ρ H ls σ->E.ct σ H
 |.rt d=>∀v,RD K ρ H d v->E.rt v H
def RS(t:TS)(m:MS):Prop:=∀(ρ:List Addr) (σ:St) (H:Hp) (hd:Hd) (ls:Ls) (E:Ends) (f:Fl) (hd':Hd),RH K ρ H hd->RL K ρ H ls σ->m ls hd=some (f,hd') ->
 (∀ρ' H',Ext ρ H ρ' H'->RH K ρ' H' hd'->X8 K E ρ' H' f)->t E σ H
def RB(r:R2)(f:D->D->Hd->Option (D×Hd)):Prop:=∀(ρ:List Addr) (H:Hp) (hd:Hd) (d e:D) (v u:V) (Q:VK) (z:D) (hd':Hd),RH K ρ H hd->RD K ρ H d v->RD K ρ H e u->f d e hd=some (z,hd') ->
 (∀ρ' H' w,Ext ρ H ρ' H'->RH K ρ' H' hd'->RD K ρ' H' z w->Q w H')->r v u H Q
def RF(r:List V->Hp->VK->Prop)(f:List D->Hd->Option (D×Hd)):Prop:=∀(ρ:List Addr) (H:Hp) (hd:Hd) (ds:List D) (vs:List V) (Q:VK) (z:D) (hd':Hd),RH K ρ H hd->RDs K ρ H ds vs->f ds hd=some (z,hd') ->
 (∀ρ' H' w,Ext ρ H ρ' H'->RH K ρ' H' hd'->RD K ρ' H' z w->Q w H')->r vs H Q
def RG(tp:Bool)(r:List V->Hp->VK->Prop)(g:List D->Option D):Prop:=∀(ρ:List Addr) (H:Hp) (hd:Hd) (a:Addr) (xs:List V) (ds:List D) (Q:VK) (z:D),RH K ρ H hd->(SqL K H a xs∨(tp=true/\SqT K H a xs))->RDs K ρ H ds xs->g ds=some z ->
 (∀H' w,Ext ρ H ρ H'->RH K ρ H' hd->RD K ρ H' z w->Q w H')->r [.ref a] H Q
end
structure QE(K:PySem.W.Frag)(X:Cx)(e:Expr)(t:TE)(m:ME):Prop where
 p:PE X e t
 r:RE K t m
structure QT(K:PySem.W.Frag)(X:Cx)(e:Expr)(t:TT)(m:MT):Prop where
 p:PT X e t
 r:RT K t m
structure QW(K:PySem.W.Frag)(X:Cx)(e:Expr)(t:TT)(m:MT):Prop where
 p:PW X e t
 r:RT K t m
structure QA(K:PySem.W.Frag)(X:Cx)(e:List Expr)(t:TA)(m:MA):Prop where
 p:PA X e t
 r:RA K t m
structure QN(K:PySem.W.Frag)(X:Cx)(e:Expr)(t:TE)(m:MA):Prop where
 p:PE X e t
 r:RN K t m
structure QS(K:PySem.W.Frag)(X:Cx)(e:Stmt)(t:TS)(m:MS):Prop where
 p:PS X e t
 r:RS K t m
structure QSs(K:PySem.W.Frag)(X:Cx)(e:List Stmt)(t:TS)(m:MS):Prop where
 p:PSs X e t
 r:RS K t m
def A9:D->Option (List D)
 |.im (.tup is)=>some (is.map .im)
 |.tm ds=>some ds
 |_=>none
def Ai(hd:Hd):D->Option (List D)
 |.mu n=>match hd[n]? with
  |some (.lst ds)=>some ds
  |_=>none
 |.ro ns=>some (ns.map λn=>.im (.int n))
 |_=>none
def Ad(hd:Hd)(d:D):Option (List D):=match A9 d with
 |some ds=>some ds
 |none=>Ai hd d
def Ap:List D->Option (List I)
 |[]=>some []
 |.im i::r=>(Ap r).map (i::·)
 |_::_=>none
def AD(ds:List D):D:=match Ap ds with
 |some is=>.im (.tup is)
 |none=>.tm ds
def Aw:List D->Option (List Int)
 |[]=>some []
 |.im (.int i)::r=>(Aw r).map (i::·)
 |_::_=>none
def Bx:List D->Option (List Bool)
 |[]=>some []
 |.im (.bl i)::r=>(Bx r).map (i::·)
 |_::_=>none
section
variable{K:PySem.W.Frag}{ρ ρ':List Addr}{H H':Hp}{hd hd':Hd}
def CM:∀{ds:List D} {is:List I},Ap ds=some is->ds=is.map .im
 |[],is,h=>by simp[Ap]at h;subst h;rfl
 |.im i::r,is,h=>by
  simp only[Ap,Option.map_eq_some_iff]at h;obtain⟨js,e,rfl⟩:=h;simp[CM e]
 |.mu _::_,is,h=>by simp[Ap]at h
 |.tm _::_,is,h=>by simp[Ap]at h
 |.ro _::_,is,h=>by simp[Ap]at h
def En:∀{ds:List D} {is:List Int},Aw ds=some is->ds=is.map λi=>.im (.int i)
 |[],is,h=>by simp[Aw]at h;subst h;rfl
 |.im (.int i)::r,is,h=>by
  simp only[Aw,Option.map_eq_some_iff]at h;obtain⟨js,e,rfl⟩:=h;simp[En e]
 |.im (.bl _)::_,is,h=>by simp[Aw]at h
 |.im (.str _)::_,is,h=>by simp[Aw]at h
 |.im .non::_,is,h=>by simp[Aw]at h
 |.im (.tup _)::_,is,h=>by simp[Aw]at h
 |.mu _::_,is,h=>by simp[Aw]at h
 |.tm _::_,is,h=>by simp[Aw]at h
 |.ro _::_,is,h=>by simp[Aw]at h
def Kw:∀{ds:List D} {is:List Bool},Bx ds=some is->ds=is.map λi=>.im (.bl i)
 |[],is,h=>by simp[Bx]at h;subst h;rfl
 |.im (.bl i)::r,is,h=>by
  simp only[Bx,Option.map_eq_some_iff]at h;obtain⟨js,e,rfl⟩:=h;simp[Kw e]
 |.im (.int _)::_,is,h=>by simp[Bx]at h
 |.im (.str _)::_,is,h=>by simp[Bx]at h
 |.im .non::_,is,h=>by simp[Bx]at h
 |.im (.tup _)::_,is,h=>by simp[Bx]at h
 |.mu _::_,is,h=>by simp[Bx]at h
 |.tm _::_,is,h=>by simp[Bx]at h
 |.ro _::_,is,h=>by simp[Bx]at h
@[simp] theorem O4(is:List I):Ap (is.map .im)=some is:=by induction is<;>simp_all [Ap]
@[simp] theorem FJ(is:List Int):Aw (is.map λi=>.im (.int i))=some is:=by induction is<;>simp_all [Aw]
@[simp] theorem Ju(is:List Bool):Bx (is.map λi=>.im (.bl i))=some is:=by induction is<;>simp_all [Bx]
def KW:∀{ns:List Int} {xs:List V},RDs K ρ H (ns.map λi=>.im (.int i)) xs->xs=ns.map V.int
 |[],xs,h=>by simpa [RDs]using h
 |n::ns,xs,h=>by
  simp only[map_cons,RDs,RD,RI]at h;obtain⟨x,r,rfl,rfl,z⟩:=h;rw[KW z];rfl
def DP:∀{ns:List Int},RDs K ρ H (ns.map λi=>.im (.int i)) (ns.map V.int)
 |[]=>by simp[RDs]
 |n::ns=>by simp only[map_cons];exact .cons (by simp[RD,RI]) DP
def Mw:∀{ns:List Bool} {xs:List V},RDs K ρ H (ns.map λi=>.im (.bl i)) xs->xs=ns.map V.bl
 |[],xs,h=>by simpa [RDs]using h
 |n::ns,xs,h=>by
  simp only[map_cons,RDs,RD,RI]at h;obtain⟨x,r,rfl,rfl,z⟩:=h;rw[Mw z];rfl
def RD.tup{d:D}{v:V}{ds:List D}(h:RD K ρ H d v)(e:A9 d=some ds):∃a xs,v=.ref a/\SqT K H a xs/\RDs K ρ H ds xs:=by
 cases d with
 |im i=>
  cases i with
  |tup is=>
   simp only[A9,Option.some.injEq]at e;subst e;simp only[RD,RI]at h;obtain⟨a,xs,rfl,q,r⟩:=h;exact⟨a,xs,rfl,q,r.ds⟩
  |_=>simp[A9]at e
 |tm es=>
  simp only[A9,Option.some.injEq]at e;subst e;simpa only[RD]using h
 |_=>simp[A9]at e
def RD.lst{d:D}{v:V}{ds:List D}(hR:RH K ρ H hd)(h:RD K ρ H d v)(e:Ai hd d=some ds):∃a xs,v=.ref a/\SqL K H a xs/\RDs K ρ H ds xs:=by
 cases d with
 |mu n=>
  simp only[Ai]at e;simp only[RD]at h;obtain⟨a,hn,rfl⟩:=h;split at e
  .next q=>
   cases e;obtain⟨xs,e1,e2⟩:=hR.lst hn q;exact⟨a,xs,rfl,SqL.of e1,e2⟩
  .cases e
 |ro ns=>
  simp only[Ai,Option.some.injEq]at e;subst e;simp only[RD]at h;obtain⟨a,rfl,q⟩:=h;exact⟨a,_,rfl,q.sq,DP⟩
 |_=>simp[Ai]at e
def RD.seq{d:D}{v:V}{ds:List D}(hR:RH K ρ H hd)(h:RD K ρ H d v)(e:Ad hd d=some ds):∃a xs,v=.ref a/\(SqL K H a xs∨SqT K H a xs)/\RDs K ρ H ds xs:=by
 unfold Ad at e;split at e
 .next q=>
  cases e;obtain⟨a,xs,e1,e2,e3⟩:=h.tup q;exact⟨a,xs,e1,.inr e2,e3⟩
 .obtain⟨a,xs,e1,e2,e3⟩:=h.lst hR e;exact⟨a,xs,e1,.inl e2,e3⟩
def Az{ds:List D}{a:Addr}{xs:List V}(q:SqT K H a xs)(r:RDs K ρ H ds xs):RD K ρ H (AD ds) (.ref a):=by
 unfold AD;split
 .next e=>
  rw[CM e]at r;simp only[RD,RI];exact⟨a,xs,rfl,q,r.is⟩
 .simp only[RD];exact⟨a,xs,rfl,q,r⟩
@[simp] theorem A8(ds:List D):A9 (AD ds)=some ds:=by
 unfold AD;split
 .next e=>simp[A9,CM e]
 .rfl
def A1(i:Nat):ME:=λls hd=>match ls[i]? with
 |some (some d)=>some (d,hd)
 |_=>none
def U4{i:Nat}:RE K (OG i) (A1 i):=by
 and_intros;unfold A1 at hm;split at hm
 .next e=>
  cases hm;obtain⟨v,e1,e2⟩:=hL.ob i _ e;exact⟨v,e1,hQ ρ H v .refl hR e2⟩
 .cases hm
def mC(i:I):ME:=λ_ hd=>some (.im i,hd)
def LY{v:V}{i:I}(h:∀H,RI K H i v):RE K (tC v) (mC i):=by
 and_intros;cases hm;exact hQ ρ H v .refl hR (by simpa only[RD]using h H)
def mOp(f:D->D->Hd->Option (D×Hd))(ma mb:ME):ME:=λls hd=>(ma ls hd).bind λp=>(mb ls p.2).bind λq=>f p.1 q.1 q.2
def Ia{r:R2}{f:D->D->Hd->Option (D×Hd)}{ta tb:TE}{ma mb:ME}(hr:RB K r f)(ha:RE K ta ma)(hb:RE K tb mb):RE K (tOp r ta tb) (mOp f ma mb):=by
 and_intros;obtain⟨⟨d1,h1⟩,e1,hm⟩:=Yp hm;obtain⟨⟨d2,h2⟩,e2,hm⟩:=Yp hm;refine ha ρ σ H hd ls _ d1 h1 hR hL e1 λρ1 H1 v1 x1 R1 r1=>?_;refine hb ρ1 σ H1 h1 ls _ d2 h2 R1 (hL.ext hR x1) e2 λρ2 H2 v2 x2 R2 r2=>?_;exact hr ρ2 H2 h2 d1 d2 v1 v2 Q d hd' R2 (r1.ext R1 x2) r2 hm λρ' H' w x3 R3 r3=>hQ ρ' H' w ((x1.trans R1 x2).trans R2 x3) R3 r3
def Dg(ta tb:MT):MT:=λls hd=>(ta ls hd).bind λp=>if p.1=true then tb ls p.2 else some (false,p.2)
def mOr(ta tb:MT):MT:=λls hd=>(ta ls hd).bind λp=>if p.1=true then some (true,p.2)else tb ls p.2
def GC(ta:MT):MT:=λls hd=>(ta ls hd).bind λp=>some (!p.1,p.2)
def Tm{ta tb:TT}{ma mb:MT}(ha:RT K ta ma)(hb:RT K tb mb):RT K (OT ta tb) (Dg ma mb):=by
 and_intros;obtain⟨⟨d1,h1⟩,e1,hm⟩:=Yp hm;refine ha ρ σ H hd ls _ d1 h1 hR hL e1 λρ1 H1 x1 R1=>?_;cases d1 with
 |true=>
  rw[if_pos rfl]at hm ⊢;exact hb ρ1 σ H1 h1 ls Q d hd' R1 (hL.ext hR x1) hm λρ2 H2 x2 R2=>hQ ρ2 H2 (x1.trans R1 x2) R2
 |false=>
  rw[if_neg Bool.false_ne_true]at hm ⊢;cases hm;exact hQ ρ1 H1 x1 R1
def WR{ta tb:TT}{ma mb:MT}(ha:RT K ta ma)(hb:RT K tb mb):RT K (tOr ta tb) (mOr ma mb):=by
 and_intros;obtain⟨⟨d1,h1⟩,e1,hm⟩:=Yp hm;refine ha ρ σ H hd ls _ d1 h1 hR hL e1 λρ1 H1 x1 R1=>?_;cases d1 with
 |true=>
  rw[if_pos rfl]at hm ⊢;cases hm;exact hQ ρ1 H1 x1 R1
 |false=>
  rw[if_neg Bool.false_ne_true]at hm ⊢;exact hb ρ1 σ H1 h1 ls Q d hd' R1 (hL.ext hR x1) hm λρ2 H2 x2 R2=>hQ ρ2 H2 (x1.trans R1 x2) R2
def Tl{ta:TT}{ma:MT}(ha:RT K ta ma):RT K (OL ta) (GC ma):=by
 and_intros;obtain⟨⟨d1,h1⟩,e1,hm⟩:=Yp hm;cases hm;exact ha ρ σ H hd ls _ d1 h1 hR hL e1 λρ1 H1 x1 R1=>hQ ρ1 H1 x1 R1
open Classical in
def CU(hd:Hd):D->Option Bool
 |.im .non=>some false
 |.im (.bl b)=>some b
 |.im (.int i)=>some (i != 0)
 |.im (.str x)=>if BB x.length then some ((x.length:Int) != 0)else none
 |.im (.tup is)=>some (!is.isEmpty)
 |.tm is=>some (!is.isEmpty)
 |.ro ns=>some (!ns.isEmpty)
 |.mu n=>match hd[n]? with
  |some (.lst ds)=>some (!ds.isEmpty)
  |some (.dic ds)=>some (!ds.isEmpty)
  |none=>none
def C7{α β:Type}{xs:List α}{ys:List β}(h:xs.length=ys.length):xs.isEmpty=ys.isEmpty:=by
 cases xs<;>cases ys<;>simp_all
def RKs.len:∀{ds:List (Key×D)} {xs:List (Key×V)},RKs K ρ H ds xs->xs.length=ds.length
 |[],xs,h=>by simp only[RKs]at h;rw[h];rfl
 |d::ds,xs,h=>by
  simp only[RKs]at h;obtain⟨x,r,rfl,_,_,z⟩:=h;simp[RKs.len z]
def Qe{d:D}{v:V}{b:Bool}(hR:RH K ρ H hd)(h:RD K ρ H d v)(e:CU hd d=some b):Jx K v H b:=by
 cases d with
 |im i=>
  cases i with
  |non=>simp only[RD,RI]at h;subst h;simp only[CU,Option.some.injEq]at e;subst e;exact rfl
  |bl c=>simp only[RD,RI]at h;subst h;simp only[CU,Option.some.injEq]at e;subst e;exact rfl
  |int c=>simp only[RD,RI]at h;subst h;simp only[CU,Option.some.injEq]at e;subst e;exact rfl
  |str c=>
   simp only[RD,RI]at h;subst h;simp only[CU]at e;split at e
   .next z=>cases e;exact⟨z,rfl⟩
   .cases e
  |tup is=>
   obtain⟨a,xs,rfl,q,r⟩:=h.tup (ds:=is.map .im) rfl;simp only[CU,Option.some.injEq]at e;subst e;exact .inr (.inl ⟨xs,q,by rw[C7 (show xs.length=is.length by simpa using r.len)]⟩)
 |tm ds=>
  obtain⟨a,xs,rfl,q,r⟩:=h.tup (ds:=ds) rfl;simp only[CU,Option.some.injEq]at e;subst e;exact .inr (.inl ⟨xs,q,by rw[C7 r.len]⟩)
 |ro ns=>
  obtain⟨a,xs,rfl,q,r⟩:=h.lst hR (hd:=hd) (ds:=ns.map λn=>.im (.int n)) rfl;simp only[CU,Option.some.injEq]at e;subst e;exact .inl ⟨xs,q,by rw[C7 (show xs.length=ns.length by simpa using r.len)]⟩
 |mu n=>
  simp only[RD]at h;obtain⟨a,hn,rfl⟩:=h;simp only[CU]at e;split at e
  .next q=>
   cases e;obtain⟨xs,e1,e2⟩:=hR.lst hn q;exact .inl ⟨xs,SqL.of e1,by rw[C7 e2.len]⟩
  .next q=>
   cases e;obtain⟨xs,e1,e2⟩:=hR.dic hn q;exact .inr (.inr ⟨xs,e1,by rw[C7 e2.len]⟩)
  .cases e
def Br(ma:ME):MT:=λls hd=>(ma ls hd).bind λp=>(CU p.2 p.1).map (·,p.2)
def OZ{ta:TE}{ma:ME}(ha:RE K ta ma):RT K (λσ H Q=>ta σ H λx H'=>∃k,Jx K x H' k/\Q k H') (Br ma):=by
 and_intros;obtain⟨⟨d1,h1⟩,e1,hm⟩:=Yp hm;obtain⟨b,e2,e3⟩:=Yq hm;cases e3;exact ha ρ σ H hd ls _ d1 h1 hR hL e1 λρ1 H1 v x1 R1 r1=>⟨_,Qe R1 r1 e2,hQ ρ1 H1 x1 R1⟩
def AJ(ma:ME):MT:=λls hd=>(ma ls hd).bind λp=>match p.1 with
 |.im (.bl b)=>some (b,p.2)
 |_=>none
def DM{ta:TE}{ma:ME}(ha:RE K ta ma):RT K (FY ta) (AJ ma):=by
 and_intros;obtain⟨⟨d1,h1⟩,e1,hm⟩:=Yp hm;dsimp only at hm;split at hm
 .cases hm;exact ha ρ σ H hd ls _ _ _ hR hL e1 λρ1 H1 v x1 R1 r1=>⟨_,by simpa only[RD,RI]using r1,hQ ρ1 H1 x1 R1⟩
 .cases hm
def mIf(c:MT)(ma mb:ME):ME:=λls hd=>(c ls hd).bind λp=>if p.1=true then ma ls p.2 else mb ls p.2
def WY{tc:TT}{c:MT}{ta tb:TE}{ma mb:ME}(hc:RT K tc c)(ha:RE K ta ma)(hb:RE K tb mb):RE K (tIf tc ta tb) (mIf c ma mb):=by
 and_intros;obtain⟨⟨d1,h1⟩,e1,hm⟩:=Yp hm;refine hc ρ σ H hd ls _ d1 h1 hR hL e1 λρ1 H1 x1 R1=>?_;cases d1 with
 |true=>
  rw[if_pos rfl]at hm ⊢;exact ha ρ1 σ H1 h1 ls Q d hd' R1 (hL.ext hR x1) hm λρ2 H2 v x2 R2 r2=>hQ ρ2 H2 v (x1.trans R1 x2) R2 r2
 |false=>
  rw[if_neg Bool.false_ne_true]at hm ⊢;exact hb ρ1 σ H1 h1 ls Q d hd' R1 (hL.ext hR x1) hm λρ2 H2 v x2 R2 r2=>hQ ρ2 H2 v (x1.trans R1 x2) R2 r2
def El(ma mb:ME):ME:=λls hd=>(AJ ma ls hd).bind λp=>if p.1=true then mb ls p.2 else some (.im (.bl false),p.2)
def XQ(ma mb:ME):ME:=λls hd=>(AJ ma ls hd).bind λp=>if p.1=true then some (.im (.bl true),p.2)else mb ls p.2
def DE(ma:ME):ME:=λls hd=>(AJ ma ls hd).bind λp=>some (.im (.bl (!p.1)),p.2)
def Re{ta tb:TE}{ma mb:ME}(ha:RE K ta ma)(hb:RE K tb mb):RE K (LO ta tb) (El ma mb):=by
 and_intros;obtain⟨⟨d1,h1⟩,e1,hm⟩:=Yp hm;refine DM ha ρ σ H hd ls (λc H1=>if c=true then tb σ H1 Q else Q (.bl false) H1) d1 h1 hR hL e1 λρ1 H1 x1 R1=>?_;cases d1 with
 |true=>
  rw[if_pos rfl]at hm ⊢;exact hb ρ1 σ H1 h1 ls Q d hd' R1 (hL.ext hR x1) hm λρ2 H2 v x2 R2 r2=>hQ ρ2 H2 v (x1.trans R1 x2) R2 r2
 |false=>
  rw[if_neg Bool.false_ne_true]at hm ⊢;cases hm;exact hQ ρ1 H1 _ x1 R1 (by simp[RD,RI])
def RX{ta:TE}{ma:ME}(ha:RE K ta ma):RE K (LK ta) (DE ma):=by
 and_intros;obtain⟨⟨d1,h1⟩,e1,hm⟩:=Yp hm;cases hm;exact DM ha ρ σ H hd ls (λc H1=>Q (.bl (!c)) H1) d1 h1 hR hL e1 λρ1 H1 x1 R1=>hQ ρ1 H1 _ x1 R1 (by simp[RD,RI])
def A4:MA:=λ_ hd=>some ([],hd)
def A0(ma:ME)(mr:MA):MA:=λls hd=>(ma ls hd).bind λp=>(mr ls p.2).bind λq=>some (p.1::q.1,q.2)
def UM:RA K Bh A4:=by
 and_intros;cases hm;exact hQ ρ H [] .refl hR .nil
def Rj{ta:TE}{tr:TA}{ma:ME}{mr:MA}(ha:RE K ta ma)(hr:RA K tr mr):RA K (BD ta tr) (A0 ma mr):=by
 and_intros;obtain⟨⟨d1,h1⟩,e1,hm⟩:=Yp hm;obtain⟨⟨d2,h2⟩,e2,hm⟩:=Yp hm;cases hm;refine ha ρ σ H hd ls _ d1 h1 hR hL e1 λρ1 H1 v1 x1 R1 r1=>?_;exact hr ρ1 σ H1 h1 ls _ d2 _ R1 (hL.ext hR x1) e2 λρ2 H2 v2 x2 R2 r2=>hQ ρ2 H2 _ (x1.trans R1 x2) R2 (.cons (r1.ext R1 x2) r2)
open Classical in
def AS(ma:MA):ME:=λls hd=>(ma ls hd).bind λp=>if BB p.1.length then some (AD p.1,p.2)else none
def U6{t:TA}{m:MA}(h:RA K t m):RE K (OH t) (AS m):=by
 and_intros;obtain⟨⟨d1,h1⟩,e1,hm⟩:=Yp hm;dsimp only at hm;split at hm
 .next z=>
  cases hm;refine h ρ σ H hd ls _ d1 _ hR hL e1 λρ1 H1 v1 x1 R1 r1=>⟨by rw[r1.len];exact z,λp hp=>?_⟩
  obtain⟨R2,x2⟩:=R1.hid (ho:=.tup v1) hp;exact hQ ρ1 _ _ (x1.trans R1 x2) R2 (Az (SqT.of AL) (r1.ext R1 x2))
 .cases hm
open Classical in
def AV(ma:MA):MA:=λls hd=>(ma ls hd).bind λp=>if BB p.1.length then some (p.1,p.2)else none
def RH.out(hR:RH K ρ H hd){a:Addr}(h:H a=none):a∉ρ:=λm=>by rcases hR.mut m with⟨y,z⟩|⟨y,z⟩<;>(rw[h]at z;cases z)
def Ext.none(e:Ext ρ H ρ' H')(hR:RH K ρ H hd){a:Addr}(h:H' a=none)(hR':RH K ρ' H' hd'):H a=none:=by
 cases q:H a with
 |none=>rfl
 |some o=>
  by_cases m:a∈ρ
  .obtain⟨r,rfl,_⟩:=e.pre;exact absurd (List.mem_append_left r m) (hR'.out h)
  .by_cases t:∃ps,o=.tbl ps
   .obtain⟨ps,rfl⟩:=t;obtain⟨ps',this⟩:=e.tab a ps q;rw[h]at this;cases this
   .rw[e.keep a o q m λps y=>t ⟨ps,y⟩]at h;cases h
def Tu{t:TA}{m:MA}(h:RA K t m):RN K (OM t) (AV m):=by
 and_intros;obtain⟨⟨d1,h1⟩,e1,hm⟩:=Yp hm;dsimp only at hm;split at hm
 .next z=>
  cases hm;refine h ρ σ H hd ls _ _ _ hR hL e1 λρ1 H1 v1 x1 R1 r1=>⟨by rw[r1.len];exact z,λp hp=>?_⟩
  obtain⟨R2,x2⟩:=R1.hid (ho:=.lst v1) hp;exact hQ ρ1 _ p v1 (x1.trans R1 x2) R2 (x1.none hR hp R1) (R1.out hp) AL (r1.ext R1 x2)
 .cases hm
def AY(ml:MA):ME:=λls hd=>(ml ls hd).bind λp=>some (.mu p.2.length,p.2++[.lst p.1])
def RH.name(hR:RH K ρ H hd){a:Addr}{xs:List V}{ds:List D}(out:a∉ρ)(e:H a=some (.lst xs))(r:RDs K ρ H ds xs):RH K (ρ++[a]) H (hd++[.lst ds]):=by
 have mono:∀{o:MO} {ho:HO},RC K ρ H o ho->RC K (ρ++[a]) H o ho:=λc=>c.mono Grow.refl [a];refine⟨by simp[hR.len],?_,hR.tabs,λn o' b e1 e2=>?_⟩
 .rw[List.nodup_append];refine⟨hR.nd,by simp,λx hx y hy z=>?_⟩;simp at hy;subst hy;subst z;exact out hx
 .by_cases hn:n<ρ.length
  .rw[List.getElem?_append_left hn]at e2;rw[List.getElem?_append_left (by rw[<- hR.len];exact hn)]at e1;obtain⟨ho',q1,q2⟩:=hR.ob n o' b e1 e2;exact⟨ho',q1,mono q2⟩
  .have hn':n=ρ.length:=by
    have:=(List.getElem?_eq_some_iff.mp e2).1;simp at this;omega
   subst hn';simp at e2;rw[hR.len]at e1;simp at e1;subst e1;subst e2;exact⟨_,e,mono ⟨xs,rfl,r⟩⟩
def Ext.name(e:Ext ρ H ρ' H'){a:Addr}(h:H a=Option.none):Ext ρ H (ρ'++[a]) H':=by
 obtain⟨r,rfl,f⟩:=e.pre;refine⟨⟨r++[a],by simp,λb m=>?_⟩,e.keep,e.tab⟩;rcases mem_append.mp m with m|m
 .exact f b m
 .simp at m;subst m;exact h
def Mt{t:TE}{m:MA}(h:RN K t m):RE K t (AY m):=by
 and_intros;obtain⟨⟨d1,h1⟩,e1,hm⟩:=Yp hm;cases hm;refine h ρ σ H hd ls Q d1 h1 hR hL e1 λρ1 H1 a xs x1 R1 na oa ea r1=>?_;refine hQ (ρ1++[a]) H1 _ (x1.name na) (R1.name oa ea r1) ?_;simp only[RD];exact⟨a,by rw[<- R1.len];simp,rfl⟩
end
section
variable{K:PySem.W.Frag}{ρ ρ':List Addr}{H H':Hp}{hd hd':Hd}
def fI(g:Int->Int->Option I):D->D->Hd->Option (D×Hd)
 |.im (.int i),.im (.int j),hd=>(g i j).map (.im ·,hd)
 |_,_,_=>none
def LZ{C:Int->Int->Prop}{g:Int->Int->V}{f:Int->Int->Option I}(h:∀i j z,f i j=some z->C i j/\∀H,RI K H z (g i j)):RB K (rI C g) (fI f):=by
 intro ρ H hd d e v u Q z hd' hR h1 h2 hf hQ;unfold fI at hf;split at hf
 .simp only[RD,RI]at h1 h2;subst h1 h2;obtain⟨w,e1,e2⟩:=Yq hf;cases e2;obtain⟨c,r⟩:=h _ _ _ e1;exact⟨_,_,rfl,rfl,c,hQ ρ H _ .refl hR (by simpa only[RD]using r H)⟩
 .cases hf
def Gb{g:Int->Int->V}{f:Int->Int->I}(h:∀i j H,RI K H (f i j) (g i j)):RB K (rI0 g) (fI λi j=>some (f i j)):=by
 intro ρ H hd d e v u Q z hd' hR h1 h2 hf hQ;unfold fI at hf;split at hf
 .simp only[RD,RI]at h1 h2;subst h1 h2;cases hf;exact⟨_,_,rfl,rfl,hQ ρ H _ .refl hR (by simpa only[RD]using h _ _ H)⟩
 .cases hf
def Bc(f g:D->D->Hd->Option (D×Hd)):D->D->Hd->Option (D×Hd):=λd e hd=>match f d e hd with
 |some z=>some z
 |none=>g d e hd
def DN{r r':R2}{f g:D->D->Hd->Option (D×Hd)}(h:RB K r f)(h':RB K r' g):RB K (λx y H Q=>r x y H Q∨r' x y H Q) (Bc f g):=by
 intro ρ H hd d e v u Q z hd' hR h1 h2 hf hQ;unfold Bc at hf;split at hf
 .next q=>cases hf;exact .inl (h ρ H hd d e v u Q z hd' hR h1 h2 q hQ)
 .exact .inr (h' ρ H hd d e v u Q z hd' hR h1 h2 hf hQ)
abbrev Hh:D->D->Hd->Option (D×Hd):=fI λi j=>some (.int (i+j))
abbrev Bp:D->D->Hd->Option (D×Hd):=fI λi j=>some (.int (i-j))
def Mz:RB K (rI0 λi j=>.int (i+j)) Hh:=Gb λ_ _ _=>by simp[RI]
def UF:RB K (rI0 λi j=>.int (i-j)) Bp:=Gb λ_ _ _=>by simp[RI]
open Classical in
abbrev Cf:D->D->Hd->Option (D×Hd):=fI λi j=>if Dt i j then some (.int (i*j))else none
def UK:RB K (rI CMul λi j=>.int (i*j)) Cf:=LZ λi j z h=>by
 split at h
 .next q=>cases h;exact⟨q,λ_=>by simp[RI]⟩
 .cases h
open Classical in
abbrev BR:D->D->Hd->Option (D×Hd):=fI λi j=>if Bm j then some (.int (i%j))else none
def UL:RB K (rI (λ_ j=>0<j) λi j=>.int (i%j)) BR:=LZ λi j z h=>by
 split at h
 .next q=>cases h;exact⟨q,λ_=>by simp[RI]⟩
 .cases h
open Classical in
abbrev Dv:D->D->Hd->Option (D×Hd):=fI λi j=>if Ik j then some (.int (i/j))else none
def Rg:RB K (rI WC λi j=>.int (i/j)) Dv:=LZ λi j z h=>by
 split at h
 .next q=>cases h;exact⟨q,λ_=>by simp[RI]⟩
 .cases h
open Classical in
abbrev GG:D->D->Hd->Option (D×Hd):=fI λi j=>if Ic i j then some (.int (i^j.toNat))else none
def UG:RB K (rI WB λi j=>.int (i^j.toNat)) GG:=LZ λi j z h=>by
 split at h
 .next q=>cases h;exact⟨q,λ_=>by simp[RI]⟩
 .cases h
abbrev gLt:D->D->Hd->Option (D×Hd):=fI λi j=>some (.bl (decide (i<j)))
abbrev gLe:D->D->Hd->Option (D×Hd):=fI λi j=>some (.bl (decide (i<=j)))
abbrev gGt:D->D->Hd->Option (D×Hd):=fI λi j=>some (.bl (decide (j<i)))
abbrev gGe:D->D->Hd->Option (D×Hd):=fI λi j=>some (.bl (decide (j<=i)))
def Py:RB K (rI0 λi j=>.bl (decide (i<j))) gLt:=Gb λ_ _ _=>by simp[RI]
def Wb:RB K (rI0 λi j=>.bl (decide (j<i))) gGt:=Gb λ_ _ _=>by simp[RI]
def Wc:RB K (rI0 λi j=>.bl (decide (j<=i))) gGe:=Gb λ_ _ _=>by simp[RI]
def scI:I->Option V
 |.non=>some .non
 |.bl b=>some (.bl b)
 |.int i=>some (.int i)
 |.str x=>some (.str x)
 |.tup _=>none
def GY{i:I}{v w:V}(e:scI i=some w)(h:RI K H i v):v=w:=by
 cases i with
 |tup _=>simp[scI]at e
 |_=>simp only[scI,Option.some.injEq]at e;subst e;simpa only[RI]using h
def E7(neg:Bool):D->D->Hd->Option (D×Hd)
 |.im i,.im j,hd=>match scI i,scI j with
  |some x,some y=>if J9 x y=true then some (.im (.bl (if neg then !decide (x=y)else decide (x=y))),hd)else none
  |_,_=>none
 |_,_,_=>none
def Mx:RB K rEq (E7 false):=by
 intro ρ H hd d e v u Q z hd' hR h1 h2 hf hQ;unfold E7 at hf;split at hf
 .split at hf
  .next x y e1 e2=>
   split at hf
   .next s=>
    cases hf;simp only[RD]at h1 h2;rw[GY e1 h1,GY e2 h2];exact⟨s,hQ ρ H _ .refl hR (by simp[RD,RI])⟩
   .cases hf
  .cases hf
 .cases hf
def UH:RB K rNe (E7 true):=by
 intro ρ H hd d e v u Q z hd' hR h1 h2 hf hQ;unfold E7 at hf;split at hf
 .split at hf
  .next x y e1 e2=>
   split at hf
   .next s=>
    cases hf;simp only[RD]at h1 h2;rw[GY e1 h1,GY e2 h2];exact⟨s,hQ ρ H _ .refl hR (by simp[RD,RI])⟩
   .cases hf
  .cases hf
 .cases hf
mutual
def I.py:I->PyData
 |.non=>.none
 |.bl b=>.bool b
 |.int i=>.int i
 |.str x=>.str x
 |.tup ds=>.tuple (I.pys ds)
def I.pys:List I->List PyData
 |[]=>[]
 |d::ds=>I.py d::I.pys ds
end
mutual
def RI.rep:∀{i:I} {v:V},RI K H i v->Rep K H i.py v
 |.non,v,h=>by simpa only[RI,I.py,Rep]using h
 |.bl _,v,h=>by simpa only[RI,I.py,Rep]using h
 |.int _,v,h=>by simpa only[RI,I.py,Rep]using h
 |.str _,v,h=>by simpa only[RI,I.py,Rep]using h
 |.tup ds,v,h=>by
  simp only[RI]at h;obtain⟨a,xs,e,q,r⟩:=h;simp only[I.py,Rep];exact⟨a,xs,e,q,RIs.rep r⟩
def RIs.rep:∀{i:List I} {v:List V},RIs K H i v->BC K H (I.pys i) v
 |[],v,h=>by simpa only[RIs,I.pys,BC]using h
 |d::ds,v,h=>by
  simp only[RIs]at h;obtain⟨x,r,e,q,z⟩:=h;simp only[I.pys,BC];exact⟨x,r,e,q.rep,RIs.rep z⟩
end
def pyD(hd:Hd):D->Option PyData
 |.im i=>some i.py
 |.mu n=>match hd[n]? with
  |some (.lst ds)=>(Ap ds).map λis=>.list (I.pys is)
  |_=>none
 |.ro ns=>some (.list (I.pys (ns.map I.int)))
 |_=>none
def Cm{d:D}{v:V}{p:PyData}(hR:RH K ρ H hd)(h:RD K ρ H d v)(e:pyD hd d=some p):Rep K H p v:=by
 cases d with
 |im i=>simp only[pyD,Option.some.injEq]at e;subst e;simp only[RD]at h;exact h.rep
 |mu n=>
  simp only[pyD]at e;simp only[RD]at h;obtain⟨a,hn,rfl⟩:=h;split at e
  .next q=>
   obtain⟨is,e1,rfl⟩:=Yq e;obtain⟨xs,e2,e3⟩:=hR.lst hn q;rw[CM e1]at e3;simp only[Rep];exact⟨a,xs,rfl,SqL.of e2,e3.is.rep⟩
  .cases e
 |ro ns=>
  simp only[pyD,Option.some.injEq]at e;subst e;obtain⟨a,xs,rfl,q,r⟩:=h.lst hR (hd:=hd) (ds:=ns.map λn=>.im (.int n)) rfl;simp only[Rep];refine⟨a,xs,rfl,q,RIs.rep (RDs.is (ρ:=ρ) ?_)⟩;rw[map_map];exact r
 |tm _=>simp[pyD]at e
def He(neg:Bool):D->D->Hd->Option (D×Hd):=λd e hd=>match pyD hd d,pyD hd e with
 |some x,some y=>if x.canLay0=true/\y.canLay0=true/\min x.depth y.depth<=60 then some (.im (.bl (if neg then !PyData.eqv x y else PyData.eqv x y)),hd)else none
 |_,_=>none
def My:RB K (Os K) (He false):=by
 intro ρ H hd d e v u Q z hd' hR h1 h2 hf hQ;unfold He at hf;split at hf
 .next e1 e2=>
  split at hf
  .next c=>cases hf;exact⟨_,_,Cm hR h1 e1,Cm hR h2 e2,c.1,c.2.1,c.2.2,hQ ρ H _ .refl hR (by simp[RD,RI])⟩
  .cases hf
 .cases hf
def UI:RB K (Lf K) (He true):=by
 intro ρ H hd d e v u Q z hd' hR h1 h2 hf hQ;unfold He at hf;split at hf
 .next e1 e2=>
  split at hf
  .next c=>cases hf;exact⟨_,_,Cm hR h1 e1,Cm hR h2 e2,c.1,c.2.1,c.2.2,hQ ρ H _ .refl hR (by simp[RD,RI])⟩
  .cases hf
 .cases hf
abbrev gEq:=Bc (E7 false) (He false)
abbrev gNe:=Bc (E7 true) (He true)
def gIx:D->D->Hd->Option (D×Hd)
 |d,.im (.int i),hd=>(Ad hd d).bind λds=>(atI ds i).map (·,hd)
 |_,_,_=>none
def Kx{α β:Type}{xs:List α}{ys:List β}{i:Int}{y:β}(h:xs.length=ys.length)(e:atI ys i=some y):∃(j:Nat),ys[j]?=some y/\∀x,xs[j]?=some x->atI xs i=some x:=by
 unfold atI at e;obtain⟨j,e1,e2⟩:=Yp e;exact⟨j,e2,λx q=>by unfold atI;rw[h,e1];exact q⟩
def Ib(K:PySem.W.Frag):R2:=λx y H Q=>Oq K x y H Q∨Op K x y H Q
def WZ:RB K (Ib K) gIx:=by
 intro ρ H hd d e v u Q z hd' hR h1 h2 hf hQ;unfold gIx at hf;split at hf
 .obtain⟨ds,e1,hf⟩:=Yp hf;obtain⟨w,e2,e3⟩:=Yq hf;cases e3;obtain⟨a,xs,rfl,q,r⟩:=h1.seq hR e1;simp only[RD,RI]at h2;subst h2;obtain⟨j,j1,j2⟩:=Kx r.len e2;obtain⟨x,x1,x2⟩:=r.get j1;rcases q with q|q
  .exact .inl ⟨a,xs,_,x,rfl,rfl,q,j2 x x1,hQ ρ H x .refl hR x2⟩
  .exact .inr ⟨a,xs,_,x,rfl,rfl,q,j2 x x1,hQ ρ H x .refl hR x2⟩
 .cases hf
def BI(xs:List D)(lo hi:Option Int):List D:=(xs.drop (HT.sIx xs.length 0 lo)).take (HT.sIx xs.length xs.length hi-HT.sIx xs.length 0 lo)
def Hn{ds:List D}{xs:List V}{lo hi:Option Int}(r:RDs K ρ H ds xs):RDs K ρ H (BI ds lo hi) (Dm xs lo hi):=by
 unfold BI Dm;rw[r.len];exact(r.drop _).take _
abbrev MO1:=Ls->Hd->Option (Option Int×Hd)
def RO1(K:PySem.W.Frag)(t:TO)(m:MO1):Prop:=∀(ρ:List Addr) (σ:St) (H:Hp) (hd:Hd) (ls:Ls) (Q:Option Int->Hp->Prop) (d:Option Int) (hd':Hd),RH K ρ H hd->RL K ρ H ls σ->m ls hd=some (d,hd') ->
 (∀ρ' H',Ext ρ H ρ' H'->RH K ρ' H' hd'->Q d H')->t σ H Q
def AI:MO1:=λ_ hd=>some (none,hd)
def AN(m:ME):MO1:=λls hd=>(m ls hd).bind λp=>match p.1 with
 |.im (.int i)=>some (some i,p.2)
 |_=>none
def Qz:RO1 K HH AI:=by
 and_intros;cases hm;exact hQ ρ H .refl hR
def Qy{t:TE}{m:ME}(h:RE K t m):RO1 K (LI t) (AN m):=by
 and_intros;obtain⟨⟨d1,h1⟩,e1,hm⟩:=Yp hm;dsimp only at hm;split at hm
 .cases hm;exact h ρ σ H hd ls _ _ _ hR hL e1 λρ1 H1 v x1 R1 r1=>⟨_,by simpa only[RD,RI]using r1,hQ ρ1 H1 x1 R1⟩
 .cases hm
def Dc(m:ME)(ml mh:MO1):ME:=λls hd=>(m ls hd).bind λp=>(ml ls p.2).bind λl=>(mh ls l.2).bind λh=>(A9 p.1).bind λds=>
 if ¬ (HT.sIx ds.length 0 l.1=0/\HT.sIx ds.length ds.length h.1=ds.length)then some (AD (BI ds l.1 h.1),h.2)else none
def U7{t:TE}{tl th:TO}{m:ME}{ml mh:MO1}(h:RE K t m)(hl:RO1 K tl ml)(hh:RO1 K th mh):RE K (tSl (JK K) t tl th) (Dc m ml mh):=by
 and_intros;obtain⟨⟨d1,h1⟩,e1,hm⟩:=Yp hm;obtain⟨⟨d2,h2⟩,e2,hm⟩:=Yp hm;obtain⟨⟨d3,h3⟩,e3,hm⟩:=Yp hm;obtain⟨ds,e4,hm⟩:=Yp hm;dsimp only at e2 e3 e4 hm;split at hm
 .next c=>
  cases hm;refine h ρ σ H hd ls _ d1 h1 hR hL e1 λρ1 H1 v1 x1 R1 r1=>?_;refine hl ρ1 σ H1 h1 ls _ d2 h2 R1 (hL.ext hR x1) e2 λρ2 H2 x2 R2=>?_;refine hh ρ2 σ H2 h2 ls _ d3 _ R2 (hL.ext hR (x1.trans R1 x2)) e3 λρ3 H3 x3 R3=>?_;obtain⟨a,xs,rfl,q,r⟩:=((r1.ext R1 x2).ext R2 x3).tup e4;refine⟨a,xs,rfl,q,by rw[r.len];exact c,λp hp=>?_⟩;obtain⟨R4,x4⟩:=R3.hid (ho:=.tup (Dm xs d2 d3)) hp;exact hQ ρ3 _ _ (((x1.trans R1 x2).trans R2 x3).trans R3 x4) R4 (Az (SqT.of AL) ((Hn r).ext R3 x4))
 .cases hm
def FF(m:ME)(ml mh:MO1):MA:=λls hd=>(m ls hd).bind λp=>(ml ls p.2).bind λl=>(mh ls l.2).bind λh=>(Ai h.2 p.1).bind λds=>some (BI ds l.1 h.1,h.2)
def Tt{t:TE}{tl th:TO}{m:ME}{ml mh:MO1}(h:RE K t m)(hl:RO1 K tl ml)(hh:RO1 K th mh):RN K (tSl (Lc K) t tl th) (FF m ml mh):=by
 and_intros;obtain⟨⟨d1,h1⟩,e1,hm⟩:=Yp hm;obtain⟨⟨d2,h2⟩,e2,hm⟩:=Yp hm;obtain⟨⟨d3,h3⟩,e3,hm⟩:=Yp hm;obtain⟨ds,e4,hm⟩:=Yp hm;dsimp only at e2 e3 e4 hm;cases hm;refine h ρ σ H hd ls _ d1 h1 hR hL e1 λρ1 H1 v1 x1 R1 r1=>?_;refine hl ρ1 σ H1 h1 ls _ d2 h2 R1 (hL.ext hR x1) e2 λρ2 H2 x2 R2=>?_;refine hh ρ2 σ H2 h2 ls _ d3 _ R2 (hL.ext hR (x1.trans R1 x2)) e3 λρ3 H3 x3 R3=>?_;obtain⟨a,xs,rfl,q,r⟩:=RD.lst R3 ((r1.ext R1 x2).ext R2 x3) e4;refine⟨a,xs,rfl,q,λp hp=>?_⟩;obtain⟨R4,x4⟩:=R3.hid (ho:=.lst (Dm xs d2 d3)) hp;have x123:=(x1.trans R1 x2).trans R2 x3;exact hQ ρ3 _ p _ (x123.trans R3 x4) R4 (x123.none hR hp R3) (R3.out hp) AL ((Hn r).ext R3 x4)
def mCB(f:List D->Hd->Option (D×Hd))(ma:MA):ME:=λls hd=>(ma ls hd).bind λp=>f p.1 p.2
def Pw{r:List V->Hp->VK->Prop}{f:List D->Hd->Option (D×Hd)}{t:TA}{m:MA}(hr:RF K r f)(h:RA K t m):RE K (tCB r t) (mCB f m):=by
 and_intros;obtain⟨⟨d1,h1⟩,e1,hm⟩:=Yp hm;refine h ρ σ H hd ls _ d1 h1 hR hL e1 λρ1 H1 v1 x1 R1 r1=>?_;exact hr ρ1 H1 h1 d1 v1 Q d hd' R1 r1 hm λρ' H' w x2 R2 r2=>hQ ρ' H' w (x1.trans R1 x2) R2 r2
def f1(tp:Bool)(g:List D->Option D):List D->Hd->Option (D×Hd)
 |[d],hd=>((if tp then Ad hd d else Ai hd d)).bind λds=>(g ds).map (·,hd)
 |_,_=>none
def Oi{tp:Bool}{r:List V->Hp->VK->Prop}{g:List D->Option D}(h:RG K tp r g):RF K r (f1 tp g):=by
 intro ρ H hd ds vs Q z hd' hR h1 hf hQ;unfold f1 at hf;split at hf
 .next d hd'=>
  obtain⟨es,e1,hf⟩:=Yp hf;obtain⟨w,e2,e3⟩:=Yq hf;cases e3;simp only[RDs]at h1;obtain⟨x,r,rfl,rx,rfl⟩:=h1;cases tp with
  |true=>
   rw[if_pos rfl]at e1;obtain⟨a,xs,rfl,q,rr⟩:=rx.seq hR e1;exact h ρ H hd a xs es Q z hR (q.imp id λq=>⟨rfl,q⟩) rr e2 λH' w x R r=>hQ ρ H' w x R r
  |false=>
   rw[if_neg Bool.false_ne_true]at e1;obtain⟨a,xs,rfl,q,rr⟩:=rx.lst hR e1;exact h ρ H hd a xs es Q z hR (.inl q) rr e2 λH' w x R r=>hQ ρ H' w x R r
 .cases hf
def D7(g:List D->Option D)(ml:MA):ME:=λls hd=>(ml ls hd).bind λp=>(g p.1).map (·,p.2)
def Mv{tp:Bool}{r:List V->Hp->VK->Prop}{g:List D->Option D}{t:TE}{m:MA}(hr:RG K tp r g)(h:RN K t m):RE K (tCB r (BD t Bh)) (D7 g m):=by
 and_intros;obtain⟨⟨d1,h1⟩,e1,hm⟩:=Yp hm;obtain⟨w,e2,e3⟩:=Yq hm;cases e3;refine h ρ σ H hd ls _ d1 _ hR hL e1 λρ1 H1 a xs x1 R1 na oa ea r1=>?_;exact hr ρ1 H1 _ a xs d1 Q d R1 (.inl (SqL.of ea)) r1 e2 λH' w x R r=>hQ ρ1 H' w (x1.trans R1 x) R r
def BH(ds:List D):Option D:=some (.im (.int ds.length))
def U1:RG K true (UO K) BH:=by
 intro ρ H hd a xs ds Q z hR q r e hQ;cases e;refine⟨a,xs,rfl,q.imp id λq=>q.2,?_⟩;rw[r.len];exact hQ H _ .refl hR (by simp[RD,RI])
def BN(ds:List D):Option D:=some (AD ds)
def JG:RG K true (JJ K) BN:=by
 intro ρ H hd a xs ds Q z hR q r e hQ;cases e;refine⟨a,xs,rfl,?_⟩;rcases q with q|⟨_,q⟩
 .refine .inl ⟨q,λp hp=>?_⟩;obtain⟨R2,x2⟩:=hR.hid (ho:=.tup xs) hp;exact hQ _ _ x2 R2 (Az (SqT.of AL) (r.ext hR x2))
 .exact .inr ⟨q,hQ H _ .refl hR (Az q r)⟩
def GF(ds:List D):Option D:=(Bx ds).map λbs=>.im (.bl (bs.all id))
def Ms:RG K false (UP K) GF:=by
 intro ρ H hd a xs ds Q z hR q r e hQ;obtain⟨ns,e1,rfl⟩:=Yq e;rw[Kw e1]at r;have:=Mw r;subst this;rcases q with q|⟨q,_⟩
 .exact⟨a,ns,rfl,q,hQ H _ .refl hR (by simp[RD,RI])⟩
 .cases q
def HY{α:Type}{xs:List α}(h:xs≠[]):0<xs.length:=by cases xs<;>simp_all
def Q8:List D->Hd->Option (D×Hd)
 |[.im (.int i),.im (.int j)],hd=>some (.im (.int (if j>i then j else i)),hd)
 |_,_=>none
def Es:List D->Hd->Option (D×Hd)
 |[.im (.int i),.im (.int j)],hd=>some (.im (.int (if j<i then j else i)),hd)
 |_,_=>none
def RQ:RF K (λxs H Q=>∃i j,xs=[.int i,.int j]/\Q (.int (if j<i then j else i)) H) Es:=by
 intro ρ H hd ds vs Q z hd' hR h1 hf hQ;unfold Es at hf;split at hf
 .cases hf;simp only[RDs,RD,RI]at h1;obtain⟨x,r,rfl,rfl,y,r2,rfl,rfl,rfl⟩:=h1;exact⟨_,_,rfl,hQ ρ H _ .refl hR (by simp[RD,RI])⟩
 .cases hf
def XW:List D->Hd->Option (D×Hd)
 |[.im (.int i)],hd=>some (.im (.int (if i<0 then -i else i)),hd)
 |_,_=>none
def DF(ma:ME):MA:=λls hd=>(ma ls hd).bind λp=>(Ad p.2 p.1).map (·,p.2)
def R9{t:TE}{m:ME}(h:RE K t m):RN K (tCB (EE K) (BD t Bh)) (DF m):=by
 and_intros;obtain⟨⟨d1,h1⟩,e1,hm⟩:=Yp hm;obtain⟨w,e2,e3⟩:=Yq hm;cases e3;refine h ρ σ H hd ls _ d1 _ hR hL e1 λρ1 H1 v x1 R1 r1=>?_;obtain⟨a,xs,rfl,q,rr⟩:=r1.seq R1 e2;refine⟨a,xs,rfl,q,λl hl=>?_⟩;obtain⟨R2,x2⟩:=R1.hid (ho:=.lst xs) hl;exact hQ ρ1 _ l xs (x1.trans R1 x2) R2 (x1.none hR hl R1) (R1.out hl) AL (rr.ext R1 x2)
def EL(ml:MA):MA:=ml
def Oc{t:TE}{m:MA}(h:RN K t m):RN K (tCB (EE K) (BD t Bh)) (EL m):=by
 and_intros;refine h ρ σ H hd ls _ d _ hR hL hm λρ1 H1 a xs x1 R1 na oa ea r1=>?_;refine⟨a,xs,rfl,.inl (SqL.of ea),λl hl=>?_⟩;obtain⟨R2,x2⟩:=R1.hid (ho:=.lst xs) hl;exact hQ ρ1 _ l xs (x1.trans R1 x2) R2 (x1.none hR hl R1) (R1.out hl) AL (r1.ext R1 x2)
def Gi(d:PyData):Prop:=d.showable=true/\d.hasDict=false/\isDisplay d=true/\d.depth<=30/\d.shown.length<=sizeLine
def Cv:I->Option V
 |.non=>some .non
 |.bl b=>some (.bl b)
 |.int i=>some (.int i)
 |.str x=>some (.str x)
 |.tup _=>none
def BO:List D->Option (List V)
 |[]=>some []
 |.im i::r=>(Cv i).bind λv=>(BO r).map (v::·)
 |_::_=>none
def GI{i:I}{v w:V}(e:Cv i=some w)(h:RI K H i v):v=w/\Cu w=true:=by
 cases i with
 |tup _=>simp[Cv]at e
 |_=>simp only[Cv,Option.some.injEq]at e;subst e;exact⟨by simpa only[RI]using h,rfl⟩
def FK:∀{ds:List D} {vs ws:List V},BO ds=some ws->RDs K ρ H ds vs->vs=ws/\ws.all Cu=true
 |[],vs,ws,e,h=>by simp[BO]at e;subst e;simp only[RDs]at h;subst h;exact⟨rfl,rfl⟩
 |.im i::r,vs,ws,e,h=>by
  simp only[BO]at e;obtain⟨v,e1,e⟩:=Yp e;obtain⟨us,e2,rfl⟩:=Yq e;simp only[RDs,RD]at h;obtain⟨x,y,rfl,h1,h2⟩:=h;obtain⟨rfl,f1⟩:=GI e1 h1;obtain⟨rfl,f2⟩:=FK e2 h2;exact⟨rfl,by simp[f1,f2]⟩
 |.mu _::_,_,_,e,_=>by simp[BO]at e
 |.tm _::_,_,_,e,_=>by simp[BO]at e
 |.ro _::_,_,_,e,_=>by simp[BO]at e
def gIn(neg:Bool):D->D->Hd->Option (D×Hd)
 |.im i,e,hd=>(Cv i).bind λx=>(Ad hd e).bind λds=>(BO ds).map λxs=>(.im (.bl (if neg then !inV x xs else inV x xs)),hd)
 |_,_,_=>none
def Wa{neg:Bool}:RB K (rIn K neg) (gIn neg):=by
 intro ρ H hd d e v u Q z hd' hR h1 h2 hf hQ;unfold gIn at hf;split at hf
 .obtain⟨x,e1,hf⟩:=Yp hf;obtain⟨ds,e2,hf⟩:=Yp hf;obtain⟨xs,e3,e4⟩:=Yq hf;cases e4;simp only[RD]at h1;obtain⟨rfl,f1⟩:=GI e1 h1;obtain⟨a,ys,rfl,q,r⟩:=h2.seq hR e2;obtain⟨rfl,f2⟩:=FK e3 r;exact⟨a,ys,rfl,q,f1,f2,hQ ρ H _ .refl hR (by simp[RD,RI])⟩
 .cases hf
def mMt(f:D->List D->Hd->Option (D×Hd))(mo:ME)(ma:MA):ME:=λls hd=>(mo ls hd).bind λp=>match Ai p.2 p.1 with
 |some _=>(ma ls p.2).bind λq=>f p.1 q.1 q.2
 |none=>none
def RM(K:PySem.W.Frag)(r:V->List V->Hp->VK->Prop)(f:D->List D->Hd->Option (D×Hd)):Prop:=∀(ρ:List Addr) (H:Hp) (hd:Hd) (d:D) (v:V) (ds:List D) (vs:List V) (Q:VK) (z:D) (hd':Hd),RH K ρ H hd->RD K ρ H d v->RDs K ρ H ds vs->f d ds hd=some (z,hd') ->
 (∀ρ' H' w,Ext ρ H ρ' H'->RH K ρ' H' hd'->RD K ρ' H' z w->Q w H')->r v vs H Q
def WX{r:V->List V->Hp->VK->Prop}{f:D->List D->Hd->Option (D×Hd)}{to:TE}{t:TA}{mo:ME}{ma:MA}(hr:RM K r f)(ho:RE K to mo)(ha:RA K t ma):RE K (tBM K "list" r to t) (mMt f mo ma):=by
 and_intros;obtain⟨⟨d1,h1⟩,e1,hm⟩:=Yp hm;dsimp only at hm;split at hm
 .next e=>
  obtain⟨⟨d2,h2⟩,e2,hm⟩:=Yp hm;refine ho ρ σ H hd ls _ d1 h1 hR hL e1 λρ1 H1 v x1 R1 r1=>⟨?_,?_⟩
  .obtain⟨a,xs,rfl,q,_⟩:=r1.lst R1 e;exact .inl ⟨rfl,xs,q⟩
  .exact ha ρ1 σ H1 h1 ls _ d2 h2 R1 (hL.ext hR x1) e2 λρ2 H2 vs x2 R2 r2=>hr ρ2 H2 h2 d1 v d2 vs Q d hd' R2 (r1.ext R1 x2) r2 hm λρ' H' w x3 R3 r3=>hQ ρ' H' w ((x1.trans R1 x2).trans R2 x3) R3 r3
 .cases hm
open Classical in
def Aj:D->List D->Hd->Option (D×Hd)
 |.mu n,[x],hd=>match hd[n]? with
  |some (.lst ds)=>if CD ds.length then some (.im .non,hd.set n (.lst (ds++[x])))else none
  |_=>none
 |_,_,_=>none
def Mr:RM K Kd Aj:=by
 intro ρ H hd d v ds vs Q z hd' hR h1 h2 hf hQ;unfold Aj at hf;split at hf
 .split at hf
  .next q=>
   split at hf
   .next c=>
    cases hf;simp only[RD]at h1;obtain⟨a,hn,rfl⟩:=h1;simp only[RDs]at h2;obtain⟨x,r,rfl,rx,rfl⟩:=h2;obtain⟨xs,e1,e2⟩:=hR.lst hn q;obtain⟨R2,x2⟩:=hR.put hn (o:=.lst (_++[_])) (ho:=.lst (xs++[x])) ⟨_,rfl,e2.app (.cons rx .nil)⟩;exact⟨a,xs,x,rfl,rfl,e1,by rw[e2.len];exact c,hQ ρ _ _ x2 R2 (by simp[RD,RI])⟩
   .cases hf
  .cases hf
 .cases hf
end
end L2
namespace L2
open PySem PySem.Spec PyProof.Rows
section
variable{K:PySem.W.Frag}{ρ ρ':List Addr}{H H':Hp}{hd hd':Hd}
def Au:MS:=λls hd=>some (.nx ls,hd)
def KQ:RS K GW Au:=by
 intro ρ σ H hd ls E f hd' hR hL hm hQ;cases hm;exact hQ ρ H .refl hR σ hL
def A7(a b:MS):MS:=λls hd=>(a ls hd).bind λp=>match p.1 with
 |.nx ls1=>b ls1 p.2
 |f=>some (f,p.2)
def To{t u:TS}{a b:MS}(ha:RS K t a)(hb:RS K u b):RS K (OI t u) (A7 a b):=by
 intro ρ σ H hd ls E f hd' hR hL hm hQ;obtain⟨⟨f1,h1⟩,e1,hm⟩:=Yp hm;refine ha ρ σ H hd ls { E with nx:=u E } f1 h1 hR hL e1 λρ1 H1 x1 R1=>?_;cases f1 with
 |nx ls1=>
  intro σ1 L1;exact hb ρ1 σ1 H1 h1 ls1 E f hd' R1 L1 hm λρ2 H2 x2 R2=>hQ ρ2 H2 (x1.trans R1 x2) R2
 |bk ls1=>cases hm;exact hQ ρ1 H1 x1 R1
 |ct ls1=>cases hm;exact hQ ρ1 H1 x1 R1
 |rt d=>cases hm;exact hQ ρ1 H1 x1 R1
def Vc:MS:=λls hd=>some (.bk ls,hd)
def Wx:MS:=λls hd=>some (.ct ls,hd)
def BM(m:ME):MS:=λls hd=>(m ls hd).bind λp=>some (.nx ls,p.2)
def Qw{t:TE}{m:ME}(h:RE K t m):RS K (LL t) (BM m):=by
 intro ρ σ H hd ls E f hd' hR hL hm hQ;obtain⟨⟨d1,h1⟩,e1,hm⟩:=Yp hm;cases hm;exact h ρ σ H hd ls _ d1 _ hR hL e1 λρ1 H1 v x1 R1 r1=>hQ ρ1 H1 x1 R1 σ (hL.ext hR x1)
def AX(m:ME):MS:=λls hd=>(m ls hd).bind λp=>some (.rt p.1,p.2)
def Tq{t:TE}{m:ME}(h:RE K t m):RS K (OJ t) (AX m):=by
 intro ρ σ H hd ls E f hd' hR hL hm hQ;obtain⟨⟨d1,h1⟩,e1,hm⟩:=Yp hm;cases hm;exact h ρ σ H hd ls _ d1 _ hR hL e1 λρ1 H1 v x1 R1 r1=>hQ ρ1 H1 x1 R1 v r1
def Ww:MS:=λ_ hd=>some (.rt (.im .non),hd)
def B8(c:MT)(a b:MS):MS:=λls hd=>(c ls hd).bind λp=>if p.1=true then a ls p.2 else b ls p.2
def WV{tc:TT}{t u:TS}{c:MT}{a b:MS}(hc:RT K tc c)(ha:RS K t a)(hb:RS K u b):RS K (OO tc t u) (B8 c a b):=by
 intro ρ σ H hd ls E f hd' hR hL hm hQ;obtain⟨⟨d1,h1⟩,e1,hm⟩:=Yp hm;refine hc ρ σ H hd ls _ d1 h1 hR hL e1 λρ1 H1 x1 R1=>?_;cases d1 with
 |true=>
  rw[if_pos rfl]at hm ⊢;exact ha ρ1 σ H1 h1 ls E f hd' R1 (hL.ext hR x1) hm λρ2 H2 x2 R2=>hQ ρ2 H2 (x1.trans R1 x2) R2
 |false=>
  rw[if_neg Bool.false_ne_true]at hm ⊢;exact hb ρ1 σ H1 h1 ls E f hd' R1 (hL.ext hR x1) hm λρ2 H2 x2 R2=>hQ ρ2 H2 (x1.trans R1 x2) R2
abbrev MG:=D->Ls->Hd->Option Ls
abbrev MGs:=List D->Ls->Hd->Option Ls
def RGt(K:PySem.W.Frag)(t:TG)(m:MG):Prop:=∀(ρ:List Addr) (σ:St) (H:Hp) (hd:Hd) (ls ls':Ls) (d:D) (v:V) (Q:St->Hp->Prop),RH K ρ H hd->RL K ρ H ls σ->RD K ρ H d v->m d ls hd=some ls' ->
 (∀σ',RL K ρ H ls' σ'->Q σ' H)->t v σ H Q
def Jy(K:PySem.W.Frag)(t:TGs)(m:MGs):Prop:=∀(ρ:List Addr) (σ:St) (H:Hp) (hd:Hd) (ls ls':Ls) (d:List D) (v:List V) (Q:St->Hp->Prop),RH K ρ H hd->RL K ρ H ls σ->RDs K ρ H d v->m d ls hd=some ls' ->
 (∀σ',RL K ρ H ls' σ'->Q σ' H)->t v σ H Q
def RL.set{ls:Ls}{σ:St}{d:D}{v:V}(h:RL K ρ H ls σ)(i:Nat)(r:RD K ρ H d v):RL K ρ H (ls.set i (some d)) (σ.set i (some v)):=by
 refine⟨by simp[h.len],λj e q=>?_⟩;by_cases hij:i=j
 .subst hij;have hl:i<ls.length:=by
   have:=(List.getElem?_eq_some_iff.mp q).1;simpa using this
  rw[List.getElem?_set_self hl]at q;cases q;exact⟨v,by rw[List.getElem?_set_self (by rw[<- h.len];exact hl)],r⟩
 .rw[List.getElem?_set_ne hij]at q;obtain⟨w,e1,e2⟩:=h.ob j e q;exact⟨w,by rw[List.getElem?_set_ne hij];exact e1,e2⟩
def AU(i:Nat):MG:=λd ls _=>some (ls.set i (some d))
def HJ{i:Nat}:RGt K (Ct i) (AU i):=by
 intro ρ σ H hd ls ls' d v Q hR hL hd hm hQ;cases hm;exact hQ _ (hL.set i hd)
def G9:MGs:=λds ls _=>match ds with
 |[]=>some ls
 |_=>none
def Ca(m:MG)(r:MGs):MGs:=λds ls hd=>match ds with
 |d::es=>(m d ls hd).bind λls1=>r es ls1 hd
 |[]=>none
def RP:Jy K JY G9:=by
 intro ρ σ H hd ls ls' d v Q hR hL hd hm hQ;cases d with
 |nil=>
  simp only[RDs]at hd;subst hd;cases hm;exact⟨rfl,hQ _ hL⟩
 |cons a b=>cases hm
def Of{t:TG}{u:TGs}{m:MG}{r:MGs}(h:RGt K t m)(h':Jy K u r):Jy K (Ep t u) (Ca m r):=by
 intro ρ σ H hd ls ls' d v Q hR hL hd hm hQ;cases d with
 |nil=>cases hm
 |cons a b=>
  simp only[RDs]at hd;obtain⟨x,y,rfl,h1,h2⟩:=hd;obtain⟨ls1,e1,e2⟩:=Yp hm;exact⟨x,y,rfl,h ρ σ H _ ls ls1 a x _ hR hL h1 e1 λσ1 L1=>h' ρ σ1 H _ ls1 ls' b y Q hR L1 h2 e2 hQ⟩
def G8(n:Nat)(r:MGs):MG:=λd ls hd=>(A9 d).bind λds=>if ds.length=n then r ds ls hd else none
def U0{n:Nat}{u:TGs}{r:MGs}(h':Jy K u r):RGt K (Hb K n u) (G8 n r):=by
 intro ρ σ H hd ls ls' d v Q hR hL hd hm hQ;obtain⟨ds,e1,hm⟩:=Yp hm;split at hm
 .next c=>
  obtain⟨a,xs,rfl,q,rr⟩:=hd.tup e1;exact⟨a,xs,rfl,q,by rw[rr.len];exact c,h' ρ σ H _ ls ls' ds xs Q hR hL rr hm hQ⟩
 .cases hm
def PU(m:ME)(g:MG):MS:=λls hd=>(m ls hd).bind λp=>(g p.1 ls p.2).map λls'=>(.nx ls',p.2)
def Mo{t:TE}{m:ME}{g:TG}{n:MG}(h:RE K t m)(hg:RGt K g n):RS K (Dz t g) (PU m n):=by
 intro ρ σ H hd ls E f hd' hR hL hm hQ;obtain⟨⟨d1,h1⟩,e1,hm⟩:=Yp hm;obtain⟨ls',e2,e3⟩:=Yq hm;cases e3;exact h ρ σ H hd ls _ d1 _ hR hL e1 λρ1 H1 v x1 R1 r1=>hg ρ1 σ H1 _ ls ls' d1 v _ R1 (hL.ext hR x1) r1 e2 λσ' L'=>hQ ρ1 H1 x1 R1 σ' L'
abbrev AG(i:Nat)(m:ME):MS:=PU m (AU i)
def Ej(ix:List Nat)(ma:MA):MS:=λls hd=>(ma ls hd).bind λp=>if p.1.length=ix.length then some (.nx ((ix.zip p.1).foldl (λl q=>l.set q.1 (some q.2)) ls),p.2)else none
def Tr{i j:Nat}{t:TA}{m:MA}(h:RA K t m):RS K (OK i j t) (Ej [i,j] m):=by
 intro ρ σ H hd ls E f hd' hR hL hm hQ;obtain⟨⟨d1,h1⟩,e1,hm⟩:=Yp hm;dsimp only at hm;split at hm
 .next c=>
  cases hm;refine h ρ σ H hd ls _ d1 _ hR hL e1 λρ1 H1 v x1 R1 r1=>?_
  match d1,c,r1,hQ with
  |[a,b],_,r1,hQ=>
   simp only[RDs]at r1;obtain⟨x,r,rfl,ra,y,r2,rfl,rb,rfl⟩:=r1;exact⟨x,y,rfl,hQ ρ1 H1 x1 R1 _ (((hL.ext hR x1).set i ra).set j rb)⟩
 .cases hm
def Gm(i j k:Nat)(ma:MA):MS:=Ej [k,j,i] (λls hd=>(ma ls hd).map λp=>(p.1.reverse,p.2))
def Qv{i j k:Nat}{t:TA}{m:MA}(h:RA K t m):RS K (LJ i j k t) (Gm i j k m):=by
 intro ρ σ H hd ls E f hd' hR hL hm hQ;obtain⟨⟨d1,h1⟩,e1,hm⟩:=Yp hm;obtain⟨⟨d2,h2⟩,e2,e3⟩:=Yq e1;cases e3;dsimp only at hm;split at hm
 .next c=>
  cases hm;refine h ρ σ H hd ls _ d2 _ hR hL e2 λρ1 H1 v x1 R1 r1=>?_;have c:d2.length=3:=by simpa using c
  match d2,c,r1,hQ with
  |[a,b,e],_,r1,hQ=>
   simp only[RDs]at r1;obtain⟨x,r,rfl,ra,y,r2,rfl,rb,z,r3,rfl,rc,rfl⟩:=r1;exact⟨x,y,z,rfl,hQ ρ1 H1 x1 R1 _ ((((hL.ext hR x1).set k rc).set j rb).set i ra)⟩
 .cases hm
abbrev Gd:=List (Nat×List D)
abbrev MI:=Ls->Hd->Option ((List D×Gd)×Hd)
def GOk(hd:Hd)(g:Gd):Prop:=∀p∈g,hd[p.1]?=some (.lst p.2)
@[simp] theorem Aa(hd:Hd):GOk hd []:=λp h=>by cases h
def Jw(K:PySem.W.Frag)(ρ:List Addr)(H:Hp)(J:It)(ds:List D)(g:Gd):Prop:=∀(ρ2:List Addr) (H2:Hp) (hd2:Hd),Ext ρ H ρ2 H2->RH K ρ2 H2 hd2->GOk hd2 g ->
 ∀i:Nat,(i<ds.length->J.go i H2/\∀x H3,J.yld i H2 x H3->∃ρ3 d,Ext ρ2 H2 ρ3 H3/\ρ3=ρ2/\RH K ρ3 H3 hd2/\ds[i]?=some d/\RD K ρ3 H3 d x)/\(i=ds.length->J.stop i H2)
def RIt(K:PySem.W.Frag)(t:TI)(m:MI):Prop:=∀(ρ:List Addr) (σ:St) (H:Hp) (hd:Hd) (ls:Ls) (Q:It->Hp->Prop) (d:List D) (g:Gd) (hd':Hd),RH K ρ H hd->RL K ρ H ls σ->m ls hd=some ((d,g),hd') ->
 (∀ρ' H' J,Ext ρ H ρ' H'->RH K ρ' H' hd'->GOk hd' g->Jw K ρ' H' J d g->Q J H')->t σ H Q
def L0{a:Addr}{xs:List V}{ds:List D}(hR:RH K ρ H hd)(q:SqT K H a xs)(r:RDs K ρ H ds xs)(g:Gd):Jw K ρ H (Itt K a) ds g:=by
 intro ρ2 H2 hd2 x2 R2 _ i;have q2:=(x2.grow hR).sq q;have r2:=r.ext hR x2;have uniq:∀ys,SqT K H2 a ys->True:=λ_ _=>trivial;refine⟨λhi=>?_,λhi=>⟨xs,q2,by rw[r2.len,hi];exact le_refl _⟩⟩;have e:ds[i]?=some ds[i]:=by simp[hi]
 obtain⟨x,x1,x3⟩:=r2.get e;refine⟨⟨xs,x,q2,x1⟩,λy H3 ⟨e3,hy⟩=>?_⟩;subst e3;have:=hy xs q2;rw[x1]at this;cases this;exact⟨ρ2,_,.refl,rfl,R2,e,x3⟩
def CL(m:ME):MI:=λls hd=>(m ls hd).bind λp=>(A9 p.1).map λds=>((ds,[]),p.2)
def Tx{t:TE}{m:ME}(h:RE K t m):RIt K (Lz K t) (CL m):=by
 intro ρ σ H hd ls Q d g hd' hR hL hm hQ;obtain⟨⟨d1,h1⟩,e1,hm⟩:=Yp hm;obtain⟨ds,e2,e3⟩:=Yq hm;cases e3;refine h ρ σ H hd ls _ d1 _ hR hL e1 λρ1 H1 v x1 R1 r1=>?_;obtain⟨a,xs,rfl,q,r⟩:=r1.tup e2;exact⟨a,rfl,⟨xs,q⟩,hQ ρ1 H1 _ x1 R1 (Aa _) (L0 R1 q r [])⟩
def De(m:ME):MI:=λls hd=>(m ls hd).bind λp=>match p.1 with
 |.mu n=>match p.2[n]? with
  |some (.lst ds)=>some ((ds,[(n,ds)]),p.2)
  |_=>none
 |.ro ns=>some ((ns.map λn=>.im (.int n),[]),p.2)
 |_=>none
def RO{t:TE}{m:ME}(h:RE K t m):RIt K (Fg K t) (De m):=by
 intro ρ σ H hd ls Q d g hd' hR hL hm hQ;obtain⟨⟨d1,h1⟩,e1,hm⟩:=Yp hm;dsimp only at hm;split at hm
 .next n=>
  split at hm
  .next ds q=>
   cases hm;refine h ρ σ H hd ls _ _ _ hR hL e1 λρ1 H1 v x1 R1 r1=>?_;simp only[RD]at r1;obtain⟨a,hn,rfl⟩:=r1;obtain⟨xs,e2,e3⟩:=R1.lst hn q;refine⟨a,rfl,⟨xs,SqL.of e2⟩,hQ ρ1 H1 _ x1 R1 (λp z=>by simp at z;subst z;exact q) ?_⟩;intro ρ2 H2 hd2 x2 R2 G2 i;have q2:=G2 (n,d) (by simp);have hn2:ρ2[n]?=some a:=by
    obtain⟨r,rfl,_⟩:=x2.pre;rw[List.getElem?_append_left (List.getElem?_eq_some_iff.mp hn).1];exact hn
   obtain⟨ys,e4,e5⟩:=R2.lst hn2 q2;refine⟨λhi=>?_,λhi=>⟨ys,SqL.of e4,by rw[e5.len,hi];exact le_refl _⟩⟩;have e:d[i]?=some d[i]:=by simp[hi]
   obtain⟨x,y1,y2⟩:=e5.get e;refine⟨⟨ys,x,SqL.of e4,y1⟩,λy H3 ⟨e6,hy⟩=>?_⟩;subst e6;have:=hy ys (SqL.of e4);rw[y1]at this;cases this;exact⟨ρ2,_,.refl,rfl,R2,e,y2⟩
  .cases hm
 .next ns=>
  cases hm;refine h ρ σ H hd ls _ _ _ hR hL e1 λρ1 H1 v x1 R1 r1=>?_;simp only[RD]at r1;obtain⟨a,rfl,q⟩:=r1;refine⟨a,rfl,⟨_,q.sq⟩,hQ ρ1 H1 _ x1 R1 (Aa _) ?_⟩;intro ρ2 H2 hd2 x2 R2 G2 i;have q2:=(q.grow (x2.grow R1)).sq;have e5:RDs K ρ2 H2 (ns.map λn=>.im (.int n)) (ns.map V.int):=DP;refine⟨λhi=>?_,λhi=>⟨_,q2,by rw[e5.len,hi];exact le_refl _⟩⟩;have e:(ns.map λn=>D.im (.int n))[i]?=some ((ns.map λn=>D.im (.int n))[i]):=by simp[hi]
  obtain⟨x,y1,y2⟩:=e5.get e;refine⟨⟨_,x,q2,y1⟩,λy H3 ⟨e6,hy⟩=>?_⟩;subst e6;have:=hy _ q2;rw[y1]at this;cases this;exact⟨ρ2,_,.refl,rfl,R2,e,y2⟩
 .cases hm
def GE(ml:MA):MI:=λls hd=>(ml ls hd).map λp=>((p.1,[]),p.2)
def Tz{t:TE}{m:MA}(h:RN K t m):RIt K (Fg K t) (GE m):=by
 intro ρ σ H hd ls Q d g hd' hR hL hm hQ;obtain⟨⟨d1,h1⟩,e1,e3⟩:=Yq hm;obtain⟨⟨rfl,rfl⟩,rfl⟩:=Prod.mk.inj e3 |>.imp Prod.mk.inj id;clear e3 hm;refine h ρ σ H hd ls _ _ _ hR hL e1 λρ1 H1 a xs x1 R1 na oa ea r1=>?_;refine⟨a,rfl,⟨xs,SqL.of ea⟩,hQ ρ1 H1 _ x1 R1 (Aa _) ?_⟩;intro ρ2 H2 hd2 x2 R2 G2 i;have q2:SqL K H2 a xs:=SqL.of (x2.keep a _ ea oa nt);have r2:=r1.ext R1 x2;refine⟨λhi=>?_,λhi=>⟨xs,q2,by rw[r2.len,hi];exact le_refl _⟩⟩;have hi:i<d1.length:=hi;have e:d1[i]?=some d1[i]:=by simp[hi]
 obtain⟨x,y1,y2⟩:=r2.get e;refine⟨⟨xs,x,q2,y1⟩,λy H3 ⟨e6,hy⟩=>?_⟩;subst e6;have:=hy xs q2;rw[y1]at this;cases this;exact⟨ρ2,_,.refl,rfl,R2,e,y2⟩
def AQ(lo:Int):Nat->List D
 |0=>[]
 |n+1=>.im (.int lo)::AQ (lo+1) n
@[simp] theorem DC(lo:Int)(n:Nat):(AQ lo n).length=n:=by
 induction n generalizing lo with
 |zero=>rfl
 |succ n ih=>simp[AQ,ih]
def Ge{n:Nat}:∀{lo:Int} {i:Nat},i<n->(AQ lo n)[i]?=some (.im (.int (lo+i))):=by
 induction n with
 |zero=>intro lo i h;omega
 |succ n ih=>
  intro lo i h;cases i with
  |zero=>simp[AQ]
  |succ i=>
   simp only[AQ,List.getElem?_cons_succ];rw[ih (by omega)]
   congr 3
   push_cast
   omega
def GO{lo:Int}{n:Nat}{g:Gd}:Jw K ρ H (Itr lo n) (AQ lo n) g:=by
 intro ρ2 H2 hd2 x2 R2 G2 i;refine⟨λhi=>?_,λhi=>by rw[hi,DC];exact le_refl _⟩;rw[DC]at hi;refine⟨hi,λx H3 ⟨e1,e2⟩=>?_⟩;subst e1 e2;exact⟨ρ2,_,.refl,rfl,R2,Ge hi,by simp[RD,RI]⟩
open Classical in
def Bl(m:MA):MI:=λls hd=>(m ls hd).bind λp=>match p.1 with
 |[.im (.int j)]=>if DW j then some ((AQ 0 j.toNat,[]),p.2)else none
 |_=>none
def RK{t:TA}{m:MA}(h:RA K t m):RIt K (M1 t) (Bl m):=by
 intro ρ σ H hd ls Q d g hd' hR hL hm hQ;obtain⟨⟨d1,h1⟩,e1,hm⟩:=Yp hm;dsimp only at hm;split at hm
 .next j=>
  split at hm
  .next c=>
   cases hm;refine h ρ σ H hd ls _ _ _ hR hL e1 λρ1 H1 v x1 R1 r1=>?_;simp only[RDs,RD,RI]at r1;obtain⟨x,r,rfl,rfl,rfl⟩:=r1;exact⟨j,rfl,c.1,c.2,hQ ρ1 H1 _ x1 R1 (Aa _) GO⟩
  .cases hm
 .cases hm
open Classical in
def DG(m:MA):MI:=λls hd=>(m ls hd).bind λp=>match p.1 with
 |[.im (.int i),.im (.int j)]=>if JE i j then some ((AQ i (j-i).toNat,[]),p.2)else none
 |_=>none
def RJ{t:TA}{m:MA}(h:RA K t m):RIt K (M0 t) (DG m):=by
 intro ρ σ H hd ls Q d g hd' hR hL hm hQ;obtain⟨⟨d1,h1⟩,e1,hm⟩:=Yp hm;dsimp only at hm;split at hm
 .next i j=>
  split at hm
  .next c=>
   cases hm;refine h ρ σ H hd ls _ _ _ hR hL e1 λρ1 H1 v x1 R1 r1=>?_;simp only[RDs,RD,RI]at r1;obtain⟨x,r,rfl,rfl,y,r2,rfl,rfl,rfl⟩:=r1;exact⟨i,j,rfl,⟨c.1.1,c.1.2,c.2.1,c.2.2⟩,hQ ρ1 H1 _ x1 R1 (Aa _) GO⟩
  .cases hm
 .cases hm
open Classical in
def B1(n:MG)(b:MS)(g:Gd):List D->Ls->Hd->Option (Fl×Hd)
 |[],ls,hd=>some (.nx ls,hd)
 |d::r,ls,hd=>(n d ls hd).bind λls1=>(b ls1 hd).bind λp=>match p.1 with
  |.nx ls2=>if GOk p.2 g then B1 n b g r ls2 p.2 else none
  |.ct ls2=>if GOk p.2 g then B1 n b g r ls2 p.2 else none
  |.bk ls2=>some (.nx ls2,p.2)
  |.rt d=>some (.rt d,p.2)
def BG(mi:MI)(n:MG)(b:MS):MS:=λls hd=>(mi ls hd).bind λp=>B1 n b p.1.2 p.1.1 ls p.2
def Ts{wi:TI}{g:TG}{tb:TS}{mi:MI}{n:MG}{b:MS}(hi:RIt K wi mi)(hg:RGt K g n)(hb:RS K tb b):RS K (OP wi g tb) (BG mi n b):=by
 intro ρ σ H hd ls E f hd' hR hL hm hQ;obtain⟨⟨⟨ds,gd⟩,h1⟩,e1,hm⟩:=Yp hm;refine hi ρ σ H hd ls _ ds gd h1 hR hL e1 λρ1 H1 J x1 R1 G1 Y=>?_;dsimp only at hm;refine⟨λi m σ2 H2=>m=ds.length-i/\i<=ds.length/\∃ρ2 ls2 hd2,Ext ρ1 H1 ρ2 H2/\RH K ρ2 H2 hd2/\RL K ρ2 H2 ls2 σ2/\GOk hd2 gd/\B1 n b gd (ds.drop i) ls2 hd2=some (f,hd'),
  ⟨ds.length,by simp,zero_le _,ρ1,ls,h1,.refl,R1,hL.ext hR x1,G1,by simpa using hm⟩,?_⟩
 rintro i m σ2 H2 ⟨rfl,hi,ρ2,ls2,hd2,x2,R2,L2',G2,hm2⟩;obtain⟨Y1,Y2⟩:=Y ρ2 H2 hd2 x2 R2 G2 i;by_cases hlt:i<ds.length
 .obtain⟨go,Y1⟩:=Y1 hlt;have ed:ds.drop i=ds[i]::ds.drop (i+1):=List.drop_eq_getElem_cons hlt;rw[ed]at hm2;unfold B1 at hm2;obtain⟨ls3,e3,hm2⟩:=Yp hm2;obtain⟨⟨fl,hd4⟩,e4,hm2⟩:=Yp hm2;refine .inr ⟨go,λσ' H'=>∃ρ2 ls2 hd2,Ext ρ1 H1 ρ2 H'/\RH K ρ2 H' hd2/\RL K ρ2 H' ls2 σ'/\GOk hd2 gd/\B1 n b gd (ds.drop (i+1)) ls2 hd2=some (f,hd'),λσ' H' z=>⟨ds.length-(i+1),by omega,rfl,hlt,z⟩,λx H3 y=>?_⟩;obtain⟨ρ3,d3,x3,rfl,R3,e5,r3⟩:=Y1 x H3 y;have e6:d3=ds[i]:=by
   have:ds[i]?=some ds[i]:=by simp[hlt]
   rw[this]at e5;exact(Option.some.inj e5).symm
  subst e6;refine hg ρ3 σ2 H3 hd2 ls2 ls3 _ x _ R3 (L2'.ext R2 x3) r3 e3 λσ4 L4=>?_;refine hb ρ3 σ4 H3 hd2 ls3 _ fl hd4 R3 L4 e4 λρ5 H5 x5 R5=>?_;have x15:=(x2.trans R2 x3).trans R3 x5;cases fl with
  |nx ls5=>
   intro σ5 L5;dsimp only at hm2;split at hm2
   .next c=>exact⟨ρ5,ls5,hd4,x15,R5,L5,c,hm2⟩
   .cases hm2
  |ct ls5=>
   intro σ5 L5;dsimp only at hm2;split at hm2
   .next c=>exact⟨ρ5,ls5,hd4,x15,R5,L5,c,hm2⟩
   .cases hm2
  |bk ls5=>
   intro σ5 L5;cases hm2;exact hQ ρ5 H5 (x1.trans R1 x15) R5 σ5 L5
  |rt d5=>
   intro v5 r5;cases hm2;exact hQ ρ5 H5 (x1.trans R1 x15) R5 v5 r5
 .have e:i=ds.length:=by omega
  subst e;rw[List.drop_length]at hm2;unfold B1 at hm2;cases hm2;exact .inl ⟨Y2 rfl,hQ ρ2 H2 (x1.trans R1 x2) R2 σ2 L2'⟩
open Classical in
def B0(n:MG)(c:MT)(m:ME)(g:Gd):List D->Ls->Hd->Option (List D×Hd)
 |[],_,hd=>some ([],hd)
 |d::r,ls,hd=>(n d ls hd).bind λls1=>(c ls1 hd).bind λp=>if p.1=true then(m ls1 p.2).bind λq=>if GOk q.2 g then(B0 n c m g r ls1 q.2).map λz=>(q.1::z.1,z.2)else none else if GOk p.2 g then B0 n c m g r ls1 p.2 else none
def Dx(k:Nat)(ix:List Nat)(ls:Ls):Ls:=List.replicate k none++ix.map λi=>(ls[i]?).join
open Classical in
def BU(k:Nat)(ix:List Nat)(mi:MI)(n:MG)(c:MT)(m:ME):MA:=λls hd=>(mi ls hd).bind λp=>if BB p.1.1.length then B0 n c m p.1.2 p.1.1 (Dx k ix ls) p.2 else none
def TF{k:Nat}{ix:List Nat}{ls:Ls}{σ:St}(h:RL K ρ H ls σ):RL K ρ H (Dx k ix ls) (FT k ix σ):=by
 refine⟨by simp[Dx,FT],λi d e=>?_⟩;unfold Dx at e;unfold FT;by_cases hi:i<k
 .rw[List.getElem?_append_left (by simpa using hi),List.getElem?_replicate]at e;split at e<;>cases e
 .have hi':k<=i:=Nat.not_lt.mp hi;rw[List.getElem?_append_right (by simpa using hi'),List.length_replicate,List.getElem?_map]at e ⊢;cases q:ix[i-k]? with
  |none=>rw[q]at e;cases e
  |some j=>
   rw[q]at e;simp only[map_some,Option.some.injEq]at e ⊢;have e5:ls[j]?=some (some d):=by
    cases w:ls[j]? with
    |none=>rw[w]at e;cases e
    |some z=>rw[w]at e;simpa using e
   obtain⟨v,e6,e7⟩:=h.ob j d e5;exact⟨v,by rw[e6];rfl,e7⟩
def KS{k:Nat}{ix:List Nat}{wi:TI}{g:TG}{tf:TT}{te:TE}{mi:MI}{n:MG}{c:MT}{m:ME}(hi:RIt K wi mi)(hg:RGt K g n)(hf:RT K tf c)(he:RE K te m):RN K (Ed k ix wi g tf te) (BU k ix mi n c m):=by
 intro ρ σ H hd ls Q out hd' hR hL hm hQ;obtain⟨⟨⟨ds,gd⟩,h1⟩,e1,hm⟩:=Yp hm;dsimp only at hm;split at hm
 .next hlen=>
  have hlen:ds.length<=sizeLine:=hlen;refine hi ρ σ H hd ls _ ds gd h1 hR hL e1 λρ1 H1 J x1 R1 G1 Y=>?_;intro Da hDa;obtain⟨R1',x1'⟩:=R1.hid (ho:=.lst []) hDa;have oD:Da∉ρ1:=R1.out hDa;have nD:H Da=none:=x1.none hR hDa R1;refine⟨λi mm σ2 ys H2=>mm=ds.length-i/\i<=ds.length/\∃ρ2 ls2 hd2 es rest,Ext ρ1 (upd H1 Da (.lst ys)) ρ2 H2/\Ext ρ1 H1 ρ2 H2/\Da∉ρ2/\H2 Da=some (.lst ys)/\RH K ρ2 H2 hd2/\RL K ρ2 H2 ls2 σ2/\RDs K ρ2 H2 es ys/\es.length<=i/\GOk hd2 gd/\B0 n c m gd (ds.drop i) ls2 hd2=some (rest,hd')/\out=es++rest,
   ⟨ds.length,by simp,zero_le _,ρ1,_,h1,[],out,.refl,x1',oD,AL,R1',(TF ((hL.ext hR x1).ext R1 x1')),.nil,le_refl _,G1,by simpa using hm,rfl⟩,?_⟩
  rintro i mm σ2 ys H2 ⟨rfl,hi,ρ2,ls2,hd2,es,rest,x2',x2,oD2,hD2,R2,L2',r2,hle,G2,hm2,rfl⟩;refine⟨hD2,?_⟩;obtain⟨Y1,Y2⟩:=Y ρ2 H2 hd2 x2 R2 G2 i;by_cases hlt:i<ds.length
  .obtain⟨go,Y1⟩:=Y1 hlt;have ed:ds.drop i=ds[i]::ds.drop (i+1):=List.drop_eq_getElem_cons hlt;rw[ed]at hm2;unfold B0 at hm2;obtain⟨ls3,e3,hm2⟩:=Yp hm2;obtain⟨⟨bb,hd4⟩,e4,hm2⟩:=Yp hm2;refine .inr ⟨go,lt_of_le_of_lt (by rw[r2.len];exact hle) (by omega),λσ' ys' H'=>∃ρ2 ls2 hd2 es' rest',Ext ρ1 (upd H1 Da (.lst ys')) ρ2 H'/\Ext ρ1 H1 ρ2 H'/\Da∉ρ2/\H' Da=some (.lst ys')/\RH K ρ2 H' hd2/\RL K ρ2 H' ls2 σ'/\RDs K ρ2 H' es' ys'/\es'.length<=i+1/\GOk hd2 gd/\B0 n c m gd (ds.drop (i+1)) ls2 hd2=some (rest',hd')/\es++rest=es'++rest',λσ' ys' H' z=>⟨ds.length-(i+1),by omega,rfl,hlt,z⟩,λx H3 y=>?_⟩;obtain⟨ρ3,d3,x3,rfl,R3,e5,r3⟩:=Y1 x H3 y;have e6:d3=ds[i]:=by
    have:ds[i]?=some ds[i]:=by simp[hlt]
    rw[this]at e5;exact(Option.some.inj e5).symm
   subst e6;refine hg ρ3 σ2 H3 hd2 ls2 ls3 _ x _ R3 (L2'.ext R2 x3) r3 e3 λσ4 L4=>?_;refine hf ρ3 σ4 H3 hd2 ls3 _ bb hd4 R3 L4 e4 λρ5 H5 x5 R5=>?_;have hD5:H5 Da=some (.lst ys):=x5.keep Da _ (x3.keep Da _ hD2 oD2 nt) oD2 nt;have out5:Da∉ρ5:=by
    obtain⟨r,rfl,fr⟩:=x5.pre;intro z;rcases mem_append.mp z with z|z
    .exact oD2 z
    .have:=fr _ z;rw[x3.keep Da _ hD2 oD2 nt]at this;cases this
   cases bb with
   |false=>
    rw[if_neg Bool.false_ne_true]at hm2 ⊢;have y25:=x3.trans R3 x5;split at hm2
    .next g5=>exact⟨ρ5,ls3,hd4,es,rest,x2'.trans R2 y25,(x2.trans R2 y25),out5,hD5,R5,L4.ext R3 x5,(r2.ext R2 y25),by omega,g5,hm2,rfl⟩
    .cases hm2
   |true=>
    rw[if_pos rfl]at hm2 ⊢;obtain⟨⟨z,hd6⟩,e6,hm2⟩:=Yp hm2;obtain⟨g6,hm2⟩:GOk hd6 gd/\((B0 n c m gd (ds.drop (i+1)) ls3 hd6).map λq=>(z::q.1,q.2))=some (rest,hd'):=by
     dsimp only at hm2;split at hm2
     .next g6=>exact⟨g6,hm2⟩
     .cases hm2
    obtain⟨⟨zs,hd7⟩,e7,e8⟩:=Yq hm2;cases e8;refine he ρ5 σ4 H5 hd4 ls3 _ z hd6 R5 (L4.ext R3 x5) e6 λρ6 H6 v6 x6 R6 r6=>?_;have hD6:H6 Da=some (.lst ys):=x6.keep Da _ hD5 out5 nt;have out6:Da∉ρ6:=by
     obtain⟨r,rfl,fr⟩:=x6.pre;intro z;rcases mem_append.mp z with z|z
     .exact out5 z
     .have:=fr _ z;rw[hD5]at this;cases this
    refine⟨hD6,?_⟩;have y26:=(x3.trans R3 x5).trans R5 x6;have gr:Grow H6 (upd H6 Da (.lst (ys++[v6]))):=Grow.refl.put (.lst hD6);have R7:=R6.hput (ho:=.lst (ys++[v6])) out6 hD6;have x12:=x2.trans R2 y26;have ext7:Ext ρ1 H1 ρ6 (upd H6 Da (.lst (ys++[v6]))):=⟨x12.pre,λb o q nb t=>by
     have:b≠Da:=AT q hDa;rw[AH this];exact x12.keep b o q nb t,λb ps q=>by
     have:b≠Da:=AT q hDa;rw[AH this];exact x12.tab b ps q⟩
    have ext8:Ext ρ1 (upd H1 Da (.lst (ys++[v6]))) ρ6 (upd H6 Da (.lst (ys++[v6]))):=by
     obtain⟨r,er,fr⟩:=x12.pre;refine⟨⟨r,er,λb hb=>?_⟩,λb o q nb t=>?_,λb ps q=>?_⟩
     .have:b≠Da:=λz=>out6 (by rw[er,<- z];exact mem_append_right _ hb);rw[AH this];exact fr b hb
     .by_cases hb:b=Da
      .subst hb;rw[AL]at q ⊢;exact q
      .rw[AH hb]at q ⊢;exact x12.keep b o q nb t
     .by_cases hb:b=Da
      .subst hb;rw[AL]at q;cases q
      .rw[AH hb]at q ⊢;exact x12.tab b ps q
    refine⟨ρ6,ls3,hd6,es++[z],zs,ext8,ext7,out6,AL,R7,?_,?_,by simp;omega,g6,e7,by simp⟩
    .have L6:=(L4.ext R3 x5).ext R5 x6;exact⟨L6.len,λi d e=>let ⟨v,a,b⟩:=L6.ob i d e;⟨v,a,by simpa using b.mono gr []⟩⟩
    .have:=((r2.ext R2 y26).app (.cons r6 .nil)).mono gr [];simpa using this
  .have e:i=ds.length:=by omega
   subst e;rw[List.drop_length]at hm2;unfold B0 at hm2;cases hm2;refine .inl ⟨Y2 rfl,?_⟩;exact hQ ρ2 H2 Da ys (x1.trans R1 x2) R2 nD oD2 hD2 (by simpa using r2)
 .cases hm
end
mutual
def clD(w:Nat):D->Bool
 |.im _=>true
 |.mu n=>decide (n<w)
 |.tm ds=>Av w ds
 |.ro _=>true
def Av(w:Nat):List D->Bool
 |[]=>true
 |d::ds=>clD w d&&Av w ds
end
def EA(w:Nat):List (Key×D)->Bool
 |[]=>true
 |d::ds=>clD w d.2&&EA w ds
def clO(w:Nat):MO->Bool
 |.lst ds=>Av w ds
 |.dic ds=>EA w ds
section
variable{K:PySem.W.Frag}{ρ ρ' ρ1:List Addr}{H H' H1:Hp}{hd hd' h1 h2:Hd}
@[simp] theorem Xf{w:Nat}(a b:List D):Av w (a++b)=(Av w a&&Av w b):=by induction a<;>simp_all [Av,Bool.and_assoc]
mutual
def RD.take(w:Nat):∀{d:D} {v:V},RD K ρ H d v->clD w d=true->RD K (ρ.take w) H d v
 |.im i,v,h,_=>by simp only[RD]at h ⊢;exact h
 |.mu n,v,h,c=>by
  simp only[RD]at h ⊢;obtain⟨a,e,q⟩:=h;exact⟨a,by rw[List.getElem?_take_of_lt (by simpa [clD]using c)];exact e,q⟩
 |.tm ds,v,h,c=>by
  simp only[RD]at h ⊢;obtain⟨a,xs,e,q,z⟩:=h;exact⟨a,xs,e,q,RDs.take' w z (by simpa [clD]using c)⟩
 |.ro ns,v,h,c=>by simp only[RD]at h ⊢;exact h
def RDs.take'(w:Nat):∀{d:List D} {v:List V},RDs K ρ H d v->Av w d=true->RDs K (ρ.take w) H d v
 |[],v,h,_=>by simpa only[RDs]using h
 |d::ds,v,h,c=>by
  simp only[RDs]at h ⊢;obtain⟨x,r',e,q,z⟩:=h;have c:clD w d=true/\Av w ds=true:=by simpa [Av]using c
  exact⟨x,r',e,q.take w c.1,RDs.take' w z c.2⟩
end
def RKs.take(w:Nat):∀{d:List (Key×D)} {v:List (Key×V)},RKs K ρ H d v->EA w d=true->RKs K (ρ.take w) H d v
 |[],v,h,_=>by simpa only[RKs]using h
 |d::ds,v,h,c=>by
  simp only[RKs]at h ⊢;obtain⟨x,r',e,q1,q,z⟩:=h;have c:clD w d.2=true/\EA w ds=true:=by simpa [EA]using c
  exact⟨x,r',e,q1,q.take w c.1,RKs.take w z c.2⟩
def RC.take(w:Nat){o:MO}{ho:HO}(h:RC K ρ H o ho)(c:clO w o=true):RC K (ρ.take w) H o ho:=by
 cases o with
 |lst ds=>obtain⟨xs,e,q⟩:=h;exact⟨xs,e,q.take' w c⟩
 |dic ds=>obtain⟨xs,e,q⟩:=h;exact⟨xs,e,q.take w c⟩
def RH.take(h:RH K ρ H hd)(w:Nat)(c:(hd.take w).all (clO w)=true):RH K (ρ.take w) H (hd.take w):=by
 refine⟨by simp[h.len],h.nd.sublist (List.take_sublist _ _),h.tabs,λn o a e1 e2=>?_⟩;have co:=all_eq_true.mp c o (mem_of_getElem? e1);have hn:n<w:=by
  have:=(List.getElem?_eq_some_iff.mp e1).1;simp at this;omega
 rw[List.getElem?_take_of_lt hn]at e1 e2;obtain⟨ho,q1,q2⟩:=h.ob n o a e1 e2;exact⟨ho,q1,q2.take w co⟩
def RH.back(R1:RH K ρ1 H1 h1){w:Nat}(hw:w<=h1.length)(c1:(h1.take w).all (clO w)=true)(x:Ext (ρ1.take w) H1 ρ' H')(R':RH K ρ' H' h2)(c:(h2.take w).all (clO w)=true):
 RH K ρ1 H' (h2.take w++h1.drop w)/\Ext ρ1 H1 ρ1 H'/\ρ'.take w=ρ1.take w:=by
 obtain⟨r,rfl,fr⟩:=x.pre;have lw:(ρ1.take w).length=w:=by rw[length_take,R1.len];omega
 have l2:w<=h2.length:=by rw[<- R'.len];simp[lw]
 have tk:(ρ1.take w++r).take w=ρ1.take w:=by rw[List.take_append_of_le_length (by omega),List.take_take];simp
 refine⟨⟨?_,R1.nd,R'.tabs,λn o a e1 e2=>?_⟩,⟨⟨[],by simp,by simp⟩,λb o q nb t=>x.keep b o q (λm=>nb (mem_of_mem_take m)) t,x.tab⟩,tk⟩
 .rw[length_append,length_take,length_drop,R1.len];omega
 .by_cases hn:n<w
  .rw[List.getElem?_append_left (by rw[length_take];omega),List.getElem?_take_of_lt hn]at e1;have e3:(ρ1.take w++r)[n]?=some a:=by
    rw[List.getElem?_append_left (by omega),List.getElem?_take_of_lt hn];exact e2
   obtain⟨ho,q1,q2⟩:=R'.ob n o a e1 e3;have co:=all_eq_true.mp c o (by
    have:(h2.take w)[n]?=some o:=by rw[List.getElem?_take_of_lt hn];exact e1
    exact mem_of_getElem? this)
   have q3:=q2.take w co;rw[tk]at q3;have q4:=q3.mono (Grow.refl (H:=H')) (ρ1.drop w);rw[List.take_append_drop]at q4;exact⟨ho,q1,q4⟩
  .rw[List.getElem?_append_right (by rw[length_take];omega),length_take,List.getElem?_drop]at e1;have e1:h1[n]?=some o:=by
    have:w+(n-min w h2.length)=n:=by omega
    rw[this]at e1;exact e1
   obtain⟨ho,q1,q2⟩:=R1.ob n o a e1 e2;have out:a∉ρ1.take w:=λm=>by
    obtain⟨k,hk⟩:=List.mem_iff_getElem?.mp m;have kw:k<w:=by
     have:=(List.getElem?_eq_some_iff.mp hk).1;rw[lw]at this;exact this
    rw[List.getElem?_take_of_lt kw]at hk;have:=(List.getElem?_inj (List.getElem?_eq_some_iff.mp e2).1 R1.nd).mp (e2.trans hk.symm);omega
   have gr:=x.grow (R1.take w c1);exact⟨ho,x.keep a ho q1 out (λps z=>by rcases R1.mut (mem_of_getElem? e2)with⟨y,w⟩|⟨y,w⟩<;>(rw[q1,z]at w;cases w)),by simpa using q2.mono gr []⟩
def spF(K:PySem.W.Frag)(k:Nat)(F:List D->Hd->Option (D×Hd)):Sp:=λvs H Q _=>vs.length=k/\∃(ρ:List Addr) (hd:Hd) (ds:List D) (d:D) (hd':Hd),RH K ρ H hd/\RDs K ρ H ds vs/\F ds hd=some (d,hd')/\
 ∀ρ' H' v,Ext ρ H ρ' H'->RH K ρ' H' hd'->RD K ρ' H' d v->Q v H'
def mkF(k n:Nat)(m:MS):List D->Hd->Option (D×Hd):=λds hd=>if ds.length=k then(match m (ds.map some++List.replicate (n-k) none) hd with
 |some (.rt d,hd')=>some (d,hd')
 |some (.nx _,hd')=>some (.im .non,hd')
 | _=>none)else none
def JF{N:List Str}:∀{ds:List D} {vs:List V},RDs K ρ H ds vs->RL K ρ H (ds.map some++List.replicate (N.length-ds.length) none) (CC N vs):=by
 intro ds vs r;have hl:=r.len;refine⟨by simp[CC,hl],λi d e=>?_⟩;unfold CC;by_cases hi:i<ds.length
 .rw[List.getElem?_append_left (by simpa using hi),List.getElem?_map]at e;have e':ds[i]?=some d:=by
   cases q:ds[i]? with
   |none=>rw[q]at e;cases e
   |some z=>rw[q]at e;simpa using e
  obtain⟨x,x1,x2⟩:=r.get e';exact⟨x,by rw[List.getElem?_append_left (by rw[length_map,hl];exact hi),List.getElem?_map,x1];rfl,x2⟩
 .rw[List.getElem?_append_right (by simpa using Nat.not_lt.mp hi),List.getElem?_replicate]at e;split at e<;>cases e
def Qi{k:Nat}{N:List Str}{m:MS}{t:TS}(h:RS K t m){vs:List V}{H:Hp}{Q:VK}{E:XK}(s:spF K k (mkF k N.length m) vs H Q E):t { nx:=λ_ H'=>Q .non H',rt:=Q } (CC N vs) H:=by
 obtain⟨hk,ρ,hd,ds,d,hd',hR,hr,hF,hQ⟩:=s;unfold mkF at hF;split at hF
 .next hl=>
  subst hl;split at hF
  .next q=>
   cases hF;exact h ρ _ H hd _ _ _ _ hR (JF hr) q λρ' H' x R v r=>hQ ρ' H' v x R r
  .next q=>
   cases hF;exact h ρ _ H hd _ _ _ _ hR (JF hr) q λρ' H' x R σ L=>hQ ρ' H' .non x R (by simp[RD,RI])
  .cases hF
 .cases hF
def Am(F:List D->Hd->Option (D×Hd))(ma:MA):ME:=λls hd=>(ma ls hd).bind λp=>F p.1 p.2
def Ol{k:Nat}{F:List D->Hd->Option (D×Hd)}{t:TA}{m:MA}(h:RA K t m)(hk:∀ds hd z,F ds hd=some z->ds.length=k):RE K (Dr (spF K k F) [] E0 t) (Am F m):=by
 and_intros;obtain⟨⟨d1,h1⟩,e1,hm⟩:=Yp hm;refine h ρ σ H hd ls _ d1 h1 hR hL e1 λρ1 H1 v1 x1 R1 r1=>?_;rw[append_nil];exact⟨by rw[r1.len];exact hk _ _ _ hm,ρ1,h1,d1,d,hd',R1,r1,hm,λρ' H' w x2 R2 r2=>hQ ρ' H' w (x1.trans R1 x2) R2 r2⟩
def Su{k n:Nat}{m:MS}:∀ds hd z,mkF k n m ds hd=some z->ds.length=k:=λds hd z h=>by
 unfold mkF at h;split at h
 .next e=>exact e
 .cases h
def fin(w:Nat)(d:D)(h2 rest:Hd):Option (D×Hd):=if(h2.take w).all (clO w)=true then(match d with
 | .mu k=>if k<w then some (.mu k,h2.take w++rest)else(match h2[k]? with
  |some (.lst ds)=>if Av w ds=true then some (.mu (w+rest.length),h2.take w++rest++[.lst ds])else none
  | _=>none)
 | d=>if clD w d=true then some (d,h2.take w++rest)else none)else none
def A6(w:Nat)(F:List D->Hd->Option (D×Hd))(ma:MA):ME:=λls hd=>(ma ls hd).bind λp=>
 if w<=p.2.length/\Av w p.1=true/\(p.2.take w).all (clO w)=true then(F p.1 (p.2.take w)).bind λr=>fin w r.1 r.2 (p.2.drop w)else none
def Oj{w k:Nat}{F:List D->Hd->Option (D×Hd)}{t:TA}{m:MA}(h:RA K t m)(hk:∀ds hd z,F ds hd=some z->ds.length=k):RE K (Dr (spF K k F) [] E0 t) (A6 w F m):=by
 and_intros;obtain⟨⟨d1,h1⟩,e1,hm⟩:=Yp hm;dsimp only at hm;split at hm
 .next c=>
  obtain⟨c0,c1,c2⟩:=c;obtain⟨⟨d2,h2⟩,e2,hm⟩:=Yp hm;refine h ρ σ H hd ls _ d1 h1 hR hL e1 λρ1 H1 v1 x1 R1 r1=>?_;rw[append_nil];refine⟨by rw[r1.len];exact hk _ _ _ e2,ρ1.take w,h1.take w,d1,d2,h2,R1.take w c2,r1.take' w c1,e2,λρ' H' v x2 R2 r2=>?_⟩;unfold fin at hm;dsimp only at hm;split at hm
  .next c3=>
   obtain⟨R3,x3,tk⟩:=R1.back c0 c2 x2 R2 c3;have up:∀{d:D} {v:V},RD K ρ' H' d v->clD w d=true->RD K ρ1 H' d v:=λr c=>by
    have q:=r.take w c;rw[tk]at q;have q:=q.mono (Grow.refl (H:=H')) (ρ1.drop w);rw[List.take_append_drop]at q;exact q
   have ups:∀{d:List D} {v:List V},RDs K ρ' H' d v->Av w d=true->RDs K ρ1 H' d v:=λr c=>by
    have q:=r.take' w c;rw[tk]at q;have q:=q.mono (Grow.refl (H:=H')) (ρ1.drop w);rw[List.take_append_drop]at q;exact q
   split at hm
   .next k'=>
    split at hm
    .next hk'=>
     cases hm;exact hQ ρ1 H' v (x1.trans R1 x3) R3 (up r2 (by simpa [clD]using hk'))
    .next hk'=>
     split at hm
     .next ds q=>
      split at hm
      .next c4=>
       cases hm;simp only[RD]at r2;obtain⟨a,ea,rfl⟩:=r2;obtain⟨xs,l1,l2⟩:=R2.lst ea q;have len3:=R3.len;have out:a∉ρ1:=λm=>by
        -- a is one of those made behind the first w
        obtain⟨r,er,fr⟩:=x2.pre;have lw:(ρ1.take w).length=w:=by rw[length_take,R1.len];omega
        have ma:a∈r:=by
         rw[er,List.getElem?_append_right (by rw[lw];omega)]at ea;exact mem_of_getElem? ea
        exact R1.out (fr a ma) m
       have na:H1 a=none:=by
        obtain⟨r,er,fr⟩:=x2.pre;have lw:(ρ1.take w).length=w:=by rw[length_take,R1.len];omega
        have ma:a∈r:=by
         rw[er,List.getElem?_append_right (by rw[lw];omega)]at ea;exact mem_of_getElem? ea
        exact fr a ma
       refine hQ (ρ1++[a]) H' _ (x1.trans R1 (x3.name na)) (R3.name out l1 (ups l2 c4)) ?_;simp only[RD];refine⟨a,?_,rfl⟩;have:w+(List.drop w h1).length=ρ1.length:=by rw[length_drop,R1.len];omega
       rw[this];simp
      .cases hm
     .cases hm
   .next d' nd=>
    split at hm
    .next c4=>cases hm;exact hQ ρ1 H' v (x1.trans R1 x3) R3 (up r2 c4)
    .cases hm
  .cases hm
 .cases hm
def Ae(kvs:List (Key×D))(k:Key):Option D:=(kvs.find? λkv=>decide (kv.1=k)).map (·.2)
def BP(kvs:List (Key×D))(k:Key)(v:D):List (Key×D):=
 if(kvs.any λkv=>decide (kv.1=k))=true then kvs.map (λkv=>if kv.1=k then(kv.1,v)else kv)else kvs++[(k,v)]
def RKs.val:∀{kvs:List (Key×D)} {xs:List (Key×V)} {k:Key} {d:D},RKs K ρ H kvs xs->Ae kvs k=some d->∃v,Ck xs k=some v/\RD K ρ H d v
 |[],xs,k,d,h,e=>by simp[Ae]at e
 |p::kvs,xs,k,d,h,e=>by
  simp only[RKs]at h;obtain⟨x,r,rfl,e1,r1,r2⟩:=h;by_cases hk:p.1=k
  .rw[DT (e1.trans hk)];simp[Ae,find?_cons,hk]at e;subst e;exact⟨_,rfl,r1⟩
  .rw[DU (by rw[e1];exact hk)];simp only[Ae,find?_cons,hk,decide_false]at e;exact RKs.val r2 e
def RKs.valN:∀{kvs:List (Key×D)} {xs:List (Key×V)} {k:Key},RKs K ρ H kvs xs->(Ck xs k).isSome=(Ae kvs k).isSome
 |[],xs,k,h=>by simp only[RKs]at h;subst h;rfl
 |p::kvs,xs,k,h=>by
  simp only[RKs]at h;obtain⟨x,r,rfl,e1,r1,r2⟩:=h;by_cases hk:p.1=k
  .rw[DT (e1.trans hk)];simp[Ae,find?_cons,hk]
  .rw[DU (by rw[e1];exact hk)];simp only[Ae,find?_cons,hk,decide_false];exact RKs.valN r2
def RKs.any:∀{kvs:List (Key×D)} {xs:List (Key×V)} {k:Key},RKs K ρ H kvs xs->(xs.any λkv=>decide (kv.1=k))=(kvs.any λkv=>decide (kv.1=k))
 |[],xs,k,h=>by simp only[RKs]at h;subst h;rfl
 |p::kvs,xs,k,h=>by
  simp only[RKs]at h;obtain⟨x,r,rfl,e1,r1,r2⟩:=h;simp only[any_cons,e1,RKs.any r2]
def RKs.upd:∀{kvs:List (Key×D)} {xs:List (Key×V)} {k:Key} {d:D} {v:V},RKs K ρ H kvs xs->RD K ρ H d v->RKs K ρ H (kvs.map (λkv=>if kv.1=k then(kv.1,d)else kv)) (xs.map (λkv=>if kv.1=k then(kv.1,v)else kv))
 |[],xs,k,d,v,h,_=>by simp only[RKs]at h;subst h;simp[RKs]
 |p::kvs,xs,k,d,v,h,q=>by
  simp only[RKs]at h;obtain⟨x,r,rfl,e1,r1,r2⟩:=h;simp only[map_cons,RKs];refine⟨_,_,rfl,?_,?_,RKs.upd r2 q⟩
  .rw[e1];split<;>simp[e1]
  .rw[e1];split
   .exact q
   .exact r1
def RKs.app:∀{kvs ks:List (Key×D)} {xs ys:List (Key×V)},RKs K ρ H kvs xs->RKs K ρ H ks ys->RKs K ρ H (kvs++ks) (xs++ys)
 |[],ks,xs,ys,h,t=>by simp only[RKs]at h;subst h;simpa using t
 |d::ds,ks,xs,ys,h,t=>by
  simp only[RKs]at h;obtain⟨x,r,rfl,e,z,q⟩:=h;simp only[cons_append,RKs];exact⟨_,_,rfl,e,z,q.app t⟩
def RKs.put{kvs:List (Key×D)}{xs:List (Key×V)}{k:Key}{d:D}{v:V}(h:RKs K ρ H kvs xs)(q:RD K ρ H d v):RKs K ρ H (BP kvs k d) (Ba xs k v):=by
 unfold BP Ba;rw[h.any];split
 .exact h.upd q
 .exact h.app (by simp only[RKs];exact⟨_,_,rfl,rfl,q,rfl⟩)
def Bs:D->Option Key
 |.im (.int i)=>some (.inl i)
 |.im (.str x)=>some (.inr x)
 |_=>none
def Ff{d:D}{v:V}{k:Key}(h:RD K ρ H d v)(e:Bs d=some k):v=kV k:=by
 cases d with
 |im i=>
  cases i with
  |int i=>simp only[Bs,Option.some.injEq]at e;subst e;simp only[RD,RI]at h;exact h
  |str i=>simp only[Bs,Option.some.injEq]at e;subst e;simp only[RD,RI]at h;exact h
  |_=>simp[Bs]at e
 |_=>simp[Bs]at e
def BJ(hd:Hd):D->Option (List (Key×D))
 |.mu n=>match hd[n]? with
  |some (.dic kvs)=>some kvs
  |_=>none
 |_=>none
def RD.dic{d:D}{v:V}{kvs:List (Key×D)}(hR:RH K ρ H hd)(h:RD K ρ H d v)(e:BJ hd d=some kvs):∃n a xs,d=.mu n/\v=.ref a/\ρ[n]?=some a/\H a=some (.dK xs)/\RKs K ρ H kvs xs:=by
 cases d with
 |mu n=>
  simp only[BJ]at e;simp only[RD]at h;obtain⟨a,hn,rfl⟩:=h;split at e
  .next q=>
   cases e;obtain⟨xs,e1,e2⟩:=hR.dic hn q;exact⟨n,a,xs,rfl,rfl,hn,e1,e2⟩
  .cases e
 |_=>simp[BJ]at e
def B3:D->D->Hd->Option (D×Hd):=λd e hd=>(BJ hd d).bind λkvs=>(Bs e).bind λk=>(Ae kvs k).map (·,hd)
def Rc{td ty:TE}{md my:ME}(hd:RE K td md)(hy:RE K ty my):RE K (LN td ty) (mOp B3 md my):=by
 intro ρ σ H hd0 ls Q d hd' hR hL hm hQ;obtain⟨⟨d1,h1⟩,e1,hm⟩:=Yp hm;obtain⟨⟨d2,h2⟩,e2,hm⟩:=Yp hm;obtain⟨kvs,e3,hm⟩:=Yp hm;obtain⟨k,e4,hm⟩:=Yp hm;obtain⟨w,e5,e6⟩:=Yq hm;cases e6;refine hd ρ σ H hd0 ls _ d1 h1 hR hL e1 λρ1 H1 v1 x1 R1 r1=>?_;refine hy ρ1 σ H1 h1 ls _ d2 _ R1 (hL.ext hR x1) e2 λρ2 H2 v2 x2 R2 r2=>?_;obtain⟨n,a,xs,rfl,rfl,hn,l1,l2⟩:=RD.dic R2 (r1.ext R1 x2) e3;have:=Ff r2 e4;subst this;obtain⟨v,v1,v2⟩:=l2.val e5;exact⟨a,v,rfl,v1 ▸ DGet.k l1,hQ ρ2 H2 v (x1.trans R1 x2) R2 v2⟩
def Hg(neg:Bool):D->D->Hd->Option (D×Hd):=λe d hd=>(BJ hd d).bind λkvs=>(Bs e).map λk=>(.im (.bl (if neg then !(Ae kvs k).isSome else(Ae kvs k).isSome)),hd)
def UE{td ty:TE}{md my:ME}(hd:RE K td md)(hy:RE K ty my):RE K (OQ ty td) (mOp (Hg false) my md):=by
 intro ρ σ H hd0 ls Q d hd' hR hL hm hQ;obtain⟨⟨d1,h1⟩,e1,hm⟩:=Yp hm;obtain⟨⟨d2,h2⟩,e2,hm⟩:=Yp hm;obtain⟨kvs,e3,hm⟩:=Yp hm;obtain⟨k,e4,e6⟩:=Yq hm;cases e6;refine hy ρ σ H hd0 ls _ d1 h1 hR hL e1 λρ1 H1 v1 x1 R1 r1=>?_;refine hd ρ1 σ H1 h1 ls _ d2 _ R1 (hL.ext hR x1) e2 λρ2 H2 v2 x2 R2 r2=>?_;obtain⟨n,a,xs,rfl,rfl,hn,l1,l2⟩:=RD.dic R2 r2 e3;have:=Ff r1 e4;subst this;refine⟨a,_,rfl,DGet.k l1,?_⟩;rw[l2.valN];exact hQ ρ2 H2 _ (x1.trans R1 x2) R2 (by simp[RD,RI])
open Classical in
def Bn(md my mv:ME):MS:=λls hd=>(mv ls hd).bind λp=>(md ls p.2).bind λq=>(my ls q.2).bind λr=>(Bs r.1).bind λk=>match q.1 with
 |.mu n=>match r.2[n]? with
  |some (.dic kvs)=>if CD kvs.length then some (.nx ls,r.2.set n (.dic (BP kvs k p.1)))else none
  |_=>none
 |_=>none
def Qx{td ty tv:TE}{md my mv:ME}(hd:RE K td md)(hy:RE K ty my)(hv:RE K tv mv):RS K (LV td ty tv) (Bn md my mv):=by
 intro ρ σ H hd0 ls E f hd' hR hL hm hQ;obtain⟨⟨d1,h1⟩,e1,hm⟩:=Yp hm;obtain⟨⟨d2,h2⟩,e2,hm⟩:=Yp hm;obtain⟨⟨d3,h3⟩,e3,hm⟩:=Yp hm;obtain⟨k,e4,hm⟩:=Yp hm;dsimp only at hm;split at hm
 .split at hm
  .next q=>
   split at hm
   .next c=>
    cases hm;refine hv ρ σ H hd0 ls _ d1 h1 hR hL e1 λρ1 H1 v1 x1 R1 r1=>?_;refine hd ρ1 σ H1 h1 ls _ _ h2 R1 (hL.ext hR x1) e2 λρ2 H2 v2 x2 R2 r2=>?_;refine hy ρ2 σ H2 h2 ls _ d3 _ R2 (hL.ext hR (x1.trans R1 x2)) e3 λρ3 H3 v3 x3 R3 r3=>?_;have r2:=r2.ext R2 x3;simp only[RD]at r2;obtain⟨a,hn,rfl⟩:=r2;obtain⟨xs,l1,l2⟩:=R3.dic hn q;have:=Ff r3 e4;subst this;obtain⟨R4,x4⟩:=R3.put hn (o:=.dic (BP _ k d1)) (ho:=.dK (Ba xs k v1)) ⟨_,rfl,l2.put ((r1.ext R1 x2).ext R2 x3)⟩;have x13:=(x1.trans R1 x2).trans R2 x3;exact⟨a,_,rfl,DPut.k l1 (by rw[l2.len];exact c),hQ ρ3 _ (x13.trans R3 x4) R4 σ ((hL.ext hR x13).ext R3 x4)⟩
   .cases hm
  .cases hm
 .cases hm
def D0:List (ME×ME)->Ls->Hd->Option (List (Key×D)×Hd)
 |[],_,hd=>some ([],hd)
 |(mk,mv)::r,ls,hd=>(mk ls hd).bind λp=>(mv ls p.2).bind λq=>(D0 r ls q.2).bind λz=>(Bs p.1).map λk=>((k,q.1)::z.1,z.2)
def EK(kvs more:List (Key×D)):List (Key×D):=more.foldl (λacc kv=>BP acc kv.1 kv.2) kvs
def RKs.merge:∀{more kvs:List (Key×D)} {ms xs:List (Key×V)},RKs K ρ H more ms->RKs K ρ H kvs xs->RKs K ρ H (EK kvs more) (Cz xs ms)
 |[],kvs,ms,xs,h,t=>by simp only[RKs]at h;subst h;exact t
 |d::ds,kvs,ms,xs,h,t=>by
  simp only[RKs]at h;obtain⟨x,r,rfl,e,z,q⟩:=h;show RKs K ρ H (EK (BP kvs d.1 d.2) ds) (Cz (Ba xs x.1 x.2) r);rw[e];exact q.merge (t.put z)
def RPs(K:PySem.W.Frag):List (TE×TE)->List (ME×ME)->Prop
 |[],[]=>True
 |t::ts,m::ms=>RE K t.1 m.1/\RE K t.2 m.2/\RPs K ts ms
 |_,_=>False
def JP:∀{trs:List (TE×TE)} {ms:List (ME×ME)},RPs K trs ms->∀(ρ:List Addr) (σ:St) (H:Hp) (hd:Hd) (ls:Ls) (Q:List (V×V)->Hp->Prop) (kvs:List (Key×D)) (hd':Hd),RH K ρ H hd->RL K ρ H ls σ->D0 ms ls hd=some (kvs,hd') ->
 (∀ρ' H' xs,Ext ρ H ρ' H'->RH K ρ' H' hd'->RKs K ρ' H' kvs xs->Q (xs.map λkv=>(kV kv.1,kv.2)) H')->F4 trs σ H Q
 |[],[],_,ρ,σ,H,hd,ls,Q,kvs,hd',hR,hL,hm,hQ=>by
  cases hm;exact hQ ρ H [] .refl hR (by simp[RKs])
 |(tk,tv)::ts,(mk,mv)::ms,⟨a,b,c⟩,ρ,σ,H,hd,ls,Q,kvs,hd',hR,hL,hm,hQ=>by
   unfold D0 at hm;obtain⟨⟨d1,h1⟩,e1,hm⟩:=Yp hm;obtain⟨⟨d2,h2⟩,e2,hm⟩:=Yp hm;obtain⟨⟨d3,h3⟩,e3,hm⟩:=Yp hm;obtain⟨k,e4,e5⟩:=Yq hm;cases e5;unfold F4;refine a ρ σ H hd ls _ d1 h1 hR hL e1 λρ1 H1 v1 x1 R1 r1=>?_;refine b ρ1 σ H1 h1 ls _ d2 h2 R1 (hL.ext hR x1) e2 λρ2 H2 v2 x2 R2 r2=>?_;refine JP c ρ2 σ H2 h2 ls _ d3 _ R2 (hL.ext hR (x1.trans R1 x2)) e3 λρ3 H3 xs x3 R3 r3=>?_;have:=Ff r1 e4;subst this;exact hQ ρ3 H3 ((k,v2)::xs) ((x1.trans R1 x2).trans R2 x3) R3 (by simp only[RKs];exact⟨_,_,rfl,rfl,r2.ext R2 x3,r3⟩)
 |[],_::_,h,_,_,_,_,_,_,_,_,_,_,_,_=>h.elim
 |_::_,[],h,_,_,_,_,_,_,_,_,_,_,_,_=>h.elim
def Gn(ms:List (ME×ME)):ME:=λls hd=>(D0 ms ls hd).bind λp=>if p.1.length<=15 then some (.mu p.2.length,p.2++[.dic (EK [] p.1)])else none
def RH.nameD(hR:RH K ρ H hd){a:Addr}{xs:List (Key×V)}{kvs:List (Key×D)}(out:a∉ρ){o:HO}(e:H a=some o)(ht:∀ys,o≠.tup ys)(hf:∀x u,o≠.frz x u)(r:RKs K ρ H kvs xs)(h1:∀ps,o≠.tbl ps:=by intro _ z;cases z)(h2:∀φ,o≠.ext φ:=by intro _ z;cases z):RH K (ρ++[a]) (upd H a (.dK xs)) (hd++[.dic kvs]):=by
 have gr:Grow H (upd H a (.dK xs)):=Grow.refl.put ⟨λys z=>ht ys (by rw[e]at z;exact Option.some.inj z),λx u z=>hf x u (by rw[e]at z;exact Option.some.inj z)⟩;refine⟨by simp[hR.len],?_,hR.tabs.upd (λps z=>h1 ps (Option.some.inj (e.symm.trans z))) (λps z=>h2 ps (Option.some.inj (e.symm.trans z))),λn o' b e1 e2=>?_⟩
 .rw[List.nodup_append];refine⟨hR.nd,by simp,λx hx y hy z=>?_⟩;simp at hy;subst hy;subst z;exact out hx
 .by_cases hn:n<ρ.length
  .rw[List.getElem?_append_left hn]at e2;rw[List.getElem?_append_left (by rw[<- hR.len];exact hn)]at e1;obtain⟨ho',q1,q2⟩:=hR.ob n o' b e1 e2;have:b≠a:=λz=>out (by rw[<- z];exact mem_of_getElem? e2);exact⟨ho',by rw[AH this];exact q1,q2.mono gr [a]⟩
  .have hn':n=ρ.length:=by
    have:=(List.getElem?_eq_some_iff.mp e2).1;simp at this;omega
   subst hn';simp at e2;rw[hR.len]at e1;simp at e1;subst e1;subst e2;exact⟨_,AL,⟨xs,rfl,r.mono gr [_]⟩⟩
def Rb{trs:List (TE×TE)}{ms:List (ME×ME)}(h:RPs K trs ms):RE K (LM trs) (Gn ms):=by
 and_intros;obtain⟨⟨kvs,h1⟩,e1,hm⟩:=Yp hm;dsimp only at hm;split at hm
 .next c=>
  cases hm;intro p hp;obtain⟨R0,x0⟩:=hR.hid (ho:=.dK []) hp;refine JP h ρ σ _ hd ls _ kvs h1 R0 (hL.ext hR x0) e1 λρ1 H1 xs x1 R1 r1=>?_;have hp1:H1 p=some (.dK []):=x1.keep p _ AL (hR.out hp) nt;have op:p∉ρ1:=by
   obtain⟨r,rfl,fr⟩:=x1.pre;intro z;rcases mem_append.mp z with z|z
   .exact hR.out hp z
   .have:=fr _ z;rw[AL]at this;cases this
  refine⟨hp1,xs,rfl,by rw[r1.len];exact c,?_⟩;have mm:RKs K ρ1 H1 (EK [] kvs) (Cz [] xs):=r1.merge (by simp[RKs]);have R2:=R1.nameD op hp1 (λ_ z=>by cases z) (λ_ _ z=>by cases z) mm;have x01:=x0.trans R0 x1;refine hQ (ρ1++[p]) _ _ ?_ R2 ?_
  .obtain⟨r,er,fr⟩:=x01.pre;refine⟨⟨r++[p],by rw[er];simp,λb m=>?_⟩,λb o q nb t=>?_,λb ps q=>?_⟩
   .rcases mem_append.mp m with m|m
    .exact fr b m
    .simp at m;subst m;exact hp
   .have:b≠p:=AT q hp;rw[AH this];exact x01.keep b o q nb t
   .have:b≠p:=AT q hp;rw[AH this];exact x01.tab b ps q
  .simp only[RD];exact⟨p,by rw[<- R1.len];simp,rfl⟩
 .cases hm
def Q7(mo mi mv:ME):MS:=λls hd=>(mv ls hd).bind λp=>(mo ls p.2).bind λq=>(mi ls q.2).bind λr=>match q.1,r.1 with
 |.mu n,.im (.int i)=>match r.2[n]? with
  |some (.lst ds)=>(ixN ds.length i).map λj=>(.nx ls,r.2.set n (.lst (ds.set j p.1)))
  |_=>none
 |_,_=>none
end
end L2
namespace L2
open PySem PySem.Spec PyProof.Rows
structure QG(K:PySem.W.Frag)(X:Cx)(e:Expr)(t:TG)(m:MG):Prop where
 p:PG X e t
 r:RGt K t m
structure QGs(K:PySem.W.Frag)(X:Cx)(e:List Expr)(t:TGs)(m:MGs):Prop where
 p:PGs X e t
 r:Jy K t m
structure QI(K:PySem.W.Frag)(X:Cx)(tg e:Expr)(t:TI)(m:MI):Prop where
 p:PI X tg e t
 r:RIt K t m
structure QF(K:PySem.W.Frag)(X:Cx)(e:List Expr)(t:TT)(m:MT):Prop where
 p:PF X e t
 r:RT K t m
structure QO(K:PySem.W.Frag)(X:Cx)(e:Option Expr)(t:TO)(m:MO1):Prop where
 p:PO X e t
 r:RO1 K t m
structure QPs(K:PySem.W.Frag)(X:Cx)(pos:Pos)(keys:List (Option Expr))(values:List Expr)(t:List (TE×TE))(m:List (ME×ME)):Prop where
 p:PPs X pos keys values t
 r:RPs K t m
def X5(a b:List D):Prop:=a≠[]/\BB (a.length+b.length)
open Classical in
def DI:D->D->Hd->Option (D×Hd):=λd e hd=>(A9 d).bind λa=>(A9 e).bind λb=>if X5 a b then some (AD (a++b),hd)else none
def KY{K:PySem.W.Frag}:RB K (Lg K) DI:=by
 intro ρ H hd d e v u Q z hd' hR h1 h2 hf hQ;unfold DI at hf;obtain⟨a,e1,hf⟩:=Yp hf;obtain⟨b,e2,hf⟩:=Yp hf;split at hf
 .next c=>
  cases hf;obtain⟨p,xs,rfl,q1,r1⟩:=h1.tup e1;obtain⟨p2,ys,rfl,q2,r2⟩:=h2.tup e2;have l1:=r1.len;have l2:=r2.len;refine⟨p,p2,xs,ys,rfl,rfl,q1,q2,λz=>c.1 (by rw[z]at l1;simpa using l1.symm),by rw[l1,l2];exact c.2,λz=>?_,λ_ p3 hp=>?_⟩
  .have:b=[]:=by rw[z]at l2;simpa using l2.symm
   subst this;exact hQ ρ H _ .refl hR (by rw[append_nil];exact Az q1 r1)
  .obtain⟨R2,x2⟩:=hR.hid (ho:=.tup (xs++ys)) hp;exact hQ ρ _ _ x2 R2 (Az (SqT.of AL) ((r1.app r2).ext hR x2))
 .cases hf
abbrev AC:=Bc Hh DI
def XR(neg:Bool)(m:ME):ME:=λls hd=>(m ls hd).bind λp=>some (.im (.bl (match p.1 with
 |.im .non=>!neg
 | _=>neg)),p.2)
def CK(m:ME):ME:=λls hd=>(m ls hd).bind λp=>match p.1 with
 |.im (.int i)=>some (.im (.int (-i)),p.2)
 |_=>none
def UA{K:PySem.W.Frag}{t:TE}{m:ME}(h:RE K t m):RE K (tUn (rU λi=>.int (-i)) t) (CK m):=by
 and_intros;obtain⟨⟨d1,h1⟩,e1,hm⟩:=Yp hm;dsimp only at hm;split at hm
 .cases hm;exact h ρ σ H hd ls _ _ _ hR hL e1 λρ1 H1 v x1 R1 r1=>⟨_,by simpa only[RD,RI]using r1,hQ ρ1 H1 _ x1 R1 (by simp[RD,RI])⟩
 .cases hm
def E2:MT:=λ_ hd=>some (true,hd)
def Tk{K:PySem.W.Frag}:RT K OF E2:=by
 and_intros;cases hm;exact hQ ρ H .refl hR
section
variable(K:PySem.W.Frag){X:Cx}{a b c e:Expr}{es:List Expr}{ta tb tc te:TE}{ma mb mc me:ME}{tA tB':TT}{nA nB:MT}{t:TA}{m:MA}{pos:Pos}{x:Str}
def qv(i:Nat){x:Str}{pos:Pos}(hN:X.N[i]?=some x:=by rfl)(hv:Vis X.env.scope x:=by first|exact Or.inl rfl|exact Or.inr (Or.inl rfl)|exact Or.inr (Or.inr rfl))(hd:(x==("__debug__":Str))=false:=by decide)
 (hcd:(x==("__classdict__":Str))=false:=by decide):QE K X (.Name x pos) (OG i) (A1 i):=⟨V9 hN hv hd hcd,U4⟩
def Uu{i:Int}{j pos}:QE K X (.Constant (.int i) j pos) (tC (.int i)) (mC (.int i)):=⟨VH,LY λ_=>by simp[RI]⟩
def Wi{i:Bool}{j pos}:QE K X (.Constant (.bool i) j pos) (tC (.bl i)) (mC (.bl i)):=⟨Wo,LY λ_=>by simp[RI]⟩
def Up{j pos}:QE K X (.Constant .none j pos) (tC .non) (mC .non):=⟨VE,LY λ_=>by simp[RI]⟩
def Ui{x:Str}{j pos}:QE K X (.Constant (.str x) j pos) (tC (.str x)) (mC (.str x)):=⟨VB,LY λ_=>by simp[RI]⟩
def Ds{op:Operator}{r:R2}{f:D->D->Hd->Option (D×Hd)}(ho:OpR X (binaryOp op) r)(hr:RB K r f)(ha:QE K X a ta ma)(hb:QE K X b tb mb):QE K X (.BinOp a op b pos) (tOp r ta tb) (mOp f ma mb):=⟨Lo ho ha.p hb.p,Ia hr ha.r hb.r⟩
def Ur(ha:QE K X a ta ma):QE K X (.UnaryOp .USub a pos) (tUn (rU λi=>.int (-i)) ta) (CK ma):=⟨Wm TZ ha.p,UA ha.r⟩
def N4{op:CmpOp}{r:R2}{f:D->D->Hd->Option (D×Hd)}(ho:OpR X (compareOp op) r)(hr:RB K r f)(ha:QE K X a ta ma)(hb:QE K X b tb mb)(hm:behindInMarks op b=false:=by first|exact EJ _|rfl):QE K X (.Compare a [op] [b] pos) (tOp r ta tb) (mOp f ma mb):=⟨Kg ho ha.p hb.p hm,Ia hr ha.r hb.r⟩
def DY{op:CmpOp}{r:R2}{f:D->D->Hd->Option (D×Hd)}(ho:OpR X (compareOp op) r)(hr:RB K r f)(ha:QE K X a ta ma)(hb:QE K X b tb mb)(hm:behindInMarks op b=false:=by first|exact EJ _|rfl):QT K X (.Compare a [op] [b] pos) (FY (tOp r ta tb)) (AJ (mOp f ma mb)):=⟨Fa ho ha.p hb.p hm,DM (Ia hr ha.r hb.r)⟩
def Ou(ha:QE K X a ta ma)(he:∀whole,isTrue a X.env whole=(do let v <- whole;standAt a.pos;holding [v] (truthy v)):=by intro _;rfl)(hK:X.K=K:=by rfl):
 QT K X a (λσ H Q=>ta σ H λx H'=>∃k,Jx K x H' k/\Q k H') (Br ma):=by
 subst hK;exact⟨P5 ha.p he,OZ ha.r⟩
def US(ha:QT K X a tA nA):QT K X (.UnaryOp .Not a pos) (OL tA) (GC nA):=⟨V0 ha.p,Tl ha.r⟩
def Rl(ha:QT K X a tA nA):QW K X (.BoolOp .And [a] pos) tA nA:=⟨SH ha.p,ha.r⟩
def UQ(ha:QT K X a tA nA):QW K X (.BoolOp .Or [a] pos) tA nA:=⟨Uy ha.p,ha.r⟩
def UR{rest:List Expr}(ha:QT K X a tA nA)(hb:QW K X (.BoolOp .And (b::rest) pos) tB' nB):QW K X (.BoolOp .And (a::b::rest) pos) (OT tA tB') (Dg nA nB):=⟨Uz ha.p hb.p,Tm ha.r hb.r⟩
def Wd{rest:List Expr}(ha:QT K X a tA nA)(hb:QW K X (.BoolOp .Or (b::rest) pos) tB' nB):QW K X (.BoolOp .Or (a::b::rest) pos) (tOr tA tB') (mOr nA nB):=⟨Wj ha.p hb.p,WR ha.r hb.r⟩
def QW.toT{K:PySem.W.Frag}{X:Cx}{e:Expr}{t:TT}{m:MT}(h:QW K X e t m):QT K X e t m:=⟨h.p.pt,h.r⟩
def Um{op}(ha:QE K X a ta ma):QE K X (.BoolOp op [a] pos) ta ma:=⟨VC ha.p,ha.r⟩
def Uw{rest:List Expr}(ha:QE K X a ta ma)(hb:QE K X (.BoolOp .And (b::rest) pos) tb mb):QE K X (.BoolOp .And (a::b::rest) pos) (LO ta tb) (El ma mb):=⟨VM ha.p hb.p,Re ha.r hb.r⟩
def Uo(ha:QE K X a ta ma):QE K X (.UnaryOp .Not a pos) (LK ta) (DE ma):=⟨VD ha.p,RX ha.r⟩
def P1(hc:QT K X c tA nA)(ha:QE K X a ta ma)(hb:QE K X b tb mb):QE K X (.IfExp c a b pos) (tIf tA ta tb) (mIf nA ma mb):=⟨PJ hc.p ha.p hb.p,WY hc.r ha.r hb.r⟩
def Ux:QA K X [] Bh A4:=⟨CZ,UM⟩
def SG(ha:QE K X e te me)(hr:QA K X es t m)(hs:starEach (e::es) X.env=(false,eval e X.env)::starEach es X.env:=by rfl):QA K X (e::es) (BD te t) (A0 me m):=⟨C2 ha.p hr.p hs,Rj ha.r hr.r⟩
def Uh{x1}(h:QA K X es t m):QE K X (.Tuple es x1 pos) (OH t) (AS m):=⟨VA h.p,U6 h.r⟩
def UZ(h:QA K X es t m):QN K X (.List es pos) (OM t) (AV m):=⟨VF h.p,Tu h.r⟩
def Uq(h:QN K X e te m):QE K X e te (AY m):=⟨h.p,Mt h.r⟩
def Wf(ha:QE K X a ta ma)(hb:QE K X b tb mb)(hs:Hs b:=by exact λ_ _=>rfl)(hK:X.K=K:=by rfl):QE K X (.Subscript a b pos) (tOp (Ib K) ta tb) (mOp gIx ma mb):=⟨Q2 ((JV K hK).or (Kl K hK)) ha.p hb.p hs,Ia WZ ha.r hb.r⟩
def SF(hu:X.A.units+1<cLine)(ha:QE K X a ta ma)(hb:QE K X b tb mb)(hs:Po b:=by exact λ_ _=>rfl):QE K X (.Subscript a b pos) (LN ta tb) (mOp B3 ma mb):=⟨Sc hu ha.p hb.p hs,Rc ha.r hb.r⟩
def Rz:QO K X none HH AI:=⟨SS,Qz⟩
def Ry(h:QE K X e te me):QO K X (some e) (LI te) (AN me):=⟨SR h.p,Qy h.r⟩
def Uj{lo hi:Option Expr}{tl th:TO}{ml mh:MO1}{p2:Pos}(h:QE K X e te me)(hl:QO K X lo tl ml)(hh:QO K X hi th mh)(hK:X.K=K:=by rfl):QE K X (.Subscript e (.Slice lo hi none p2) pos) (tSl (JK K) te tl th) (Dc me ml mh):=⟨Eg (Qk K hK) h.p hl.p hh.p,U7 h.r hl.r hh.r⟩
def UY{lo hi:Option Expr}{tl th:TO}{ml mh:MO1}{p2:Pos}(h:QE K X e te me)(hl:QO K X lo tl ml)(hh:QO K X hi th mh)(hK:X.K=K:=by rfl):QN K X (.Subscript e (.Slice lo hi none p2) pos) (tSl (Lc K) te tl th) (FF me ml mh):=⟨Eg (OW K hK) h.p hl.p hh.p,Tt h.r hl.r hh.r⟩
def Gg{id:String}{p:Pos}{r:List V->Hp->VK->Prop}{f:List D->Hd->Option (D×Hd)}(hc:CallR X (.builtin id) r)(hr:RF K r f)(hm:X.mg x=none)(hv:bootBuiltins x=some (.builtin id))(ha:QA K X (e::es) t m)(hg:Gl X x:=by rfl)(hn:x≠"__name__":=by decide)(hdb:(x==("__debug__":Str))=false:=by decide)
 (he:starEach (e::es) X.env=(false,eval e X.env)::starEach es X.env:=by rfl) (hpl:(backTo pos (starEach es X.env)).any (·.1)=false:=by rfl):QE K X (.Call (.Name x p) (e::es) [] pos) (tCB r t) (mCB f m):=⟨Eh hc hg hm hv ha.p hn hdb he hpl,Pw hr ha.r⟩
def Lk{id:String}{p:Pos}{r:List V->Hp->VK->Prop}{f:List D->Hd->Option (D×Hd)}(hc:CallR X (.type id) r)(hr:RF K r f)(hm:X.mg x=none)(hv:bootBuiltins x=some (.type id))(ha:QA K X (e::es) t m)(hg:Gl X x:=by rfl)(hn:x≠"__name__":=by decide)(hdb:(x==("__debug__":Str))=false:=by decide)
 (he:starEach (e::es) X.env=(false,eval e X.env)::starEach es X.env:=by rfl) (hpl:(backTo pos (starEach es X.env)).any (·.1)=false:=by rfl):QE K X (.Call (.Name x p) (e::es) [] pos) (tCB r t) (mCB f m):=⟨CS hc hg hm hv ha.p hn hdb he hpl,Pw hr ha.r⟩
def Wh{id:String}{p:Pos}{r:List V->Hp->VK->Prop}{tp:Bool}{g:List D->Option D}(hc:CallR X (.builtin id) r)(hr:RG K tp r g)(hm:X.mg x=none)(hv:bootBuiltins x=some (.builtin id))(ha:QN K X e te m)(hg:Gl X x:=by rfl)(hn:x≠"__name__":=by decide)(hdb:(x==("__debug__":Str))=false:=by decide)
 (he:starEach [e] X.env=[(false,eval e X.env)]:=by rfl):QE K X (.Call (.Name x p) [e] [] pos) (tCB r (BD te Bh)) (D7 g m):=⟨Eh hc hg hm hv (C2 ha.p CZ he) hn hdb he rfl,Mv hr ha.r⟩
def Wg{id:String}{p:Pos}{r:List V->Hp->VK->Prop}{tp:Bool}{g:List D->Option D}(hc:CallR X (.type id) r)(hr:RG K tp r g)(hm:X.mg x=none)(hv:bootBuiltins x=some (.type id))(ha:QN K X e te m)(hg:Gl X x:=by rfl)(hn:x≠"__name__":=by decide)(hdb:(x==("__debug__":Str))=false:=by decide)
 (he:starEach [e] X.env=[(false,eval e X.env)]:=by rfl):QE K X (.Call (.Name x p) [e] [] pos) (tCB r (BD te Bh)) (D7 g m):=⟨CS hc hg hm hv (C2 ha.p CZ he) hn hdb he rfl,Mv hr ha.r⟩
def S0{p:Pos}(hm:X.mg "list"=none)(ha:QE K X e te me)(hg:Gl X "list":=by rfl)(he:starEach [e] X.env=[(false,eval e X.env)]:=by rfl)(hK:X.K=K:=by rfl):QN K X (.Call (.Name "list" p) [e] [] pos) (tCB (EE K) (BD te Bh)) (DF me):=⟨CS (Gz K hK) hg hm Ho (C2 ha.p CZ he) (by decide) (by decide) he rfl,R9 ha.r⟩
def Oy{p:Pos}(hm:X.mg "list"=none)(ha:QN K X e te m)(hg:Gl X "list":=by rfl)(he:starEach [e] X.env=[(false,eval e X.env)]:=by rfl)(hK:X.K=K:=by rfl):QN K X (.Call (.Name "list" p) [e] [] pos) (tCB (EE K) (BD te Bh)) (EL m):=⟨CS (Gz K hK) hg hm Ho (C2 ha.p CZ he) (by decide) (by decide) he rfl,Oc ha.r⟩
def Lj{id:String}{r:V->List V->Hp->VK->Prop}{f:D->List D->Hd->Option (D×Hd)}{name:Str}{apos cpos:Pos}{o:Expr}{to:TE}{mo:ME}(slot:Slot "list" name id)(hty:typeOf (.builtin id)=pure (.type "method_descriptor"))(hm:MtM X id r)(hr:RM K r f)(ho:QE K X o to mo)(ha:QA K X (e::es) t m)
 (hbase:attributeBase o name X.env (eval o X.env)=eval o X.env:=by rfl)
 (hfew:((backTo cpos (starEach (e::es) X.env)).all (λx=>!x.1)&&(backToKw cpos (keywordEach [] X.env)).all (λx=>x.1.isSome)
  && decide ((e::es).length+([]:List Keyword).length+(if([]:List Keyword).isEmpty then 0 else 1)<30))=true:=by rfl)
 (hline:(apos.endLine==cpos.line)=true:=by rfl) (hs:starEach (e::es) X.env=(false,eval e X.env)::starEach es X.env:=by rfl) (hplain:(backTo cpos (starEach es X.env)).any (·.1)=false:=by rfl) (hK:X.K=K:=by rfl):
 QE K X (.Call (.Attribute o name apos) (e::es) [] cpos) (tBM K "list" r to t) (mMt f mo m):=by
 subst hK;exact⟨Wn PySem.F.plainAttrs_list slot hty hm ho.p ha.p hbase hfew hline hs hplain,WX hr ho.r ha.r⟩
def P2(w:Nat){j k:Nat}{f:Addr}{fd:FuncData}{ps:List Str}{n:Nat}{F:List D->Hd->Option (D×Hd)}{st:Stmt}{p:Pos}(G:FnOk X.prog X.w X.K X.mg X.base CX0 j f fd ps (spF K n F))(hr:Room k X.A)(DA:DefAt X.K X.mg x st f fd ps)(ha:QA K X (e::es) t m)(hF:∀ds hd z,F ds hd=some z->ds.length=n)
 (hjk:j<=k:=by decide) (hg:Gl X x:=by rfl) (hdb:(x==("__debug__":Str))=false:=by decide) (he:starEach (e::es) X.env=(false,eval e X.env)::starEach es X.env:=by rfl) (hpl:(backTo pos (starEach es X.env)).any (·.1)=false:=by rfl):
 QE K X (.Call (.Name x p) (e::es) [] pos) (Dr (spF K n F) [] E0 t) (A6 w F m):=⟨Q3 G hr DA ha.p hjk hg hdb he hpl,Oj ha.r hF⟩
def P3{j k:Nat}{f:Addr}{fd:FuncData}{ps:List Str}{n:Nat}{F:List D->Hd->Option (D×Hd)}{st:Stmt}{p:Pos}(G:FnOk X.prog X.w X.K X.mg X.base CX0 j f fd ps (spF K n F))(hr:Room k X.A)(DA:DefAt X.K X.mg x st f fd ps)(ha:QA K X (e::es) t m)(hF:∀ds hd z,F ds hd=some z->ds.length=n)
 (hjk:j<=k:=by decide) (hg:Gl X x:=by rfl) (hdb:(x==("__debug__":Str))=false:=by decide) (he:starEach (e::es) X.env=(false,eval e X.env)::starEach es X.env:=by rfl) (hpl:(backTo pos (starEach es X.env)).any (·.1)=false:=by rfl):
 QE K X (.Call (.Name x p) (e::es) [] pos) (Dr (spF K n F) [] E0 t) (Am F m):=⟨Q3 G hr DA ha.p hjk hg hdb he hpl,Ol ha.r hF⟩
def Rx{pos:Pos}:QPs K X pos [] [] [] []:=⟨SQ,trivial⟩
def Ow{pos:Pos}{k v:Expr}{ks:List (Option Expr)}{vs:List Expr}{tk tv:TE}{mk mv:ME}{trs:List (TE×TE)}{ms:List (ME×ME)}(hk:QE K X k tk mk)(hv:QE K X v tv mv)(hr:QPs K X pos ks vs trs ms):QPs K X pos (some k::ks) (v::vs) ((tk,tv)::trs) ((mk,mv)::ms):=⟨P7 hk.p hv.p hr.p,hk.r,hv.r,hr.r⟩
def SE{pos:Pos}{keys:List (Option Expr)}{values:List Expr}{trs:List (TE×TE)}{ms:List (ME×ME)}(h:QPs K X pos keys values trs ms)(hall:keys.all (·.isSome)=true:=by rfl)(hl:keys.length=values.length:=by rfl)(h0:keys≠[]:=by simp)
 (h15:keys.length<=15:=by decide):QE K X (.Dict keys values pos) (LM trs) (Gn ms):=⟨Sb h.p hall hl h0 h15,Rb h.r⟩
def S7{i:Nat}(hN:X.N.Nodup)(hi:X.N[i]?=some x)(hx:Loc X.env.scope x)(hf:X.fn x=true∨X.env.scope.names.lookup x=some .local:=by first|exact .inl rfl|exact .inr rfl|assumption):QG K X (.Name x pos) (Ct i) (AU i):=⟨SY hN hi hx hf,HJ⟩
def S6:QGs K X [] JY G9:=⟨Kf,RP⟩
def P0{tg:TG}{tgs:TGs}{n:MG}{ns:MGs}(h1:QG K X e tg n)(h2:QGs K X es tgs ns)(hs:(assignEach (e::es) X.env).map (·.2)=assign e X.env::(assignEach es X.env).map (·.2):=by rfl):QGs K X (e::es) (Ep tg tgs) (Ca n ns):=⟨G4 h1.p h2.p hs,Of h1.r h2.r⟩
def Ud{k n:Nat}{tgs:TGs}{ns:MGs}(hc:X.calm=true)(h:QGs K X es tgs ns)(hK:X.K=K:=by rfl)(hn:(assignEach es X.env).length=n:=by rfl)(hst:(assignEach es X.env).findIdx? (·.1)=none:=by rfl):QG K X (.Tuple es k pos) (Hb K n tgs) (G8 n ns):=⟨SX K hc h.p hK hn hst,U0 h.r⟩
def Ub{tg:Expr}(h:QE K X e te me)(hK:X.K=K:=by rfl):QI K X tg e (Lz K te) (CL me):=⟨SV K h.p hK,Tx h.r⟩
def S5{tg:Expr}(h:QE K X e te me)(hK:X.K=K:=by rfl):QI K X tg e (Fg K te) (De me):=⟨JO K h.p hK,RO h.r⟩
def Uc{tg:Expr}(h:QN K X e te m)(hK:X.K=K:=by rfl):QI K X tg e (Fg K te) (GE m):=⟨JO K h.p hK,Tz h.r⟩
def S4{tg:Expr}{p:Pos}(hm:X.mg "range"=none)(ha:QA K X [a] t m)(hg:Gl X "range":=by rfl)(hs:starEach [a] X.env=[(false,eval a X.env)]:=by rfl):QI K X tg (.Call (.Name "range" p) [a] [] pos) (M1 t) (Bl m):=⟨N8 hg hm ha.p hs,RK ha.r⟩
def S3{tg:Expr}{p:Pos}(hm:X.mg "range"=none)(ha:QA K X [a,b] t m)(hg:Gl X "range":=by rfl)(hs:starEach [a,b] X.env=[(false,eval a X.env),(false,eval b X.env)]:=by rfl)(hs2:starEach [b] X.env=[(false,eval b X.env)]:=by rfl):QI K X tg (.Call (.Name "range" p) [a,b] [] pos) (M0 t) (DG m):=⟨N7 hg hm ha.p hs hs2,RJ ha.r⟩
def Uf:QF K X [] OF E2:=⟨V8,Tk⟩
def Ue(h:QT K X c tA nA):QF K X [c] tA nA:=⟨V7 h.p,h.r⟩
def S2{elt tg iter:Expr}{ifs:List Expr}{scope:Scope}{loc fr:List Str}{ix:List Nat}{wi:TI}{g:TG}{tf:TT}{te:TE}{mi:MI}{n:MG}{mf:MT}{mm:ME}(hc:X.calm=true)(S:CSc X scope fr ix)(hi:QI K X tg iter wi mi)
 (hg:∀s H ex,QG K (cCx X (loc++fr) scope s H ex) tg g n) (hf:∀s H ex,QF K (cCx X (loc++fr) scope s H ex) ifs tf mf) (he:∀s H ex,QE K (cCx X (loc++fr) scope s H ex) elt te mm)
 (hs:∀x,foldedSetIterable iter X.env x=pure x:=by intro _;rfl):QN K X (.ListComp elt [⟨tg,iter,ifs,0⟩] scope pos) (Ed loc.length ix wi g tf te) (BU loc.length ix mi n mf mm):=
 ⟨Sd hc S hi.p (λs H ex=>(hg s H ex).p) (λs H ex=>(hf s H ex).p) (λs H ex=>(he s H ex).p) hs,KS hi.r (hg X.s₀ X.H₀ []).r (hf X.s₀ X.H₀ []).r (he X.s₀ X.H₀ []).r⟩
def Rp:QSs K X [] GW Au:=⟨SJ,KQ⟩
def Ov{st:Stmt}{rest:List Stmt}{u v:TS}{m1 m2:MS}(h1:QS K X st u m1)(h2:QSs K X rest v m2):QSs K X (st::rest) (OI u v) (A7 m1 m2):=⟨P6 h1.p h2.p,To h1.r h2.r⟩
def Ro{st:Stmt}{u:TS}{m1:MS}(h1:QS K X st u m1):QSs K X [st] u m1:=⟨SI h1.p,h1.r⟩
def Rr:QS K X (.Pass pos) GW Au:=⟨SL,KQ⟩
def Rt(he:QE K X e te me)(hs:swapsWith e none pos.line X.env=pure false:=by rfl):QS K X (.Expr e pos) (LL te) (BM me):=⟨SN he.p hs,Qw he.r⟩
def UV(he:QE K X e te me):QS K X (.Return (some e) pos) (OJ te) (AX me):=⟨V2 he.p,Tq he.r⟩
def We{a b:List Stmt}{u v:TS}{m1 m2:MS}(hc:QT K X c tA nA)(ha:QSs K X a u m1)(hb:QSs K X b v m2):QS K X (.If c a b pos) (OO tA u v) (B8 nA m1 m2):=⟨Wl hc.p ha.p hb.p,WV hc.r ha.r hb.r⟩
def UU{i:Nat}{pos':Pos}(hN:X.N.Nodup)(hi:X.N[i]?=some x)(hx:Loc X.env.scope x)(he:QE K X e te me)(hs:swapsWith e (some (.Name x pos')) pos.line X.env=pure false:=by rfl)(hf:X.fn x=true∨X.env.scope.names.lookup x=some .local:=by first|exact .inl rfl|exact .inr rfl|assumption):
 QS K X (.Assign [.Name x pos'] e pos) (Dz te (Ct i)) (AG i me):=⟨V1 hN hi hx he.p hs hf,Mo he.r HJ⟩
def Rq{i:Nat}{y:Str}{elt tg iter:Expr}{ifs:List Expr}{scope:Scope}{spos py:Pos}{loc fr:List Str}{ix:List Nat}{wi:TI}{g:TG}{tf:TT}{te:TE}{mi:MI}{n:MG}{mf:MT}{mm:ME}(hN:X.N.Nodup)(hiN:X.N[i]?=some y)(hy:X.env.scope.names.lookup y=some .local)
 (hc:X.calm=true) (S:CSc X scope fr ix) (hi:QI K X tg iter wi mi)
 (hg:∀s H ex,QG K (cCx X (loc++fr) scope s H ex) tg g n) (hf:∀s H ex,QF K (cCx X (loc++fr) scope s H ex) ifs tf mf) (he:∀s H ex,QE K (cCx X (loc++fr) scope s H ex) elt te mm)
 (hsw:swapsWith (.ListComp elt [⟨tg,iter,ifs,0⟩] scope pos) (some (.Name y py)) spos.line X.env=pure true:=by rfl) (hs:∀x,foldedSetIterable iter X.env x=pure x:=by intro _;rfl):
 QS K X (.Assign [.Name y py] (.ListComp elt [⟨tg,iter,ifs,0⟩] scope pos) spos) (Dz (Ed loc.length ix wi g tf te) (Ct i)) (AG i (AY (BU loc.length ix mi n mf mm))):=
 ⟨SK hN hiN hy hc S hi.p (λs H ex=>(hg s H ex).p) (λs H ex=>(hf s H ex).p) (λs H ex=>(he s H ex).p) hsw hs,Mo (Mt (KS hi.r (hg X.s₀ X.H₀ []).r (hf X.s₀ X.H₀ []).r (he X.s₀ X.H₀ []).r)) HJ⟩
def UW{i j:Nat}{x y:Str}{a b:Expr}{px py pt:Pos}{kt k2 pt2}(hc:X.calm=true)(hN:X.N.Nodup)(hi:X.N[i]?=some x)(hj:X.N[j]?=some y)(hij:i≠j)
 (hx:X.env.scope.names.lookup x=some .local) (hy:X.env.scope.names.lookup y=some .local) (ha:QA K X [a,b] t m)
 (hw:swappedStores [.Tuple [.Name x px,.Name y py] kt pt] (.Tuple [a,b] k2 pt2) X.env=pure (some [x,y]):=by rfl)
 (hs:swapsWithSole [.Tuple [.Name x px,.Name y py] kt pt] (.Tuple [a,b] k2 pt2) pos.line X.env=pure false:=by rfl):
 QS K X (.Assign [.Tuple [.Name x px,.Name y py] kt pt] (.Tuple [a,b] k2 pt2) pos) (OK i j t) (Ej [i,j] m):=⟨V3 hc hN hi hj hij hx hy ha.p hw,Tr ha.r⟩
def Rs{i j k:Nat}{x y z:Str}{a b c:Expr}{px py pz pt:Pos}{kt k2 pt2}(hc:X.calm=true)(hN:X.N.Nodup)(hi:X.N[i]?=some x)(hj:X.N[j]?=some y)(hk:X.N[k]?=some z)
 (hx:X.env.scope.names.lookup x=some .local) (hy:X.env.scope.names.lookup y=some .local) (hz:X.env.scope.names.lookup z=some .local) (ha:QA K X [a,b,c] t m)
 (hw:swappedStores [.Tuple [.Name x px,.Name y py,.Name z pz] kt pt] (.Tuple [a,b,c] k2 pt2) X.env=pure (some [x,y,z]):=by rfl)
 (hs:swapsWithSole [.Tuple [.Name x px,.Name y py,.Name z pz] kt pt] (.Tuple [a,b,c] k2 pt2) pos.line X.env=pure false:=by rfl):
 QS K X (.Assign [.Tuple [.Name x px,.Name y py,.Name z pz] kt pt] (.Tuple [a,b,c] k2 pt2) pos) (LJ i j k t) (Gm i j k m):=⟨SM hc hN hi hj hk hx hy hz ha.p hw hs,Qv ha.r⟩
def Ru{o i value:Expr}{pos':Pos}{td ty tv:TE}{md my mv:ME}(hu:X.A.units+1<cLine)(ho:QE K X o td md)(hi:QE K X i ty my)(hv:QE K X value tv mv)(hs:swapsWith value (some (.Subscript o i pos')) pos.line X.env=pure false:=by rfl):
 QS K X (.Assign [.Subscript o i pos'] value pos) (LV td ty tv) (Bn md my mv):=⟨SO hu ho.p hi.p hv.p hs,Qx ho.r hi.r hv.r⟩
def UX{tg iter:Expr}{body:List Stmt}{wi:TI}{g:TG}{tb:TS}{mi:MI}{n:MG}{mb:MS}(hc:X.calm=true)(hi:QI K X tg iter wi mi)(hg:QG K X tg g n)(hb:QSs K X body tb mb)(hp:PassesOwn (model X.prog X.w) X.A X.env X.xe:=by exact PassesOwn.never)
 (hs:∀x,foldedSetIterable iter X.env x=pure x:=by intro _;rfl):QS K X (.For tg iter body [] pos) (OP wi g tb) (BG mi n mb):=⟨V4 hp hc hi.p hg.p hb.p hs,Ts hi.r hg.r hb.r⟩
end
def Sn{P:Program}{w:World}{K:PySem.W.Frag}{mg:Str->Option Value}{base:Heap}{x:Str}{st:Stmt}{f:Addr}{fd:FuncData}{N ps:List Str}{j:Nat}{m:MS}(DA:DefAt K mg x st f fd ps)(S:FnScope N ps (AM st))
 (h:∀(cdv:Value) (A:Around) (outer:List Env) (s:Shared) (H:Hp) (E:XK),Room j (A.deeper (envOfC x (AM st) s.heap.objs.size f cdv))->∃t,QSs K (FQ CX0 P w K mg base N x (AM st) f cdv A outer s H E).nox (BK st) t m):
 FnOk P w K mg base CX0 (j+1) f fd ps (spF K ps.length (mkF ps.length N.length m)):=by
 refine DA.fn.ok S (λvs H Q E h=>h.1) (λcdv A outer s H vs Q E hr hs=>?_);obtain⟨t,q⟩:=h cdv A outer s H E hr;exact⟨t,q.p,Qi q.r hs⟩
section
variable{X:Cx}{pins:List (Addr×Obj)}{σ:List (Option V)}{H H':Hp}{s:Shared}{h':Heap}
def Inv.turns{tk:Nat}{fp:List Addr}(I:Inv X pins σ H s)(k:∀b o,b∉fp->s.heap.get? b=some o->h'.get? b=some o)(hf:∀b∈fp,C6 X pins H b):Inv X pins σ H { s with heap:=h',toks:=tk }:=by
 have out:∀b u,H b=some u->b∉fp:=λb u e z=>by rw[(hf b z).1]at e;cases e
 have hL:X.env.locals∉fp:=λz=>(hf _ z).2.1 rfl;refine I.step (g':=s.gens) (d':=s.drawn) (ch:=fp) (λb hb=>⟨(hf b hb).2.2.2.1,(hf b hb).2.1,(hf b hb).2.2.2.2.1,(hf b hb).2.2.2.2.2⟩) (λb o _ _ hc e _=>k b o hc e) (λb o _ _ hc e _=>⟨o.slots,k b o hc e⟩) (λ_ _ _ _ n=>n)
  (λb o hc e=>⟨o,k b o hc e⟩) (λ_ _ e=>e) (λ_ _ _ e=>e) (λb ps e=>⟨#[],by rw[e];simp⟩) (λm hm=>?_) (λb u e=>?_) I.bare
 .obtain⟨o,es,ep,ho,r⟩:=hm;exact⟨o,es,ep,k _ o hL ho,r⟩
 .refine(I.hok b u e).stay (λc v hc q=>k c v ?_ q) (λ_ q=>q) λ_ _ q=>q;rcases hc with z|z
  .rw[z];exact out b u e
  .exact out c _ z
end
def Inv.turnsL{X:Cx}{pins:List (Addr×Obj)}{σ:List (Option V)}{H:Hp}{s:Shared}{h':Heap}{tk:Nat}{fp:List Addr}{a:Addr}{o:HO}(I:Inv X pins σ H s)(k:∀b o,b∉fp->s.heap.get? b=some o->h'.get? b=some o)(hf:∀b∈fp,C6 X pins H b)(ha:s.heap.objs.size<=a)(new:ObjOk X.prog X.w (upd H a o) h' a o):
 Inv X pins σ (upd H a o) { s with heap:=h',toks:=tk }:=by
 have out:∀b u,H b=some u->b∉fp:=λb u e z=>by rw[(hf b z).1]at e;cases e
 have hL:X.env.locals∉fp:=λz=>(hf _ z).2.1 rfl;have fr:H a=none:=I.hok.fresh ha;refine I.step (g':=s.gens) (d':=s.drawn) (ch:=fp) (λb hb=>⟨(hf b hb).2.2.2.1,(hf b hb).2.1,(hf b hb).2.2.2.2.1,(hf b hb).2.2.2.2.2⟩) (λb o _ _ hc e _=>k b o hc e) (λb o _ _ hc e _=>⟨o.slots,k b o hc e⟩)
  (λb o _ e n=>by rw[AH (ne_of_lt (lt_of_lt_of_le (Heap.lt_size e) ha))];exact n) (λb o hc e=>⟨o,k b o hc e⟩) (λb xs e=>by rw[AH (AT e fr)];exact e) (λb o u e=>by rw[AH (AT e fr)];exact e)
  (λb ps e=>⟨#[],by rw[AH (AT e fr),e];simp⟩) (λm hm=>?_) (λb u e=>?_) I.bare
 .obtain⟨o,es,ep,ho,r⟩:=hm;exact⟨o,es,ep,k _ o hL ho,r⟩
 .by_cases hb:b=a
  .subst hb;rw[AL]at e;cases e;exact new
  .rw[AH hb]at e;refine(I.hok b u e).stay (λc v hc q=>k c v ?_ q) (λc q=>by rw[AH (AT q fr)];exact q) λc xs q=>by rw[AH (AT q fr)];exact q
   rcases hc with z|z
   .rw[z];exact out b u e
   .exact out c _ z
def Yi(tp:Bool)(h:Heap)(it l:Addr)(k:Nat):Prop:=match tp with
 |true=>h.IsTupleIter it l k
 |false=>h.IsListIter it l k
def SqS(K:PySem.W.Frag)(tp:Bool)(H:Hp)(a:Addr)(xs:List V):Prop:=match tp with
 |true=>SqT K H a xs
 |false=>SqL K H a xs
def X7(K:PySem.W.Frag)(ρ:List Addr)(H:Hp)(tp:Bool)(a:Addr)(ds:List D)(g:Gd):Prop:=∀(ρ2:List Addr) (H2:Hp) (hd2:Hd),Ext ρ H ρ2 H2->RH K ρ2 H2 hd2->GOk hd2 g->∃xs,SqS K tp H2 a xs/\RDs K ρ2 H2 ds xs
def RRw(K:PySem.W.Frag)(tp:Bool)(t:TE)(m:MI):Prop:=∀(ρ:List Addr) (σ:St) (H:Hp) (hd:Hd) (ls:Ls) (Q:VK) (d:List D) (g:Gd) (hd':Hd),RH K ρ H hd->RL K ρ H ls σ->m ls hd=some ((d,g),hd') ->
 (∀ρ' H' a,Ext ρ H ρ' H'->RH K ρ' H' hd'->GOk hd' g->X7 K ρ' H' tp a d g->Q (.ref a) H')->t σ H Q
structure QR(K:PySem.W.Frag)(tp:Bool)(X:Cx)(e:Expr)(t:TE)(m:MI):Prop where
 p:PE X e t
 r:RRw K tp t m
section
variable{K:PySem.W.Frag}{ρ ρ':List Addr}{H H':Hp}{hd hd':Hd}
def Ti{t:TE}{m:ME}(h:RE K t m):RRw K true t (CL m):=by
 intro ρ σ H hd ls Q d g hd' hR hL hm hQ;obtain⟨⟨d1,h1⟩,e1,hm⟩:=Yp hm;obtain⟨ds,e2,e3⟩:=Yq hm;cases e3;refine h ρ σ H hd ls _ d1 _ hR hL e1 λρ1 H1 v x1 R1 r1=>?_;obtain⟨a,xs,rfl,q,r⟩:=r1.tup e2;exact hQ ρ1 H1 a x1 R1 (Aa _) λρ2 H2 hd2 x2 R2 _=>⟨xs,(x2.grow R1).sq q,r.ext R1 x2⟩
def Qt{t:TE}{m:ME}(h:RE K t m):RRw K false t (De m):=by
 intro ρ σ H hd ls Q d g hd' hR hL hm hQ;obtain⟨⟨d1,h1⟩,e1,hm⟩:=Yp hm;dsimp only at hm;split at hm
 .next n=>
  split at hm
  .next ds q=>
   cases hm;refine h ρ σ H hd ls _ _ _ hR hL e1 λρ1 H1 v x1 R1 r1=>?_;simp only[RD]at r1;obtain⟨a,hn,rfl⟩:=r1;refine hQ ρ1 H1 a x1 R1 (λp z=>by simp at z;subst z;exact q) λρ2 H2 hd2 x2 R2 G2=>?_;have hn2:ρ2[n]?=some a:=by
    obtain⟨r,rfl,_⟩:=x2.pre;rw[List.getElem?_append_left (List.getElem?_eq_some_iff.mp hn).1];exact hn
   obtain⟨ys,e4,e5⟩:=R2.lst hn2 (G2 (n,d) (by simp));exact⟨ys,SqL.of e4,e5⟩
  .cases hm
 .next ns=>
  cases hm;refine h ρ σ H hd ls _ _ _ hR hL e1 λρ1 H1 v x1 R1 r1=>?_;simp only[RD]at r1;obtain⟨a,rfl,q⟩:=r1;exact hQ ρ1 H1 a x1 R1 (Aa _) λρ2 H2 hd2 x2 R2 _=>⟨_,(q.grow (x2.grow R1)).sq,DP⟩
 .cases hm
end
section
variable(K:PySem.W.Frag){X:Cx}{a b e:Expr}{ta tb te:TE}{me:ME}{m:MA}
def JM(h:QE K X e te me):QR K true X e te (CL me):=⟨h.p,Ti h.r⟩
def Rv(h:QE K X e te me):QR K false X e te (De me):=⟨h.p,Qt h.r⟩
end
section
variable{K:PySem.W.Frag}
def B7(ml:MA)(mb:ME):ME:=λls hd=>(ml ls hd).bind λp=>(mb ls p.2).bind λq=>match q.1 with
 |.im (.int i)=>(atI p.1 i).map (·,q.2)
 |_=>none
def UC{ta tb:TE}{ml:MA}{mb:ME}(ha:RN K ta ml)(hb:RE K tb mb):RE K (tOp (Ib K) ta tb) (B7 ml mb):=by
 and_intros;obtain⟨⟨d1,h1⟩,e1,hm⟩:=Yp hm;obtain⟨⟨d2,h2⟩,e2,hm⟩:=Yp hm;dsimp only at hm;split at hm
 .obtain⟨w,e3,e4⟩:=Yq hm;cases e4;refine ha ρ σ H hd ls _ d1 h1 hR hL e1 λρ1 H1 a xs x1 R1 na oa ea r1=>?_;refine hb ρ1 σ H1 h1 ls _ _ _ R1 (hL.ext hR x1) e2 λρ2 H2 v2 x2 R2 r2=>?_;simp only[RD,RI]at r2;subst r2;have r1':=r1.ext R1 x2;obtain⟨j,j1,j2⟩:=Kx r1'.len e3;obtain⟨x,y1,y2⟩:=r1'.get j1;exact .inl ⟨a,xs,_,x,rfl,rfl,SqL.of (x2.keep a _ ea oa nt),j2 x y1,hQ ρ2 H2 x (x1.trans R1 x2) R2 y2⟩
 .cases hm
def FO(neg:Bool)(x y:PyData)(hd:Hd):Option (D×Hd):=if x.canLay0=true/\y.canLay0=true/\min x.depth y.depth<=60 then some (.im (.bl (if neg then !PyData.eqv x y else PyData.eqv x y)),hd)else none
def Cd(neg:Bool)(ma:ME)(ml:MA):ME:=λls hd=>(ma ls hd).bind λp=>(ml ls p.2).bind λq=>(pyD q.2 p.1).bind λx=>(Ap q.1).bind λis=>FO neg x (.list (I.pys is)) q.2
def DH(neg:Bool)(ml mk:MA):ME:=λls hd=>(ml ls hd).bind λp=>(mk ls p.2).bind λq=>(Ap p.1).bind λis=>(Ap q.1).bind λjs=>FO neg (.list (I.pys is)) (.list (I.pys js)) q.2
def rEN(K:PySem.W.Frag)(neg:Bool):R2:=λx y H Q=>∃d e,Rep K H d x/\Rep K H e y/\d.canLay0=true/\e.canLay0=true/\min d.depth e.depth<=60/\Q (.bl (if neg then !PyData.eqv d e else PyData.eqv d e)) H
def HK{ρ:List Addr}{H:Hp}{a:Addr}{xs:List V}{ds:List D}{is:List I}(ea:H a=some (.lst xs))(r:RDs K ρ H ds xs)(e:Ap ds=some is):Rep K H (.list (I.pys is)) (.ref a):=by
 rw[CM e]at r;simp only[Rep];exact⟨a,xs,rfl,SqL.of ea,r.is.rep⟩
def RZ{neg:Bool}{ta tb:TE}{ma:ME}{ml:MA}(ha:RE K ta ma)(hb:RN K tb ml):RE K (tOp (rEN K neg) ta tb) (Cd neg ma ml):=by
 and_intros;obtain⟨⟨d1,h1⟩,e1,hm⟩:=Yp hm;obtain⟨⟨d2,h2⟩,e2,hm⟩:=Yp hm;obtain⟨x,e3,hm⟩:=Yp hm;obtain⟨is,e4,hm⟩:=Yp hm;unfold FO at hm;split at hm
 .next c=>
  cases hm;refine ha ρ σ H hd ls _ d1 h1 hR hL e1 λρ1 H1 v x1 R1 r1=>?_;refine hb ρ1 σ H1 h1 ls _ d2 _ R1 (hL.ext hR x1) e2 λρ2 H2 a xs x2 R2 na oa ea r2=>?_;exact⟨_,_,Cm R2 (r1.ext R1 x2) e3,HK ea r2 e4,c.1,c.2.1,c.2.2,hQ ρ2 H2 _ (x1.trans R1 x2) R2 (by simp[RD,RI])⟩
 .cases hm
def RY{neg:Bool}{ta tb:TE}{ml mk:MA}(ha:RN K ta ml)(hb:RN K tb mk):RE K (tOp (rEN K neg) ta tb) (DH neg ml mk):=by
 and_intros;obtain⟨⟨d1,h1⟩,e1,hm⟩:=Yp hm;obtain⟨⟨d2,h2⟩,e2,hm⟩:=Yp hm;obtain⟨is,e4,hm⟩:=Yp hm;obtain⟨js,e3,hm⟩:=Yp hm;unfold FO at hm;split at hm
 .next c=>
  cases hm;refine ha ρ σ H hd ls _ d1 h1 hR hL e1 λρ1 H1 a xs x1 R1 na oa ea r1=>?_;refine hb ρ1 σ H1 h1 ls _ d2 _ R1 (hL.ext hR x1) e2 λρ2 H2 b ys x2 R2 nb ob eb r2=>?_;exact⟨_,_,HK (x2.keep a _ ea oa nt) (r1.ext R1 x2) e4,HK eb r2 e3,c.1,c.2.1,c.2.2,hQ ρ2 H2 _ (x1.trans R1 x2) R2 (by simp[RD,RI])⟩
 .cases hm
end
def VT(K:PySem.W.Frag){X:Cx}(hu:X.A.units+64<cLine)(hK:X.K=K:=by rfl):OpR X (compareOp .Eq) (rEN K false):=HN K hu hK
def NE(K:PySem.W.Frag){X:Cx}(hu:X.A.units+64<cLine)(hK:X.K=K:=by rfl):OpR X (compareOp .NotEq) (rEN K true):=HM K hu hK
section
variable(K:PySem.W.Frag){X:Cx}{a b e:Expr}{ta tb te:TE}{ma mb me:ME}{m mk:MA}{pos:Pos}{op:CmpOp}{neg:Bool}
def Ut(ha:QN K X a ta m)(hb:QE K X b tb mb)(hs:Hs b:=by exact λ_ _=>rfl)(hK:X.K=K:=by rfl):QE K X (.Subscript a b pos) (tOp (Ib K) ta tb) (B7 m mb):=⟨Q2 ((JV K hK).or (Kl K hK)) ha.p hb.p hs,UC ha.r hb.r⟩
def Rn(ho:OpR X (compareOp op) (rEN K neg))(ha:QE K X a ta ma)(hb:QN K X b tb m)(hm:behindInMarks op b=false:=by first|exact EJ _|rfl):QT K X (.Compare a [op] [b] pos) (FY (tOp (rEN K neg) ta tb)) (AJ (Cd neg ma m)):=⟨Fa ho ha.p hb.p hm,DM (RZ ha.r hb.r)⟩
def Ke(ho:OpR X (compareOp op) (rEN K neg))(ha:QN K X a ta m)(hb:QN K X b tb mk)(hm:behindInMarks op b=false:=by first|exact EJ _|rfl):QT K X (.Compare a [op] [b] pos) (FY (tOp (rEN K neg) ta tb)) (AJ (DH neg m mk)):=⟨Fa ho ha.p hb.p hm,DM (RY ha.r hb.r)⟩
end
def Bf(lo:Int):Nat->List V
 |0=>[]
 |n+1=>.int lo::Bf (lo+1) n
def Lb(lo:Int)(n:Nat):(Bf lo n).length=n:=by
 induction n generalizing lo with
 |zero=>rfl
 |succ n ih=>simp[Bf,ih]
def JH{K:PySem.W.Frag}{ρ:List Addr}{H:Hp}(lo:Int)(n:Nat):RDs K ρ H (AQ lo n) (Bf lo n):=by
 induction n generalizing lo with
 |zero=>simp[AQ,Bf,RDs]
 |succ n ih=>exact .cons (by simp[RD,RI]) (ih _)
def Gc{lo:Int}:∀{n:Nat} {us:List Value},us.length=n->(∀(j:Nat) (v:Value),us[j]?=some v->∃t,v=.int (lo+j*1) t)->Vals (Bf lo n) us
 |0,us,h,_=>by
  have:us=[]:=length_eq_zero_iff.mp h;subst this;exact .nil
 |n+1,[],h,_=>by simp at h
 |n+1,u::us,h,k=>by
  obtain⟨t,e⟩:=k 0 u rfl;refine .cons ⟨t,by rw[e];simp⟩ (Gc (by simpa using h) λj v q=>?_);obtain⟨t',e'⟩:=k (j+1) v (by simpa using q);exact⟨t',by rw[e'];congr 1;push_cast;omega⟩
def Kb:List V->Hp->VK->Prop:=λxs H Q=>∃j:Int,xs=[.int j]/\∀p,H p=none->Q (.ref p) (upd H p (.rng 0 j))
def Ka:List V->Hp->VK->Prop:=λxs H Q=>∃i j:Int,xs=[.int i,.int j]/\∀p,H p=none->Q (.ref p) (upd H p (.rng i j))
def JL:List V->Hp->VK->Prop:=λxs H Q=>∃a lo hi,xs=[.ref a]/\H a=some (.rng lo hi)/\(-(2^62)<=lo/\lo<2^62/\-(2^62)<=hi/\hi<2^62)/\(hi-lo).toNat<=2^24/\∀p,H p=none->Q (.ref p) (upd H p (.lst (Bf lo (hi-lo).toNat)))
section
variable{X:Cx}
def call_rng1:CallR X (.type "range") Kb:=by
 intro pins s σ H xs us Q I r h;obtain⟨j,rfl,q⟩:=h;obtain⟨u,rfl,t,rfl⟩:=BY r;exact call_range_1 ⟨.ref s.heap.objs.size,_,I.laid (a:=s.heap.objs.size) (o:=.rng 0 j) (λb o e=>Heap.get?_push_of_some _ e) (le_refl _) ⟨_,_,_,Heap.get?_push_size _ rfl⟩,rfl,q _ (I.hok.fresh (le_refl _))⟩
def Nw:CallR X (.type "range") Ka:=by
 intro pins s σ H xs us Q I r h;obtain⟨i,j,rfl,q⟩:=h;obtain⟨u,v,rfl,⟨t,rfl⟩,⟨t',rfl⟩⟩:=Pq r;exact call_range_2 ⟨.ref s.heap.objs.size,_,I.laid (a:=s.heap.objs.size) (o:=.rng i j) (λb o e=>Heap.get?_push_of_some _ e) (le_refl _) ⟨_,_,_,Heap.get?_push_size _ rfl⟩,rfl,q _ (I.hok.fresh (le_refl _))⟩
def WU{lo hi:Int}:Builtin.Range.rangeSize lo hi 1=((hi-lo).toNat:Nat):=by rw[rangeSize_one];split<;>omega
def Lx{lo:Int}{n:Nat}{acc:Array Value}(it:ItemsOf (λi v=>∃t,v=.int (lo+i*1) t) acc n):Vals (Bf lo n) acc.toList:=Gc (by simpa using it.1) λj v q=>it.2 j v (by simpa using q)
def MC(hc:X.calm=true):CallR X (.type "list") JL:=by
 intro pins s σ H xs us Q I r h;obtain⟨a,lo,hi,rfl,ha,⟨b1,b2,b3,b4⟩,hz,q⟩:=h;obtain⟨u,rfl,ru⟩:=BY r;cases ru;obtain⟨t,u,v,hr⟩:∃t u v,s.heap.get? a=some { cls:=.type "range",data:=.fields #[.int lo t,.int hi u,.int 1 v] }:=I.hok a _ ha;refine call_list_range (I.ok.hd hc) hr (small_one b1 b2 b3 b4) WU hz λg tk acc c' kp e it=>?_;exact⟨.ref s.heap.objs.size,_,I.laid (t':=tk) (o:=.lst _) kp (le_refl _) ⟨by rw[Lb,sizeLine_eq];omega,acc.toList,c',Lx it,by simpa using e⟩,rfl,q _ (I.hok.fresh (le_refl _))⟩
end
section
variable{K:PySem.W.Frag}
open Classical in
def Dd(m:MA):MA:=λls hd=>(m ls hd).bind λp=>match p.1 with
 |[.im (.int j)]=>if Ga j then some (AQ 0 j.toNat,p.2)else none
 |[.im (.int i),.im (.int j)]=>if Pv i j then some (AQ i (j-i).toNat,p.2)else none
 |_=>none
def N1:List V->Hp->VK->Prop:=λxs H Q=>Kb xs H Q∨Ka xs H Q
def Ob{t:TA}{m:MA}(h:RA K t m):RN K (tCB JL (BD (tCB N1 t) Bh)) (Dd m):=by
 and_intros;obtain⟨⟨d1,h1⟩,e1,hm⟩:=Yp hm;dsimp only at hm;refine h ρ σ H hd ls _ d1 h1 hR hL e1 λρ1 H1 v x1 R1 r1=>?_;split at hm
 .next j=>
  split at hm
  .next c=>
   have c:j<2^24/\-(2^62)<=j:=c;cases hm;simp only[RDs,RD,RI]at r1;obtain⟨x,r,rfl,rfl,rfl⟩:=r1;refine .inl ⟨j,rfl,λp hp=>⟨p,0,j,rfl,AL,⟨by decide,by decide,c.2,by omega⟩,by omega,λl hl=>?_⟩⟩;obtain⟨R2,x2⟩:=R1.hid (ho:=.rng 0 j) hp;obtain⟨R3,x3⟩:=R2.hid (ho:=.lst (Bf 0 (j-0).toNat)) hl;refine hQ ρ1 _ l (Bf 0 (j-0).toNat) ((x1.trans R1 x2).trans R2 x3) R3 ((x1.trans R1 x2).none hR hl R2) (R2.out hl) AL ?_;rw[Int.sub_zero];exact JH 0 _
  .cases hm
 .next i j=>
  split at hm
  .next c=>
   cases hm;simp only[RDs,RD,RI]at r1;obtain⟨x,r,rfl,rfl,y,r2,rfl,rfl,rfl⟩:=r1;refine .inr ⟨i,j,rfl,λp hp=>⟨p,i,j,rfl,AL,⟨c.1.1,c.1.2,c.2.1.1,c.2.1.2⟩,c.2.2,λl hl=>?_⟩⟩;obtain⟨R2,x2⟩:=R1.hid (ho:=.rng i j) hp;obtain⟨R3,x3⟩:=R2.hid (ho:=.lst (Bf i (j-i).toNat)) hl;exact hQ ρ1 _ l (Bf i (j-i).toNat) ((x1.trans R1 x2).trans R2 x3) R3 ((x1.trans R1 x2).none hR hl R2) (R2.out hl) AL (JH i _)
  .cases hm
 .cases hm
def Wv(m:MA):ME:=λls hd=>(Dd m ls hd).bind λp=>some (AD p.1,p.2)
def EH:∀{xs ys:List Int},xs.Perm ys->xs.Pairwise (·<=·)->ys.Pairwise (·<=·)->xs=ys:=λ{xs ys} p a b=>
 p.eq_of_pairwise (le:=(·<=·)) (λ_ _ _ _ h1 h2=>Int.le_antisymm h1 h2) a b
def BZ(xs:List Int):List Int:=xs.mergeSort (λa b=>decide (a<=b))
def CV(xs:List Int):(BZ xs).Perm xs:=List.mergeSort_perm ..
def F6(xs:List Int):(BZ xs).Pairwise (·<=·):=by
 have:=List.pairwise_mergeSort (le:=λa b:Int=>decide (a<=b)) (by intro a b c h1 h2;simp at *;omega) (by intro a b;simp;omega) xs;exact this.imp (by simp)
def Cq(m:MI):MA:=λls hd=>(m ls hd).bind λp=>(Aw p.1.1).bind λns=>if ns.length<64 then some ((BZ ns).map λi=>.im (.int i),p.2)else none
end
section
variable(K:PySem.W.Frag){X:Cx}{a b e:Expr}{ta tb te:TE}{me:ME}{m:MA}{t:TA}{p p2 pos pos2:Pos}{es:List Expr}
def Ox(hm:X.mg "list"=none)(hm2:X.mg "range"=none)(ha:QA K X (a::es) t m)(hc:X.calm=true:=by rfl)(hg:Gl X "list":=by rfl)(hg2:Gl X "range":=by rfl)(he2:starEach (a::es) X.env=(false,eval a X.env)::starEach es X.env:=by rfl)(hpl:(backTo pos2 (starEach es X.env)).any (·.1)=false:=by rfl)
 (he:starEach [.Call (.Name "range" p2) (a::es) [] pos2] X.env=[(false,eval (.Call (.Name "range" p2) (a::es) [] pos2) X.env)]:=by rfl):
 QN K X (.Call (.Name "list" p) [.Call (.Name "range" p2) (a::es) [] pos2] [] pos) (tCB JL (BD (tCB N1 t) Bh)) (Dd m):=
 ⟨CS (MC hc) hg hm Ho (C2 (CS (call_rng1.or Nw) hg2 hm2 boot_range ha.p (by decide) (by decide) he2 hpl) CZ he) (by decide) (by decide) he rfl,Ob ha.r⟩
end
end L2
namespace L2
structure BltA(mg:PySem.Str->Option PySem.Value):Prop where
 list:mg "list"=none
 tuple:mg "tuple"=none
 len:mg "len"=none
 range:mg "range"=none
 repr:mg "repr"=none
 sum:mg "sum"=none
 min:mg "min"=none
 max:mg "max"=none
 abs:mg "abs"=none
 all:mg "all"=none
 any:mg "any"=none
 sorted:mg "sorted"=none
 zip:mg "zip"=none
 isinstance:mg "isinstance"=none
 int:mg "int"=none
 bool:mg "bool"=none
 str:mg "str"=none
 set:mg "set"=none
 enumerate:mg "enumerate"=none
 reversed:mg "reversed"=none
 dict:mg "dict"=none
end L2
namespace L2
open PySem PySem.Spec PyProof.Rows
section
variable{ls:Ls}{hd:Hd}{a b c:MS}{ma mb mc:ME}{ta tb:MT}{m m1 m2:MA}{n:MG}{ns:MGs}{d e:D}
@[simp] theorem D3:A7 a b ls hd=(a ls hd).bind λp=>match p.1 with
 |.nx ls1=>b ls1 p.2
 |f=>some (f,p.2):=rfl
@[simp] theorem Xz:Au ls hd=some (.nx ls,hd):=rfl
@[simp] theorem Kq:BM ma ls hd=(ma ls hd).bind λp=>some (.nx ls,p.2):=rfl
@[simp] theorem Vu:AX ma ls hd=(ma ls hd).bind λp=>some (.rt p.1,p.2):=rfl
@[simp] theorem Xu:Ww ls hd=some (.rt (.im .non),hd):=rfl
@[simp] theorem Xc:Vc ls hd=some (.bk ls,hd):=rfl
@[simp] theorem Y5:Wx ls hd=some (.ct ls,hd):=rfl
@[simp] theorem Nk:B8 ta a b ls hd=(ta ls hd).bind λp=>if p.1=true then a ls p.2 else b ls p.2:=rfl
@[simp] theorem D4:PU ma n ls hd=(ma ls hd).bind λp=>(n p.1 ls p.2).map λls'=>(.nx ls',p.2):=rfl
@[simp] theorem Fi(i:Nat):AU i d ls hd=some (ls.set i (some d)):=rfl
@[simp] theorem Xw(k:Nat):G8 k ns d ls hd=(A9 d).bind λds=>if ds.length=k then ns ds ls hd else none:=rfl
@[simp] theorem XY(d:D)(ds:List D):Ca n ns (d::ds) ls hd=(n d ls hd).bind λls1=>ns ds ls1 hd:=rfl
@[simp] theorem Xy:G9 [] ls hd=some ls:=rfl
@[simp] theorem Vv(ix:List Nat):Ej ix m ls hd=(m ls hd).bind λp=>if p.1.length=ix.length then some (.nx ((ix.zip p.1).foldl (λl q=>l.set q.1 (some q.2)) ls),p.2)else none:=rfl
@[simp] theorem Xv(i j k:Nat):Gm i j k m ls hd=Ej [k,j,i] (λls hd=>(m ls hd).map λp=>(p.1.reverse,p.2)) ls hd:=rfl
@[simp] theorem Dk(i:Nat):A1 i ls hd=match ls[i]? with
 |some (some d)=>some (d,hd)
 |_=>none:=rfl
@[simp] theorem M6(i:I):mC i ls hd=some (.im i,hd):=rfl
@[simp] theorem Ih(f:D->D->Hd->Option (D×Hd)):mOp f ma mb ls hd=(ma ls hd).bind λp=>(mb ls p.2).bind λq=>f p.1 q.1 q.2:=rfl
@[simp] theorem YI:Dg ta tb ls hd=(ta ls hd).bind λp=>if p.1=true then tb ls p.2 else some (false,p.2):=rfl
@[simp] theorem YZ:mOr ta tb ls hd=(ta ls hd).bind λp=>if p.1=true then some (true,p.2)else tb ls p.2:=rfl
@[simp] theorem YF:GC ta ls hd=(ta ls hd).bind λp=>some (!p.1,p.2):=rfl
@[simp] theorem Nb:Br ma ls hd=(ma ls hd).bind λp=>(CU p.2 p.1).map (·,p.2):=rfl
@[simp] theorem Hi:AJ ma ls hd=(ma ls hd).bind λp=>match p.1 with
 |.im (.bl b)=>some (b,p.2)
 |_=>none:=rfl
@[simp] theorem X1:mIf ta ma mb ls hd=(ta ls hd).bind λp=>if p.1=true then ma ls p.2 else mb ls p.2:=rfl
@[simp] theorem Y7:El ma mb ls hd=(AJ ma ls hd).bind λp=>if p.1=true then mb ls p.2 else some (.im (.bl false),p.2):=rfl
@[simp] theorem YE:XQ ma mb ls hd=(AJ ma ls hd).bind λp=>if p.1=true then some (.im (.bl true),p.2)else mb ls p.2:=rfl
@[simp] theorem Xx:DE ma ls hd=(AJ ma ls hd).bind λp=>some (.im (.bl (!p.1)),p.2):=rfl
@[simp] theorem FN:A4 ls hd=some ([],hd):=rfl
@[simp] theorem EQ:A0 ma m ls hd=(ma ls hd).bind λp=>(m ls p.2).bind λq=>some (p.1::q.1,q.2):=rfl
open Classical in
@[simp] theorem Vr:AS m ls hd=(m ls hd).bind λp=>if BB p.1.length then some (AD p.1,p.2)else none:=rfl
open Classical in
@[simp] theorem Ng:AV m ls hd=(m ls hd).bind λp=>if BB p.1.length then some (p.1,p.2)else none:=rfl
@[simp] theorem Nf:AY m ls hd=(m ls hd).bind λp=>some (.mu p.2.length,p.2++[.lst p.1]):=rfl
@[simp] theorem Vw:CK ma ls hd=(ma ls hd).bind λp=>match p.1 with
 |.im (.int i)=>some (.im (.int (-i)),p.2)
 |_=>none:=rfl
@[simp] theorem YG(neg:Bool):XR neg ma ls hd=(ma ls hd).bind λp=>some (.im (.bl (match p.1 with
 |.im .non=>!neg
 | _=>neg)),p.2):=rfl
@[simp] theorem X2(g:Int->Int->Option I)(i j:Int):fI g (.im (.int i)) (.im (.int j)) hd=(g i j).map (.im ·,hd):=rfl
@[simp] theorem Kp(f g:D->D->Hd->Option (D×Hd)):Bc f g d e hd=match f d e hd with
 |some z=>some z
 |none=>g d e hd:=rfl
@[simp] theorem Vz(neg:Bool)(i j:Int):E7 neg (.im (.int i)) (.im (.int j)) hd=some (.im (.bl (if neg then !decide (i=j)else decide (i=j))),hd):=by simp[E7,scI,J9]
@[simp] theorem YH(neg:Bool)(i j:Str):E7 neg (.im (.str i)) (.im (.str j)) hd=some (.im (.bl (if neg then !decide (i=j)else decide (i=j))),hd):=by simp[E7,scI,J9]
@[simp] theorem Q9(i:Int):gIx d (.im (.int i)) hd=(Ad hd d).bind λds=>(atI ds i).map (·,hd):=rfl
@[simp] theorem TB:B3 d e hd=(BJ hd d).bind λkvs=>(Bs e).bind λk=>(Ae kvs k).map (·,hd):=rfl
@[simp] theorem Yb(f:List D->Hd->Option (D×Hd)):mCB f m ls hd=(m ls hd).bind λp=>f p.1 p.2:=rfl
@[simp] theorem X3(tp:Bool)(g:List D->Option D):f1 tp g [d] hd=((if tp then Ad hd d else Ai hd d)).bind λds=>(g ds).map (·,hd):=rfl
@[simp] theorem Nl(g:List D->Option D):D7 g m ls hd=(m ls hd).bind λp=>(g p.1).map (·,p.2):=rfl
@[simp] theorem M5(f:D->List D->Hd->Option (D×Hd)):mMt f ma m ls hd=(ma ls hd).bind λp=>match Ai p.2 p.1 with
 |some _=>(m ls p.2).bind λq=>f p.1 q.1 q.2
 |none=>none:=rfl
@[simp] theorem Y3(i j:Int):Q8 [.im (.int i),.im (.int j)] hd=some (.im (.int (if j>i then j else i)),hd):=rfl
@[simp] theorem Y0(i j:Int):Es [.im (.int i),.im (.int j)] hd=some (.im (.int (if j<i then j else i)),hd):=rfl
@[simp] theorem YJ(i:Int):XW [.im (.int i)] hd=some (.im (.int (if i<0 then -i else i)),hd):=rfl
@[simp] theorem Nh:B7 m ma ls hd=(m ls hd).bind λp=>(ma ls p.2).bind λq=>match q.1 with
 |.im (.int i)=>(atI p.1 i).map (·,q.2)
 |_=>none:=rfl
@[simp] theorem Vx:CL ma ls hd=(ma ls hd).bind λp=>(A9 p.1).map λds=>((ds,[]),p.2):=rfl
@[simp] theorem Vy:GE m ls hd=(m ls hd).map λp=>((p.1,[]),p.2):=rfl
@[simp] theorem Nj:De ma ls hd=(ma ls hd).bind λp=>match p.1 with
 |.mu n=>match p.2[n]? with
  |some (.lst ds)=>some ((ds,[(n,ds)]),p.2)
  |_=>none
 |.ro ns=>some ((ns.map λn=>.im (.int n),[]),p.2)
 |_=>none:=rfl
open Classical in
@[simp] theorem Ni:Bl m ls hd=(m ls hd).bind λp=>match p.1 with
 |[.im (.int j)]=>if DW j then some ((AQ 0 j.toNat,[]),p.2)else none
 |_=>none:=rfl
open Classical in
@[simp] theorem Ko:DG m ls hd=(m ls hd).bind λp=>match p.1 with
 |[.im (.int i),.im (.int j)]=>if JE i j then some ((AQ i (j-i).toNat,[]),p.2)else none
 |_=>none:=rfl
@[simp] theorem Nm(mi:MI):BG mi n a ls hd=(mi ls hd).bind λp=>B1 n a p.1.2 p.1.1 ls p.2:=rfl
open Classical in
@[simp] theorem Y6(k:Nat)(ix:List Nat)(mi:MI):BU k ix mi n ta ma ls hd=(mi ls hd).bind λp=>if BB p.1.1.length then B0 n ta ma p.1.2 p.1.1 (Dx k ix ls) p.2 else none:=rfl
@[simp] theorem YD:E2 ls hd=some (true,hd):=rfl
@[simp] theorem Xb(F:List D->Hd->Option (D×Hd)):Am F m ls hd=(m ls hd).bind λp=>F p.1 p.2:=rfl
@[simp] theorem Nd:AI ls hd=some (none,hd):=rfl
@[simp] theorem Km:AN ma ls hd=(ma ls hd).bind λp=>match p.1 with
 |.im (.int i)=>some (some i,p.2)
 |_=>none:=rfl
@[simp] theorem T8:DF ma ls hd=(ma ls hd).bind λp=>(Ad p.2 p.1).map (·,p.2):=rfl
@[simp] theorem XZ:EL m ls hd=m ls hd:=rfl
@[simp] theorem Vt(ml mh:MO1):FF ma ml mh ls hd=(ma ls hd).bind λp=>(ml ls p.2).bind λl=>(mh ls l.2).bind λh=>(Ai h.2 p.1).bind λds=>some (BI ds l.1 h.1,h.2):=rfl
@[simp] theorem Vs(ml mh:MO1):Dc ma ml mh ls hd=(ma ls hd).bind λp=>(ml ls p.2).bind λl=>(mh ls l.2).bind λh=>(A9 p.1).bind λds=>if ¬ (HT.sIx ds.length 0 l.1=0/\HT.sIx ds.length ds.length h.1=ds.length)then some (AD (BI ds l.1 h.1),h.2)else none:=rfl
@[simp] theorem Xr:Wv m ls hd=(Dd m ls hd).bind λp=>some (AD p.1,p.2):=rfl
open Classical in
@[simp] theorem Nc:Dd m ls hd=(m ls hd).bind λp=>match p.1 with
 |[.im (.int j)]=>if Ga j then some (AQ 0 j.toNat,p.2)else none
 |[.im (.int i),.im (.int j)]=>if Pv i j then some (AQ i (j-i).toNat,p.2)else none
 |_=>none:=rfl
@[simp] theorem XB(mi:MI):Cq mi ls hd=(mi ls hd).bind λp=>(Aw p.1.1).bind λns=>if ns.length<64 then some ((BZ ns).map λi=>.im (.int i),p.2)else none:=rfl
@[simp] theorem Y4(ms:List (ME×ME)):Gn ms ls hd=(D0 ms ls hd).bind λp=>if p.1.length<=15 then some (.mu p.2.length,p.2++[.dic (EK [] p.1)])else none:=rfl
@[simp] theorem XC:D0 [] ls hd=some ([],hd):=rfl
@[simp] theorem XX(r:List (ME×ME)):D0 ((ma,mb)::r) ls hd=(ma ls hd).bind λp=>(mb ls p.2).bind λq=>(D0 r ls q.2).bind λz=>(Bs p.1).map λk=>((k,q.1)::z.1,z.2):=rfl
open Classical in
@[simp] theorem T9:Bn ma mb mc ls hd=(mc ls hd).bind λp=>(ma ls p.2).bind λq=>(mb ls q.2).bind λr=>(Bs r.1).bind λk=>match q.1 with
 |.mu n=>match r.2[n]? with
  |some (.dic kvs)=>if CD kvs.length then some (.nx ls,r.2.set n (.dic (BP kvs k p.1)))else none
  |_=>none
 |_=>none:=rfl
@[simp] theorem T7:Q7 ma mb mc ls hd=(mc ls hd).bind λp=>(ma ls p.2).bind λq=>(mb ls q.2).bind λr=>match q.1,r.1 with
 |.mu n,.im (.int i)=>match r.2[n]? with
  |some (.lst ds)=>(ixN ds.length i).map λj=>(.nx ls,r.2.set n (.lst (ds.set j p.1)))
  |_=>none
 |_,_=>none:=rfl
@[simp] theorem Y8(is:List I):A9 (.im (.tup is))=some (is.map .im):=rfl
@[simp] theorem YO(ds:List D):A9 (.tm ds)=some ds:=rfl
@[simp] theorem YR(k:Nat):A9 (.mu k)=none:=rfl
@[simp] theorem YQ(k:List Int):A9 (.ro k)=none:=rfl
@[simp] theorem YA(is:List I):Ad hd (.im (.tup is))=some (is.map .im):=rfl
@[simp] theorem YT(ds:List D):Ad hd (.tm ds)=some ds:=rfl
@[simp] theorem LP(k:Nat):Ad hd (.mu k)=Ai hd (.mu k):=rfl
@[simp] theorem YU(k:List Int):Ad hd (.ro k)=some (k.map λn=>.im (.int n)):=rfl
@[simp] theorem Go(k:Nat):Ai hd (.mu k)=match hd[k]? with
 |some (.lst ds)=>some ds
 |_=>none:=rfl
@[simp] theorem YW(k:List Int):Ai hd (.ro k)=some (k.map λn=>.im (.int n)):=rfl
@[simp] theorem Yc(k:Nat):BJ hd (.mu k)=match hd[k]? with
 |some (.dic ds)=>some ds
 |_=>none:=rfl
@[simp] theorem YY(i:Int):Bs (.im (.int i))=some (.inl i):=rfl
@[simp] theorem YX(i:Str):Bs (.im (.str i))=some (.inr i):=rfl
@[simp] theorem YN:Ap []=some []:=rfl
@[simp] theorem Ye(i:I)(r:List D):Ap (.im i::r)=(Ap r).map (i::·):=rfl
@[simp] theorem YB:Aw []=some []:=rfl
@[simp] theorem YC(i:Int)(r:List D):Aw (.im (.int i)::r)=(Aw r).map (i::·):=rfl
@[simp] theorem YM:Bx []=some []:=rfl
@[simp] theorem Yd(i:Bool)(r:List D):Bx (.im (.bl i)::r)=(Bx r).map (i::·):=rfl
@[simp] theorem CJ(is:List I):AD (is.map .im)=.im (.tup is):=by simp[AD]
@[simp] theorem NQ:AD []=.im (.tup []):=rfl
@[simp] theorem Xp(i:I):AD [.im i]=.im (.tup [i]):=rfl
@[simp] theorem Ss(i j:I):AD [.im i,.im j]=.im (.tup [i,j]):=rfl
@[simp] theorem Xo(i j k:I):AD [.im i,.im j,.im k]=.im (.tup [i,j,k]):=rfl
@[simp] theorem Xn(i j k l:I):AD [.im i,.im j,.im k,.im l]=.im (.tup [i,j,k,l]):=rfl
@[simp] theorem YL(w:Nat)(i:I):clD w (.im i)=true:=by simp[clD]
@[simp] theorem YK(w n:Nat):clD w (.mu n)=decide (n<w):=by simp[clD]
@[simp] theorem Xe(w:Nat):Av w []=true:=by simp[Av]
@[simp] theorem Nv(w:Nat)(d:D)(ds:List D):Av w (d::ds)=(clD w d&&Av w ds):=by simp[Av]
@[simp] theorem MF{α:Type}(x:α)(r:List α):atI (x::r) 0=some x:=EV (j:=0) rfl
@[simp] theorem MD{α:Type}(x y:α)(r:List α):atI (x::y::r) 1=some y:=EV (j:=1) rfl
@[simp] theorem W6{α:Type}(x y z:α)(r:List α):atI (x::y::z::r) 2=some z:=EV (j:=2) rfl
def D8{α:Type}{xs:List α}{i:Int}{k:Nat}{x:α}(hi:i=k)(h:xs[k]?=some x):atI xs i=some x:=by subst hi;exact EV h
@[simp] theorem Cg:BB 0:=AR (by decide)
@[simp] theorem B4:BB 1:=AR (by decide)
@[simp] theorem FM:BB 2:=AR (by decide)
@[simp] theorem FL:BB 3:=AR (by decide)
@[simp] theorem Vo:BB 4:=AR (by decide)
@[simp] theorem Vn:BB 5:=AR (by decide)
@[simp] theorem Xq:CD 4:=Bu (by decide)
open Classical in
@[simp] theorem Jb(k:Nat)(x:D):Aj (.mu k) [x] hd=match hd[k]? with
 |some (.lst ds)=>if CD ds.length then some (.im .non,hd.set k (.lst (ds++[x])))else none
 |_=>none:=rfl
def Ev{w:Nat}{F:List D->Hd->Option (D×Hd)}{ds:List D}{pre pre' rest g:Hd}{i:I}(hw:pre.length=w)(hw':pre'.length=w)(h1:m ls hd=some (ds,pre++rest))(hc:Av w ds=true)(hp:pre.all (clO w)=true)(hp':pre'.all (clO w)=true)(hF:F ds pre=some (.im i,pre'++g)):A6 w F m ls hd=some (.im i,pre'++rest):=by
 subst hw;have e1:(pre++rest).take pre.length=pre:=by simp
 have e2:(pre'++g).take pre.length=pre':=by rw[<- hw'];simp
 simp only[A6,h1,bind_some,e1,hc,hp,hF,fin,e2,hp'];simp
end
def Dh{n:MG}{b:MS}{g:Gd}{ls:Ls}{hd:Hd}:B1 n b g [] ls hd=some (.nx ls,hd):=by unfold B1;rfl
def CT{n:MG}{b:MS}{g:Gd}{d:D}{r:List D}{ls ls1 ls2:Ls}{hd hd2:Hd}(h1:n d ls hd=some ls1)(h2:b ls1 hd=some (.nx ls2,hd2))(h3:GOk hd2 g):B1 n b g (d::r) ls hd=B1 n b g r ls2 hd2:=by
 conv=>lhs;unfold B1
 simp[h1,h2,h3]
open Classical in
def mIn(k:Nat)(n:MG)(c:MT)(m:ME)(g:Gd):List D->Ls->Hd->Option (Ls×Hd)
 |[],ls,hd=>some (ls,hd)
 |d::r,ls,hd=>(n d ls hd).bind λls1=>(c ls1 hd).bind λp=>if p.1=true then(m ls1 p.2).bind λq=>(Aj (.mu k) [q.1] q.2).bind λz=>if GOk z.2 g then mIn k n c m g r ls1 z.2 else none else if GOk p.2 g then mIn k n c m g r ls1 p.2 else none
open Classical in
def Lw(k:Nat)(n:MG)(c:MT)(mi:MI)(n2:MG)(c2:MT)(m:ME)(g:Gd):List D->Ls->Hd->Option Hd
 |[],ls,hd=>some hd
 |d::r,ls,hd=>(n d ls hd).bind λls1=>(c ls1 hd).bind λp=>if p.1=true then(mi ls1 p.2).bind λq=>(mIn k n2 c2 m q.1.2 q.1.1 ls1 q.2).bind λz=>if GOk z.2 g then Lw k n c mi n2 c2 m g r z.1 z.2 else none else if GOk p.2 g then Lw k n c mi n2 c2 m g r ls1 p.2 else none
def Vb(j:Nat)(ix:List Nat)(mi:MI)(n:MG)(c:MT)(mi2:MI)(n2:MG)(c2:MT)(m:ME):ME:=λls hd=>(mi ls hd).bind λp=>(Lw p.2.length n c mi2 n2 c2 m p.1.2 p.1.1 (Dx j ix ls) (p.2++[.lst []])).map λh=>(.mu p.2.length,h)
open Classical in
def E4(ma mb:ME):MA:=λls hd=>(ma ls hd).bind λp=>(mb ls p.2).bind λq=>match p.1,q.1 with
 |.mu i,.mu j=>match q.2[i]?,q.2[j]? with
  |some (.lst xs),some (.lst ys)=>if BB (xs.length+ys.length)then some (xs++ys,q.2)else none
  |_,_=>none
 |_,_=>none
def Tw{K:PySem.W.Frag}{ta tb:TE}{ma mb:ME}(ha:RE K ta ma)(hb:RE K tb mb):RN K (tOp Ot ta tb) (E4 ma mb):=by
 and_intros;obtain⟨⟨d1,h1⟩,e1,hm⟩:=Yp hm;obtain⟨⟨d2,h2⟩,e2,hm⟩:=Yp hm;dsimp only at hm;split at hm
 .next i j=>
  split at hm
  .next xs ys q1 q2=>
   split at hm
   .next c=>
    cases hm;refine ha ρ σ H hd ls _ _ h1 hR hL e1 λρ1 H1 v x1 R1 r1=>?_;refine hb ρ1 σ H1 h1 ls _ _ _ R1 (hL.ext hR x1) e2 λρ2 H2 u x2 R2 r2=>?_;have r1':=r1.ext R1 x2;simp only[RD]at r1' r2;obtain⟨a,ka,rfl⟩:=r1';obtain⟨b,kb,rfl⟩:=r2;obtain⟨vs,f1,f2⟩:=R2.lst ka q1;obtain⟨us,f3,f4⟩:=R2.lst kb q2;refine⟨a,b,vs,us,rfl,rfl,f1,f3,by rw[f2.len,f4.len];exact c,λp hp=>?_⟩;obtain⟨R3,x3⟩:=R2.hid (ho:=.lst (vs++us)) hp;have x12:=x1.trans R1 x2;exact hQ ρ2 _ p _ (x12.trans R2 x3) R3 (x12.none hR hp R2) (R2.out hp) AL ((f2.app f4).ext R2 x3)
   .cases hm
  .cases hm
 .cases hm
def Ua(K:PySem.W.Frag){X:Cx}{a b:Expr}{pos:Pos}{ta tb:TE}{ma mb:ME}(ha:QE K X a ta ma)(hb:QE K X b tb mb):QN K X (.BinOp a .Add b pos) (tOp Ot ta tb) (E4 ma mb):=⟨Lo VW ha.p hb.p,Tw ha.r hb.r⟩
@[simp] theorem Xa(j:Nat)(ix:List Nat)(mi mi2:MI)(n n2:MG)(c c2:MT)(m:ME)(ls:Ls)(hd:Hd):Vb j ix mi n c mi2 n2 c2 m ls hd=(mi ls hd).bind λp=>(Lw p.2.length n c mi2 n2 c2 m p.1.2 p.1.1 (Dx j ix ls) (p.2++[.lst []])).map λh=>(.mu p.2.length,h):=rfl
end L2
namespace L2
open PySem PySem.Spec PyProof.Rows PySem.W
section
variable(r:Nat->Int)(n:Nat)
def PWp{α:Type}:KasT α->(α->Prop)->Prop
 |.ret a,Q=>Q a
 |.ask i j k,Q=>i<n/\j<n/\PWp (k (decide (r i<r j))) Q
def kv(p:Array Nat)(i:Nat):Int:=r (p.getD i 0)
def STo(p:Array Nat)(m:Nat):Prop:=∀i j,i<=j->j<m->kv r p i<=kv r p j
def DTo(p:Array Nat)(m:Nat):Prop:=∀i j,i<=j->j<m->kv r p j<=kv r p i
def EqL(p:Array Nat)(m q:Nat):Prop:=∀k,m-(q+1)<=k->k<m->kv r p k=kv r p (m-1)
def PAr(p:Array Nat):Prop:=p.Perm (List.range n).toArray
end
section
variable{r:Nat->Int}{n:Nat}
def PWp.bind{α β:Type}{f:α->KasT β}{Q:β->Prop}:∀{t:KasT α},PWp r n t (λa=>PWp r n (f a) Q)->PWp r n (t.bind f) Q
 |.ret _,h=>h
 |.ask i j k,h=>⟨h.1,h.2.1,PWp.bind h.2.2⟩
def PWp.mono{α:Type}{Q Q':α->Prop}:∀{t:KasT α},PWp r n t Q->(∀a,Q a->Q' a)->PWp r n t Q'
 |.ret _,h,q=>q _ h
 |.ask i j k,h,q=>⟨h.1,h.2.1,PWp.mono h.2.2 q⟩
def PWp.wp{α:Type}{cmp:Nat->Nat->(Bool->Shared->Prop)->Shared->Prop}{P:Shared->Prop}{Q:α->Shared->Prop}(hc:∀i j C s,i<n->j<n->P s->(∀s',P s'->C (decide (r i<r j)) s')->cmp i j C s):∀{t:KasT α} {s:Shared},PWp r n t (λa=>∀s,P s->Q a s)->P s->t.kasWp cmp Q s
 |.ret _,s,h,p=>h s p
 |.ask i j k,s,h,p=>hc i j _ s h.1 h.2.1 p λs' p'=>PWp.wp hc h.2.2 p'
def PAr.size{p:Array Nat}(h:PAr n p):p.size=n:=by have:=h.size_eq;simpa using this
def PAr.lt{p:Array Nat}(h:PAr n p){i:Nat}(hi:i<n):p.getD i 0<n:=by
 have hs:=h.size;have hi':i<p.size:=by omega
 have:p[i]∈(List.range n).toArray:=h.mem_iff.mp (Array.getElem_mem hi');have e:p.getD i 0=p[i]:=by simp[Array.getD,hi']
 rw[e];simpa using this
def Gp{p:Array Nat}{i j:Nat}(hj:j<=p.size)(k:Nat):kv r (kas_rev p i j) k=if i<=k/\k<j then kv r p (i+j-1-k)else kv r p k:=by
 unfold kv kas_rev;simp only[Array.getD_eq_getD_getElem?];rw[getElem?_mirror_all hj];split<;>rfl
def PAr.rev{p:Array Nat}(h:PAr n p)(i j:Nat):PAr n (kas_rev p i j):=(mirror_perm _ _ _ _).trans h
def Kk{p:Array Nat}{m q:Nat}(hj:m<=p.size)(hq:q+1<=m)(h:EqL r p m q)(k:Nat):kv r (kas_rev p (m-(q+1)) m) k=kv r p k:=by
 rw[Gp hj];split
 .next c=>rw[h _ (by omega) (by omega),h k c.1 c.2]
 .rfl
def Jv{p:Array Nat}(pa:PAr n p):∀(f m:Nat),1<=m->m+f<=n->STo r p m->PWp r n (kas_asc p f m) λm'=>m<=m'/\m'<=m+f/\STo r p m'/\(m'<m+f->kv r p m'<kv r p (m'-1))
 |0,m,h1,hn,hs=>⟨le_refl _,le_refl _,hs,λh=>by omega⟩
 |f+1,m,h1,hn,hs=>by
  refine⟨pa.lt (by omega),pa.lt (by omega),?_⟩;by_cases c:r (p.getD m 0)<r (p.getD (m-1) 0)
  .rw[decide_eq_true c];exact⟨le_refl _,by omega,hs,λ_=>c⟩
  .rw[decide_eq_false c];refine(Jv pa f (m+1) (by omega) (by omega) ?_).mono λm' h=>⟨by omega,by omega,h.2.2.1,λz=>h.2.2.2 (by omega)⟩
   intro i j hij hj;by_cases e:j<m
   .exact hs i j hij e
   .have:j=m:=by omega
    subst this;by_cases e2:i=j
    .subst e2;exact Int.le_refl _
    .have:=hs i (j-1) (by omega) (by omega);have:kv r p (j-1)<=kv r p j:=by unfold kv;omega
     omega
def GK{p:Array Nat}{m:Nat}(h1:1<=m)(h:DTo r p m)(c:kv r p m<=kv r p (m-1)):DTo r p (m+1):=by
 intro i j hij hj;by_cases e:j<m
 .exact h i j hij e
 .have:j=m:=by omega
  subst this;by_cases e2:i=j
  .subst e2;exact Int.le_refl _
  .have:=h i (j-1) (by omega) (by omega);omega
def Fj:∀(f:Nat) (p:Array Nat) (m q:Nat),PAr n p->1<=m->q+1<=m->m+f<=n->DTo r p m->EqL r p m q ->
 PWp r n (kas_desc f p m q) λz=>PAr n z.1/\m<=z.2.1/\z.2.1<=m+f/\DTo r z.1 z.2.1/\EqL r z.1 z.2.1 z.2.2/\z.2.2+1<=z.2.1
 |0,p,m,q,pa,h1,hq,hn,hd,he=>⟨pa,le_refl _,le_refl _,hd,he,hq⟩
 |f+1,p,m,q,pa,h1,hq,hn,hd,he=>by
  refine⟨pa.lt (by omega),pa.lt (by omega),?_⟩;have sz:=pa.size;by_cases c:r (p.getD m 0)<r (p.getD (m-1) 0)
  .rw[decide_eq_true c];have c':kv r p m<=kv r p (m-1):=by unfold kv;omega
   dsimp only;rw[if_pos rfl];by_cases hq0:q>0
   .rw[if_pos hq0];have sm:=Kk (r:=r) (p:=p) (m:=m) (q:=q) (by omega) hq he;refine(Fj f _ (m+1) 0 (pa.rev _ _) (by omega) (by omega) (by omega) ?_ ?_).mono λz h=>⟨h.1,by omega,by omega,h.2.2.2⟩
    .have:=GK h1 hd c';intro i j a b;rw[sm,sm];exact this i j a b
    .intro k a b;have:k=m:=by omega
     subst this;rfl
   .rw[if_neg hq0];refine(Fj f p (m+1) 0 pa (by omega) (by omega) (by omega) (GK h1 hd c') ?_).mono λz h=>⟨h.1,by omega,by omega,h.2.2.2⟩
    intro k a b;have:k=m:=by omega
    subst this;rfl
  .rw[decide_eq_false c];dsimp only;rw[if_neg Bool.false_ne_true];refine⟨pa.lt (by omega),pa.lt (by omega),?_⟩;by_cases d:r (p.getD (m-1) 0)<r (p.getD m 0)
   .rw[decide_eq_true d];exact⟨pa,le_refl _,by show m<=m+(f+1);omega,hd,he,hq⟩
   .rw[decide_eq_false d];dsimp only;rw[if_neg Bool.false_ne_true];have e:kv r p m=kv r p (m-1):=by unfold kv;omega
    refine(Fj f p (m+1) (q+1) pa (by omega) (by omega) (by omega) (GK h1 hd (by omega)) ?_).mono λz h=>⟨h.1,by omega,by omega,h.2.2.2⟩
    intro k a b;by_cases e2:k=m
    .subst e2;rfl
    .have:=he k (by omega) (by omega);have e3:m+1-1=m:=rfl;rw[e3];omega
def Run(z:Nat×Array Nat)(r:Nat->Int)(n:Nat):Prop:=PAr n z.2/\1<=z.1/\z.1<=n/\STo r z.2 z.1
def J0{p:Array Nat}{m:Nat}(pa:PAr n p)(h1:1<=m)(hn:m<=n)(hd:DTo r p m):PWp r n (kas_tail3 m n p) λz=>Run z r n:=by
 have sz:=pa.size;have st:STo r (kas_rev p 0 m) m:=by
  intro i j a b;rw[Gp (by omega),Gp (by omega),if_pos ⟨by omega,by omega⟩,if_pos ⟨by omega,by omega⟩];exact hd _ _ (by omega) (by omega)
 refine PWp.bind ((Jv (pa.rev 0 m) (n-m) m h1 (by omega) st).mono λm' h=>?_);exact⟨pa.rev 0 m,by show 1<=m';omega,by show m'<=n;omega,h.2.2.1⟩
def Fp{p:Array Nat}{m:Nat}(pa:PAr n p)(hn:m+1<=n)(hd:DTo r p (m+1)):PWp r n (kas_descPart m n p) λz=>Run z r n:=by
 refine PWp.bind ((Fj (n-(m+1)) p (m+1) 0 pa (by omega) (by omega) (by omega) hd ?_).mono λz h=>?_)
 .intro k a b;have:k=m:=by omega
  subst this;rfl
 .obtain⟨a,b,c,d,e,g⟩:=h;have sz:=a.size;by_cases hq:z.2.2>0
  .rw[if_pos hq];have sm:=Kk (r:=r) (p:=z.1) (m:=z.2.1) (q:=z.2.2) (by omega) g e;exact J0 (a.rev _ _) (by omega) (by omega) λi j x y=>by rw[sm,sm];exact d i j x y
  .rw[if_neg hq];exact J0 a (by omega) (by omega) d
def Pi(h1:1<=n):PWp r n (kas_count n (List.toArray (List.range n))) λz=>Run z r n:=by
 have pa:PAr n (List.range n).toArray:=.refl _;have sz:=pa.size;refine PWp.bind ((Jv pa (n-1) 1 (by omega) (by omega) λi j a b=>?_).mono λm h=>?_)
 .have:i=j:=by omega
  subst this;exact Int.le_refl _
 .obtain⟨a,b,c,d⟩:=h;by_cases e:(m==n)=true
  .rw[if_pos e];have:m=n:=by simpa using e
   exact⟨pa,by show 1<=m;omega,by show m<=n;omega,c⟩
  .rw[if_neg e];have hne:m≠n:=by simpa using e
   have dd:=d (by omega);by_cases h2:m>1
   .rw[if_pos h2];refine⟨pa.lt (by omega),pa.lt (by omega),?_⟩;by_cases g:r ((List.range n).toArray.getD 0 0)<r ((List.range n).toArray.getD (m-1) 0)
    .rw[decide_eq_true g];exact⟨pa,by show 1<=m;omega,by show m<=n;omega,c⟩
    .rw[decide_eq_false g];dsimp only;rw[if_neg Bool.false_ne_true];have g':kv r (List.range n).toArray (m-1)<=kv r (List.range n).toArray 0:=by unfold kv;omega
     have eq:∀k,k<m->kv r (List.range n).toArray k=kv r (List.range n).toArray 0:=λk hk=>by
      have x1:=c 0 k (by omega) hk;have x2:=c k (m-1) (by omega) (by omega);omega
     have rv:∀k,kv r (kas_rev (List.range n).toArray 0 m) k=kv r (List.range n).toArray k:=λk=>by
      rw[Gp (by omega)];split
      .next z=>rw[eq _ (by omega),eq k z.2]
      .rfl
     refine Fp (pa.rev 0 m) (by omega) λi j x y=>?_;rw[rv,rv];by_cases z:j<m
     .rw[eq i (by omega),eq j z];exact Int.le_refl _
     .have:j=m:=by omega
      subst this;by_cases z2:i=j
      .subst z2;exact Int.le_refl _
      .rw[eq i (by omega)];have:=eq (j-1) (by omega);omega
   .rw[if_neg h2];have:m=1:=by omega
    subst this;refine Fp pa (by omega) λi j x y=>?_;by_cases z:i=j
    .subst z;exact Int.le_refl _
    .have:i=0:=by omega
     have:j=1:=by omega
     subst i j;have:kv r (List.range n).toArray 1<kv r (List.range n).toArray 0:=dd;omega
def G0{p:Array Nat}{k:Nat}(pa:PAr n p)(hk:k<n)(hs:STo r p k):∀(f l q:Nat),l<=q->q<=k->q-l<=f->(∀i,i<l->kv r p i<=kv r p k)->(∀i,q<=i->i<k->kv r p k<kv r p i) ->
 PWp r n (kas_place p k f l q) λm=>m<=k/\(∀i,i<m->kv r p i<=kv r p k)/\∀i,m<=i->i<k->kv r p k<kv r p i
 |0,l,q,a,b,c,d,e=>⟨by omega,d,λi x y=>e i (by omega) y⟩
 |f+1,l,q,a,b,c,d,e=>by
  unfold kas_place;by_cases h:l>=q
  .rw[if_pos h];exact⟨by omega,d,λi x y=>e i (by omega) y⟩
  .rw[if_neg h];refine⟨pa.lt (by omega),pa.lt (by omega),?_⟩;by_cases g:r (p.getD k 0)<r (p.getD ((l+q)/2) 0)
   .rw[decide_eq_true g];dsimp only;rw[if_pos rfl];have g':kv r p k<kv r p ((l+q)/2):=g;refine G0 pa hk hs f l ((l+q)/2) (by omega) (by omega) (by omega) d λi x y=>?_;have:=hs ((l+q)/2) i x y;omega
   .rw[decide_eq_false g];dsimp only;rw[if_neg Bool.false_ne_true];have g':kv r p ((l+q)/2)<=kv r p k:=by unfold kv;omega
    refine G0 pa hk hs f ((l+q)/2+1) q (by omega) (by omega) (by omega) (λi x=>?_) e;have:=hs i ((l+q)/2) (by omega) (by omega);omega
def IF{p:Array Nat}{k d:Nat}(hk:k<p.size)(hd:d<=k)(i:Nat):kv r (bubble p k d) i=if i=k-d then kv r p k else if k-d<i/\i<=k then kv r p (i-1)else kv r p i:=by
 unfold kv;simp only[Array.getD_eq_getD_getElem?];rw[getElem?_bubble hk d hd];split
 .rfl
 .split<;>rfl
def O1:∀(f:Nat) (p:Array Nat) (k:Nat),PAr n p->k+f=n->STo r p k->PWp r n (kas_bin f p k) λz=>PAr n z/\STo r z n
 | 0,p,k,pa,e,hs=>⟨pa,by
  have:k=n:=by omega
  subst this;exact hs⟩
 |f+1,p,k,pa,e,hs=>by
  have sz:=pa.size;refine PWp.bind ((G0 pa (by omega) hs k 0 k (by omega) (by omega) (by omega) (λi h=>by omega) (λi a b=>by omega)).mono λm h=>?_);obtain⟨a,b,c⟩:=h;refine O1 f _ (k+1) ((bubble_perm _ _ _).trans pa) (by omega) λi j x y=>?_;rw[IF (by omega) (by omega),IF (by omega) (by omega)];have ek:k-(k-m)=m:=by omega
  rw[ek]
  repeat' split
  .exact Int.le_refl _
  .exact Int.le_of_lt (c _ (by omega) (by omega))
  .omega
  .exact b _ (by omega)
  .exact hs _ _ (by omega) (by omega)
  .omega
  .exact b _ (by omega)
  .exact hs _ _ (by omega) (by omega)
  .exact hs _ _ (by omega) (by omega)
def Qj(h1:1<=n):PWp r n (kas_sort n) λp=>PAr n p/\STo r p n:=by
 refine PWp.bind ((Pi h1).mono λz h=>?_);obtain⟨a,b,c,d⟩:=h;by_cases e:z.1<n
 .rw[if_pos e];have:max z.1 1=z.1:=by omega
  rw[this];exact O1 _ _ _ a (by omega) d
 .rw[if_neg e];have:z.1=n:=by omega
  exact⟨a,this ▸ d⟩
end
def PairAt(h:Heap)(v:Value)(p:Int×Int):Prop:=∃(x:Addr) (o:Obj) (t u:Tok) (k:Nat),v=.ref x/\h.get? x=some o/\o.cls=.type "tuple"/\o.data=.seq #[.int p.1 t,.int p.2 u] k
def BQ(p:Int×Int):Int:=p.1*4000000000+p.2
def pok(p:Int×Int):Prop:=-1000000000<=p.1/\p.1<=1000000000/\-1000000000<=p.2/\p.2<=1000000000
section
variable{prog:Program}{w:World}{A:Around}{E:Value->Shared->Prop}{s:Shared}
def Sz{x y:Value}{p q:Int×Int}{C:Bool->Shared->Prop}(hx:PairAt s.heap x p)(hy:PairAt s.heap y q)(op:pok p)(oq:pok q)(h:C (decide (BQ p<BQ q)) s):
 wpAny (model prog w) A (keyLt' (tuples' true) x y) C E s:=by
 obtain⟨a,o,t,u,k,rfl,ho,hc,hd⟩:=hx;obtain⟨a2,o2,t2,u2,k2,rfl,ho2,hc2,hd2⟩:=hy;obtain⟨p1,p2⟩:=p;obtain⟨q1,q2⟩:=q;unfold pok at op oq;unfold BQ at h;dsimp only at op oq h;refine kat_lt ho hd ho2 hd2 ?_;refine kat_cons (wpAny_eqBool_int ?_);by_cases e1:p1=q1
 .have b1:(p1==q1)=true:=by simp[e1]
  rw[b1];refine kat_yes (kat_cons (wpAny_eqBool_int ?_));by_cases e2:p2=q2
  .have b2:(p2==q2)=true:=by simp[e2]
   rw[b2];refine kat_yes (kat_nil ?_);have:decide (p1*4000000000+p2<q1*4000000000+q2)=false:=decide_eq_false (by omega);rw[this]at h;exact h
  .have b2:(p2==q2)=false:=by simp[e2]
   rw[b2];refine kat_no (kat_one _ _ (lt_int ?_));have:decide (p1*4000000000+p2<q1*4000000000+q2)=decide (p2<q2):=decide_eq_decide.mpr (by omega);rw[this]at h;exact h
 .have b1:(p1==q1)=false:=by simp[e1]
  rw[b1];refine kat_no (oneLt_int ?_);have:decide (p1*4000000000+p2<q1*4000000000+q2)=decide (p1<q1):=decide_eq_decide.mpr (by omega);rw[this]at h;exact h
def KL{h:Heap}:∀{vs:List Value} {ps:List (Int×Int)},vs.length=ps.length->(∀(i:Nat) (v:Value) (p:Int×Int),vs[i]?=some v->ps[i]?=some p->PairAt h v p)->∃fs,KatTups h vs fs/\fs.length=vs.length/\∀f∈fs,∃i t,f=.int i t
 |[],[],_,_=>⟨[],.nil,rfl,λ_ z=>by cases z⟩
 |v::vs,p::ps,hl,hp=>by
  obtain⟨fs,a,b,c⟩:=KL (vs:=vs) (ps:=ps) (by simpa using hl) λi v q e1 e2=>hp (i+1) v q (by simpa using e1) (by simpa using e2);obtain⟨x,o,t,u,k,rfl,ho,hc,hd⟩:=hp 0 v p rfl rfl;exact⟨.int p.1 t::fs,.cons ho hc hd rfl a,by simp[b],λf hf=>by
   rcases mem_cons.mp hf with rfl|hf
   .exact⟨_,_,rfl⟩
   .exact c f hf⟩
def DQ(vs:List Value)(ps:List (Int×Int))(out:List Value):Prop:=∃zs:List (Value×(Int×Int)),zs.Perm (vs.zip ps)/\(zs.map λz=>BQ z.2).Pairwise (·<=·)/\out=zs.map (·.1)
def Mf{vs:List Value}{ps:List (Int×Int)}(hl:vs.length=ps.length){p:Array Nat}(pa:PAr vs.length p)(hs:STo (λi=>BQ (ps.getD i (0,0))) p vs.length):DQ vs ps (p.toList.map λi=>vs.getD i Value.none):=by
 have sz:=pa.size;refine⟨p.toList.map λi=>(vs.getD i Value.none,ps.getD i (0,0)),?_,?_,by rw[map_map];rfl⟩
 .have e:vs.zip ps=(List.range vs.length).map λi=>(vs.getD i Value.none,ps.getD i (0,0)):=by
   refine List.ext_getElem? λi=>?_;by_cases hi:i<vs.length
   .have hi2:i<ps.length:=by omega
    rw[(List.getElem?_zip_eq_some (z:=(vs[i],ps[i]))).mpr ⟨by simp[hi],by simp[hi2]⟩];simp[hi,hi2]
   .rw[List.getElem?_eq_none (by simp;omega),List.getElem?_eq_none (by simp;omega)]
  rw[e];have:=Array.perm_iff_toList_perm.mp pa;simpa using this.map _
 .rw[map_map,List.pairwise_iff_getElem];intro i j hi hj hij;simp only[length_map,Array.length_toList]at hi hj;have:=hs i j (by omega) (by omega);unfold kv at this;simpa [Array.getD,hi,hj]using this
def LQ{a:Addr}{vs:List Value}{ps:List (Int×Int)}{n:Nat}{P:PySem.Fin->Shared->Prop}(ho:s.heap.get? a=some (seqObj "list" vs.toArray n))(hl:vs.length=ps.length)(h64:vs.length<64)(hok:∀p∈ps,pok p)
 (hp:∀(i:Nat) (v:Value) (p:Int×Int),vs[i]?=some v->ps[i]?=some p->PairAt (s.heap.update a (Obj.mapSeq λ_=>#[])) v p)
 (h:∀out:List Value,DQ vs ps out->P (.done (.ret .none)) { s with heap:=sortedHeap s.heap a vs out.toArray }):
 wpAny (model prog w) A (Builtin.«list.sort» ⟨[.ref a],[]⟩) P E s:=by
 have ha:=Heap.lt_size ho;have line:vs.length<=sizeLine:=by rw[sizeLine_eq];omega
 obtain⟨e1,ho1⟩:∃e1,(s.heap.update a (Obj.mapSeq λ_=>#[])).get? a=some (seqObj "list" #[] e1):=⟨_,get?_update_seq ho _⟩
 rw[list_sort_plain];refine wpAny_bind (listItems_at ho rfl (wpAny_bind (listUpdate_at ho rfl (wpAny_bind (seqEpoch_at ho1 rfl (wpAny_bind (wpAny_newTuple (wpAny_bind (wpAny_newList (wpAny_holding ?_) (zero_le _))) line)))) (by rw[size_toArray];exact line) (zero_le _))));have grow:∀b o,(s.heap.update a (Obj.mapSeq λ_=>#[])).get? b=some o->(((s.heap.update a (Obj.mapSeq λ_=>#[])).push (seqObj "tuple" vs.toArray 0)).push (seqObj "list" #[] 0)).get? b=some o:=λb o e=>Heap.get?_push_of_some _ (Heap.get?_push_of_some _ e);have ho6:=grow _ _ ho1;generalize h6:((s.heap.update a (Obj.mapSeq λ_=>#[])).push (seqObj "tuple" vs.toArray 0)).push (seqObj "list" #[] 0)=hp6 at *;have done:∀out:List Value,DQ vs ps out->P (.done (.ret .none)) { s with heap:=hp6.update a (Obj.mapSeq λ_=>out.toArray) }:=λout z=>by
  have:=h out z;unfold sortedHeap at this;rw[h6]at this;exact this
 show wpAny (model prog w) A _ P E { s with heap:=hp6 };dsimp only;have pairs6:∀(i:Nat) (v:Value) (p:Int×Int),vs[i]?=some v->ps[i]?=some p->PairAt hp6 v p:=λi v p x y=>by
  obtain⟨x',o,t,u,k,e,q,c,d⟩:=hp i v p x y;exact⟨x',o,t,u,k,e,grow _ _ q,c,d⟩
 by_cases h2:vs.toArray.size<2
 .rw[if_pos h2,if_pos h2];refine wpAny_bind (wpAny_pure ?_);rw[StateT.run_pure];refine wpAny_bind (wpAny_pure ?_);dsimp only;have hout:(arrOf (SortSt.mk' general' (vs.toArray.zip vs.toArray) #[] 7 none)).map (·.2)=vs.toArray:=by
   show(vs.toArray.zip vs.toArray).map (·.2)=vs.toArray;apply Array.toList_inj.mp;simp only[Array.toList_map,Array.toList_zip];exact List.map_snd_zip (le_refl _)
  rw[hout];refine wpAny_bind (seqEpoch_at ho6 rfl (wpAny_bind (listUpdate_at ho6 rfl ?_ (zero_le _) (by rw[size_toArray];omega))));simp only[bne_self_eq_false,Bool.false_eq_true,if_false];refine wpAny_pure (done vs ⟨vs.zip ps,.refl _,?_,?_⟩)
  .have hz:(vs.zip ps).length<2:=by simp at h2 ⊢;omega
   cases hh:vs.zip ps with
   |nil=>exact .nil
   |cons z r=>
    cases r with
    |nil=>exact List.pairwise_singleton _ _
    |cons y t=>rw[hh]at hz;exact absurd hz (by simp)
  .rw[List.map_fst_zip (by omega)]
 .rw[if_neg h2,if_neg h2];have h2':2<=vs.length:=by simp at h2;omega
  obtain⟨fs,t1,t2,t3⟩:=KL hl pairs6;have tT:∀f∈fs,Looks (model prog w) hp6 (typeOf f) (Value.type "int"):=λf hf=>by
   obtain⟨i,t,rfl⟩:=t3 f hf;exact .of_pure rfl
  refine wpAny_bind (kat_kind (s:={ s with heap:=hp6 }) t1 (by omega) tT rfl ?_);have est:SortSt.mk' (tuples' true) (vs.toArray.zip vs.toArray) #[] 7 none=kas_st (tuples' true) (pairsOf vs) (List.toArray (List.range vs.length)):=by
   unfold kas_st;rw[<- pairsOf_size vs,kas_range];rfl
  have ask:(kas_sort vs.length).kasWp (kas_cmp prog w A (tuples' true) (pairsOf vs)) (λp s'=>s'={ s with heap:=hp6 }/\DQ vs ps (p.toList.map λi=>vs.getD i Value.none)) { s with heap:=hp6 }:=by
   rw[<- kas_ask_eq];refine PWp.wp (n:=vs.length) (r:=λi=>BQ (ps.getD i (0,0))) (P:=λs'=>s'={ s with heap:=hp6 }) (λi j C s' hi hj e hC=>?_) ((Qj (by omega)).mono λp z s' e=>⟨e,Mf hl z.1 z.2⟩) rfl;subst e;have pi:ps[i]?=some (ps.getD i (0,0)):=by simp[show i<ps.length by omega]
   have pj:ps[j]?=some (ps.getD j (0,0)):=by simp[show j<ps.length by omega]
   have vi:vs[i]?=some (vs.getD i Value.none):=by simp[hi]
   have vj:vs[j]?=some (vs.getD j Value.none):=by simp[hj]
   exact Sz (s:={ s with heap:=hp6 }) (pairs6 i _ _ vi pi) (pairs6 j _ _ vj pj) (hok _ (mem_of_getElem? pi)) (hok _ (mem_of_getElem? pj)) (hC _ rfl)
  have run:=kas_runs (E:=E) (Q:=λ_ st' s'=>∃p:Array Nat,p.size=vs.length/\arrOf st'=p.map (kas_item (pairsOf vs))/\failedOf st'=none/\s'={ s with heap:=hp6 }/\DQ vs ps (p.toList.map λi=>vs.getD i Value.none)) h2' h64 (λp st' s' x1 x2 x3 x4=>⟨p,x1,x2,x3,x4⟩) ask;rw[<- est]at run;refine wpAny_bind (wpAny_mono run ?_ λ_ _ e=>e);rintro⟨⟨⟩,st'⟩ s' ⟨p,hsz,har,hf,rfl,so⟩;dsimp only;have hout:(arrOf st').map (·.2)=(p.toList.map λi=>vs.getD i Value.none).toArray:=by
   rw[har];apply Array.toList_inj.mp;simp only[Array.toList_map,map_map];exact List.map_congr_left λi _=>congrArg Prod.snd (kas_item_eq vs i)
  rw[hout];refine wpAny_bind (seqEpoch_at ho6 rfl (wpAny_bind (listUpdate_at ho6 rfl ?_ (zero_le _) (by simp[hsz];omega))));rw[hf];simp only[bne_self_eq_false,Bool.false_eq_true,if_false];exact wpAny_pure (done _ so)
end
def PairAt.keep{h h':Heap}{v:Value}{p:Int×Int}(k:∀b o,h.get? b=some o->h'.get? b=some o)(q:PairAt h v p):PairAt h' v p:=by
 obtain⟨x,o,t,u,n,e,ho,c,d⟩:=q;exact⟨x,o,t,u,n,e,k _ _ ho,c,d⟩
section
variable{prog:Program}{w:World}{A:Around}{E:Value->Shared->Prop}{s:Shared}
def J2{l:Addr}{vs:List Value}{ps:List (Int×Int)}{Q:Value->Shared->Prop}(hl:s.heap.IsList l vs.toArray)(hlen:vs.length=ps.length)(h64:vs.length<64)(hok:∀p∈ps,pok p)
 (hp:∀(i:Nat) (v:Value) (p:Int×Int),vs[i]?=some v->ps[i]?=some p->PairAt s.heap v p)
 (h:∀out:List Value,DQ vs ps out->Q (.ref (s.heap.objs.size+1)) { s with heap:=sortedAll s.heap vs out.toArray }):
 wpAny (model prog w) A (call (.builtin "sorted") [.ref l]) Q E s:=by
 have line:vs.length<=sizeLine:=by rw[sizeLine_eq];omega
 refine Calls.call_function_entry kind_sorted plain_sorted entry_sorted (args_sorted1 _) ?_;unfold Builtin.«sorted»;refine wpAny_bind (m:=checkCount "sorted" 1 1 _) (wpAny_pure (wpAny_bind (collect_list hl (wpAny_bind (wpAny_newList ?_ line)) line)));have sz:((s.heap.push (seqObj "list" #[] 0)).update s.heap.objs.size (Obj.mapSeq (·++vs.toArray))).objs.size=s.heap.objs.size+1:=by rw[Heap.size_update,size_push']
 have at1:(((s.heap.push (seqObj "list" #[] 0)).update s.heap.objs.size (Obj.mapSeq (·++vs.toArray))).push (seqObj "list" vs.toArray 0)).get? (s.heap.objs.size+1)=some (seqObj "list" vs.toArray 0):=by
  have:=Heap.get?_push_size ((s.heap.push (seqObj "list" #[] 0)).update s.heap.objs.size (Obj.mapSeq (·++vs.toArray))) (o:=seqObj "list" vs.toArray 0) rfl
  rwa [sz]at this
 have old:∀b o,s.heap.get? b=some o->((((s.heap.push (seqObj "list" #[] 0)).update s.heap.objs.size (Obj.mapSeq (·++vs.toArray))).push (seqObj "list" vs.toArray 0)).update (s.heap.objs.size+1) (Obj.mapSeq λ_=>#[])).get? b=some o:=λb o e=>by
  have lt:=Heap.lt_size e;rw[Heap.get?_update_ne _ _ _ _ (ne_of_lt (lt_succ_of_lt lt)),Heap.get?_push_ne _ _ _ (by rw[sz];exact ne_of_lt (lt_succ_of_lt lt)),Heap.get?_update_ne _ _ _ _ (ne_of_lt lt),Heap.get?_push_ne _ _ _ (ne_of_lt lt)];exact e
 show wpAny _ _ _ _ _ { s with heap:=((s.heap.push (seqObj "list" #[] 0)).update s.heap.objs.size (Obj.mapSeq (·++vs.toArray))).push (seqObj "list" vs.toArray 0) };rw[sz];refine wpAny_bind (wpAny_holding (wpAny_call_entry slot_list_sort ⟨_,at1,rfl⟩ entry_list_sort (LQ at1 hlen h64 hok (λi v p a b=>(hp i v p a b).keep old) λout z=>⟨_,rfl,?_⟩) (args_list_sort _)));exact wpAny_pure ⟨_,rfl,h out z⟩
end
section
variable(K:PySem.W.Frag){X:Cx}
def Fy:List V->Hp->VK->Prop:=λxs H Q=>∃(a:Addr) (us:List V) (ps:List (Int×Int)),xs=[.ref a]/\SqL K H a us/\us.length=ps.length/\us.length<64/\(∀q∈ps,pok q)/\
 (∀(i:Nat) (u:V) (q:Int×Int),us[i]?=some u->ps[i]?=some q->∃x,u=.ref x/\SqT K H x [.int q.1,.int q.2])/\
 ∀(p:Addr) (zs:List (V×(Int×Int))),H p=none->zs.Perm (us.zip ps)->(zs.map λz=>BQ z.2).Pairwise (·<=·)->Q (.ref p) (upd H p (.lst (zs.map (·.1))))
def Ef:Value->V
 |.ref x=>.ref x
 |_=>.non
def Iw:∀{us:List V} {its:List Value} {i:Nat} {u:V},Vals us its->us[i]?=some u->∃v,its[i]?=some v/\RelV u v
 |_,_,_,_,.nil,h=>by simp at h
 |_::_,_::_,0,_,.cons r _,h=>by
  simp at h;subst h;exact⟨_,rfl,r⟩
 |_::_,_::_,i+1,_,.cons _ t,h=>Iw (i:=i) t (by simpa using h)
def Jq(hK:X.K=K:=by rfl):CallR X (.builtin "sorted") (Fy K):=by
 subst hK;intro pins s σ H xs us0 Q I r h;obtain⟨a,us,ps,rfl,hq,hlen,h64,hok,hpr,q⟩:=h;obtain⟨u,rfl,ru⟩:=BY r;cases ru;obtain⟨its,rv,p,hz⟩:=I.list hq;have hl2:us.length=its.length:=rv.length;have point:∀(i:Nat) (v:Value) (q:Int×Int),its[i]?=some v->ps[i]?=some q->(∃x,us[i]?=some (.ref x)/\v=.ref x)/\PairAt s.heap v q:=by
  intro i v q e1 e2;have hi:i<us.length:=by rw[hl2];exact(List.getElem?_eq_some_iff.mp e1).1
  have eu:us[i]?=some us[i]:=by simp[hi]
  obtain⟨x,ex,sq⟩:=hpr i _ q eu e2;obtain⟨v',ev,rel⟩:=Iw rv eu;rw[e1]at ev;cases ev;rw[ex]at rel eu;have rel:v=Value.ref x:=rel;subst rel;refine⟨⟨x,eu,rfl⟩,?_⟩;obtain⟨jts,rj,⟨o,ho,hc,n,hd⟩,_⟩:=I.tuple sq;cases rj with
  |cons r1 t1=>
   cases t1 with
   |cons r2 t2=>
    cases t2;obtain⟨t,rfl⟩:=r1;obtain⟨t',rfl⟩:=r2;exact⟨x,o,t,t',n,rfl,ho,hc,hd⟩
 refine J2 (ps:=ps) p.isList (by omega) (by omega) hok (λi v q a b=>(point i v q a b).2) λout z=>?_;obtain⟨zs,pm,pw,rfl⟩:=z;obtain⟨e,he⟩:=sortedAll_at s.heap its (zs.map (·.1)).toArray;have mz:∀z∈zs,∃x,z.1=.ref x:=λz hz=>by
  have:=pm.mem_iff.mp hz;obtain⟨i,hi⟩:=List.mem_iff_getElem?.mp this;obtain⟨e1,e2⟩:=List.getElem?_zip_eq_some.mp hi;obtain⟨⟨x,_,ex⟩,_⟩:=point i _ _ e1 e2;exact⟨x,ex⟩
 have vz:∀{zs:List (Value×(Int×Int))},(∀z∈zs,∃x,z.1=.ref x)->Vals (zs.map λz=>Ef z.1) (zs.map (·.1)):=by
  intro zs
  induction zs with
  |nil=>intro _;exact .nil
  |cons z r ih=>
   intro h;obtain⟨x,ex⟩:=h z mem_cons_self;refine .cons ?_ (ih λy hy=>h y (mem_cons_of_mem _ hy));show RelV (Ef z.1) z.1;rw[ex];rfl
 have pm2:(zs.map λz=>(Ef z.1,z.2)).Perm (us.zip ps):=by
  have:=pm.map λz:Value×(Int×Int)=>(Ef z.1,z.2)
  have e:((its.zip ps).map λz:Value×(Int×Int)=>(Ef z.1,z.2))=us.zip ps:=by
   refine List.ext_getElem? λi=>?_;by_cases hi:i<us.length
   .have h1:i<its.length:=by omega
    have h2:i<ps.length:=by omega
    have e1:its[i]?=some its[i]:=by simp[h1]
    have e2:ps[i]?=some ps[i]:=by simp[h2]
    obtain⟨⟨x,ex,ev⟩,_⟩:=point i _ _ e1 e2;rw[List.getElem?_map,(List.getElem?_zip_eq_some (z:=(its[i],ps[i]))).mpr ⟨e1,e2⟩,(List.getElem?_zip_eq_some (z:=(V.ref x,ps[i]))).mpr ⟨ex,e2⟩,map_some,ev];rfl
   .rw[List.getElem?_eq_none (by simp;omega),List.getElem?_eq_none (by simp;omega)]
  rwa [e]at this
 have pw2:((zs.map λz=>(Ef z.1,z.2)).map λz:V×(Int×Int)=>BQ z.2).Pairwise (·<=·):=by rw[map_map];exact pw
 have fin:=q (s.heap.objs.size+1) _ (I.hok.fresh (le_succ _)) pm2 pw2;have em:(zs.map λz=>(Ef z.1,z.2)).map (·.1)=zs.map λz=>Ef z.1:=by rw[map_map];rfl
 rw[em]at fin;have zl:zs.length<64:=by rw[pm.length_eq];simp;omega
 refine⟨.ref (s.heap.objs.size+1),_,I.laid (a:=s.heap.objs.size+1) (o:=.lst (zs.map λz=>Ef z.1)) (t':=s.toks) (λb o hb=>sortedAll_old hb) (le_succ _) ⟨?_,_,e,vz mz,he⟩,rfl,fin⟩;rw[length_map];exact le_of_lt (Hy (by omega))
end
def Af(p:Int×Int):D:=.im (.tup [.int p.1,.int p.2])
def CY:List D->Option (List (Int×Int))
 |[]=>some []
 |.im (.tup [.int a,.int b])::r=>(CY r).map ((a,b)::·)
 |_=>none
def NC:∀{ds:List D} {ps:List (Int×Int)},CY ds=some ps->ds=ps.map Af:=by
 intro ds
 induction ds with
 |nil=>intro ps h;simp[CY]at h;subst h;rfl
 |cons d r ih=>
  intro ps h;unfold CY at h;split at h
  .next e=>cases e
  .next a b r' e=>
   cases e;obtain⟨qs,e1,rfl⟩:=Yq h;rw[ih e1];rfl
  .cases h
@[simp] theorem Lp(ps:List (Int×Int)):CY (ps.map Af)=some ps:=by
 induction ps with
 |nil=>rfl
 |cons p r ih=>simp[CY,Af]at ih ⊢;exact ih
def BE(ps:List (Int×Int)):List (Int×Int):=ps.mergeSort λa b=>decide (BQ a<=BQ b)
def Ee(ps:List (Int×Int)):(BE ps).Perm ps:=List.mergeSort_perm ..
def F5(ps:List (Int×Int)):(BE ps).Pairwise λa b=>BQ a<=BQ b:=by
 have:=List.pairwise_mergeSort (le:=λa b:Int×Int=>decide (BQ a<=BQ b)) (by intro a b c h1 h2;simp at *;omega) (by intro a b;simp;omega) ps;exact this.imp (by simp)
def P9{p q:Int×Int}(a:pok p)(b:pok q)(h:BQ p=BQ q):p=q:=by
 unfold pok at a b;unfold BQ at h;exact Prod.ext (by omega) (by omega)
open Classical in
def Cp(m:MI):MA:=λls hd=>(m ls hd).bind λp=>(CY p.1.1).bind λps=>if ps.length<64/\∀q∈ps,pok q then some ((BE ps).map Af,p.2)else none
section
variable{K:PySem.W.Frag}{ρ:List Addr}{H:Hp}{hd:Hd}
def Rf{p:Int×Int}{v:V}(h:RD K ρ H (Af p) v):∃x,v=.ref x/\SqT K H x [.int p.1,.int p.2]:=by
 simp only[Af,RD,RI,RIs]at h;obtain⟨a,xs,rfl,q,x,r,rfl,rfl,y,r2,rfl,rfl,rfl⟩:=h;exact⟨a,rfl,q⟩
def LX{t:TE}{m:MI}(h:RRw K false t m):RN K (tCB (Fy K) (BD t Bh)) (Cp m):=by
 and_intros;obtain⟨⟨⟨d1,g1⟩,h1⟩,e1,hm⟩:=Yp hm;obtain⟨ps,e2,hm⟩:=Yp hm;split at hm
 .next c=>
  cases hm;refine h ρ σ H hd ls _ d1 g1 _ hR hL e1 λρ1 H1 a x1 R1 G1 S1=>?_;obtain⟨xs,q,r⟩:=S1 ρ1 H1 _ .refl R1 G1;have e2:CY d1=some ps:=e2;rw[NC e2]at r;have hl:xs.length=ps.length:=by simpa using r.len
  have each:∀(i:Nat) (u:V) (q:Int×Int),xs[i]?=some u->ps[i]?=some q->RD K ρ1 H1 (Af q) u:=λi u q a b=>by
   obtain⟨x,e,z⟩:=r.get (i:=i) (d:=Af q) (by simp[b]);rw[a]at e;cases e;exact z
  refine⟨a,xs,ps,rfl,q,hl,by rw[hl];exact c.1,c.2,λi u q a b=>Rf (each i u q a b),λp zs hp pm pw=>?_⟩;have es:zs.map (·.2)=BE ps:=by
   have pp:(zs.map (·.2)).Perm ps:=by
    have:=pm.map (λz:V×(Int×Int)=>z.2)
    rwa [List.map_snd_zip (by omega)]at this
   refine(pp.trans (Ee ps).symm).eq_of_pairwise (le:=λa b=>BQ a<=BQ b) (λx y hx hy l1 l2=>P9 (c.2 _ (pp.mem_iff.mp hx)) (c.2 _ ((Ee ps).mem_iff.mp hy)) (Int.le_antisymm l1 l2)) ?_ (F5 ps);rw[List.pairwise_map]at pw ⊢;exact pw
  obtain⟨R2,x2⟩:=R1.hid (ho:=.lst (zs.map (·.1))) hp;have all:∀z∈zs,RD K ρ1 H1 (Af z.2) z.1:=λz hz=>by
   obtain⟨i,hi⟩:=List.mem_iff_getElem?.mp (pm.mem_iff.mp hz);obtain⟨a1,a2⟩:=List.getElem?_zip_eq_some.mp hi;exact each i _ _ a1 a2
  have rd:∀{zs:List (V×(Int×Int))},(∀z∈zs,RD K ρ1 H1 (Af z.2) z.1)->RDs K ρ1 H1 ((zs.map (·.2)).map Af) (zs.map (·.1)):=by
   intro zs
   induction zs with
   |nil=>intro _;exact .nil
   |cons z r ih=>intro h;exact .cons (h z mem_cons_self) (ih λy hy=>h y (mem_cons_of_mem _ hy))
  have rz:=rd all;rw[es]at rz;exact hQ ρ1 _ p _ (x1.trans R1 x2) R2 (x1.none hR hp R1) (R1.out hp) AL (rz.ext R1 x2)
 .cases hm
open Classical in
def EN:D->List D->Hd->Option (D×Hd)
 |.mu n,[.im (.int i)],hd=>match hd[n]? with
  |some (.lst ds)=>if DW i then(ixN ds.length i).bind λk=>(ds[k]?).map λy=>(y,hd.set n (.lst (ds.eraseIdx k)))else none
  |_=>none
 |_,_,_=>none
def RDs.erase:∀{ds:List D} {xs:List V} (k:Nat),RDs K ρ H ds xs->RDs K ρ H (ds.eraseIdx k) (xs.eraseIdx k)
 |[],_,_,h=>by simp only[RDs]at h;subst h;simp[RDs]
 |d::ds,_,0,h=>by simp only[RDs]at h;obtain⟨x,r,rfl,_,t⟩:=h;simpa using t
 |d::ds,_,k+1,h=>by
  simp only[RDs]at h;obtain⟨x,r,rfl,a,t⟩:=h;simpa using RDs.cons a (RDs.erase k t)
end
def Od{K:PySem.W.Frag}:RM K N2 EN:=by
 intro ρ H hd d v ds vs Q z hd' hR h1 h2 hf hQ;unfold EN at hf;split at hf
 .split at hf
  .next q=>
   split at hf
   .next c=>
    obtain⟨k,e0,hf⟩:=Yp hf;obtain⟨y,e1,e3⟩:=Yq hf;cases e3;simp only[RD]at h1;obtain⟨a,hn,rfl⟩:=h1;simp only[RDs,RD,RI]at h2;obtain⟨x,r,rfl,rfl,rfl⟩:=h2;obtain⟨xs,f1,f2⟩:=hR.lst hn q;obtain⟨x,x1,x3⟩:=f2.get e1;obtain⟨R2,x2⟩:=hR.put hn (o:=.lst _) (ho:=.lst (xs.eraseIdx k)) ⟨_,rfl,f2.erase k⟩;obtain⟨s1,s2,s3,s4⟩:=HZ e0;have sz:=f2.len;unfold DW at c;exact⟨a,xs,_,k,x,rfl,rfl,f1,by omega,by omega,by rw[sz];exact s1,x1,hQ ρ _ _ x2 R2 (x3.ext hR x2)⟩
   .cases hf
  .cases hf
 .cases hf
section
variable(K:PySem.W.Frag){X:Cx}{e:Expr}{te:TE}{p pos:Pos}
def Li{mi:MI}(hm:X.mg "sorted"=none)(ha:QR K false X e te mi)(hg:Gl X "sorted":=by rfl)(he:starEach [e] X.env=[(false,eval e X.env)]:=by rfl)(hK:X.K=K:=by rfl):QN K X (.Call (.Name "sorted" p) [e] [] pos) (tCB (Fy K) (BD te Bh)) (Cp mi):=
 ⟨Eh (Jq K hK) hg hm IN (C2 ha.p CZ he) (by decide) (by decide) he rfl,LX ha.r⟩
end
section
variable{ls:Ls}{hd:Hd}
open Classical in
@[simp] theorem Pc(k:Nat)(i:Int):EN (.mu k) [.im (.int i)] hd=match hd[k]? with
 |some (.lst ds)=>if DW i then(ixN ds.length i).bind λj=>(ds[j]?).map λy=>(y,hd.set k (.lst (ds.eraseIdx j)))else none
 |_=>none:=rfl
open Classical in
@[simp] theorem M4(mi:MI):Cp mi ls hd=(mi ls hd).bind λp=>(CY p.1.1).bind λps=>if ps.length<64/\∀q∈ps,pok q then some ((BE ps).map Af,p.2)else none:=rfl
end
def FB(p:Int×Int):I:=.tup [.int p.1,.int p.2]
end L2
namespace L2
open PySem PySem.Spec PyProof.Rows
section
variable{K:PySem.W.Frag}{ρ ρ':List Addr}{H H':Hp}{hd hd':Hd}
variable(K:PySem.W.Frag){X:Cx}
variable{a b:Expr}{ta tb:TE}{ma mb:ME}{pos:Pos}
def Uv(hu:X.A.units+1<cLine)(ha:QE K X a ta ma)(hb:QE K X b tb mb)(hmk:behindInMarks .In b=false:=by rfl):QE K X (.Compare a [.In] [b] pos) (OQ ta tb) (mOp (Hg false) ma mb):=⟨VI (VN hu ha.p hb.p) hmk,UE hb.r ha.r⟩
end
def WP{α:Type}(o:Option (α×Hd))(Q:α->Hd->Prop):Prop:=∃z h,o=some (z,h)/\Q z h
abbrev WS(m:MS)(ls:Ls)(hd:Hd)(Q:Fl->Hd->Prop):Prop:=WP (m ls hd) Q
abbrev WE(m:ME)(ls:Ls)(hd:Hd)(Q:D->Hd->Prop):Prop:=WP (m ls hd) Q
abbrev WT(m:MT)(ls:Ls)(hd:Hd)(Q:Bool->Hd->Prop):Prop:=WP (m ls hd) Q
abbrev WA(m:MA)(ls:Ls)(hd:Hd)(Q:List D->Hd->Prop):Prop:=WP (m ls hd) Q
abbrev WO(m:MO1)(ls:Ls)(hd:Hd)(Q:Option Int->Hd->Prop):Prop:=WP (m ls hd) Q
abbrev WI(m:MI)(ls:Ls)(hd:Hd)(Q:List D×Gd->Hd->Prop):Prop:=WP (m ls hd) Q
abbrev WF(F:List D->Hd->Option (D×Hd))(ds:List D)(hd:Hd)(Q:D->Hd->Prop):Prop:=WP (F ds hd) Q
section
variable{α β:Type}{o:Option (α×Hd)}{Q:α->Hd->Prop}{R:β->Hd->Prop}{ls:Ls}{hd:Hd}{d e:D}
def WP.some{z:α}{h:Hd}(q:Q z h):WP (some (z,h)) Q:=⟨z,h,rfl,q⟩
def WP.mono{Q':α->Hd->Prop}(h:WP o Q)(k:∀z h,Q z h->Q' z h):WP o Q':=let ⟨z,x,e,q⟩:=h;⟨z,x,e,k z x q⟩
def WP.bind{f:α×Hd->Option (β×Hd)}(h:WP o λz x=>WP (f (z,x)) R):WP (o.bind f) R:=by
 obtain⟨z,x,e,q⟩:=h;rw[e];exact q
def WP.eq{z:α}{h:Hd}(e:o=Option.some (z,h))(q:Q z h):WP o Q:=⟨z,h,e,q⟩
end
section
variable{ls:Ls}{hd:Hd}{a b:MS}{ma mb mc:ME}{ta tb:MT}{m m1 m2:MA}{n:MG}{ns:MGs}{mi:MI}{d e:D}{i j:Nat}{QS:Fl->Hd->Prop}{QE:D->Hd->Prop}{QT:Bool->Hd->Prop}{QA:List D->Hd->Prop}{QO:Option Int->Hd->Prop}{QI:List D×Gd->Hd->Prop}
def LF(b:MS)(Q:Fl->Hd->Prop):Fl->Hd->Prop
 |.nx l,h=>WS b l h Q
 |f,h=>Q f h
def AE(h:WS a ls hd (LF b QS)):WS (A7 a b) ls hd QS:=by
 obtain⟨f,x,e,q⟩:=h;show WP (A7 a b ls hd) QS;rw[D3,e];cases f<;>first|exact q|exact⟨_,_,rfl,q⟩
def AA{l:Ls}{h:Hd}(q:WS b l h QS):LF b QS (.nx l) h:=q
def OE{h:Hd}(q:QS (.rt d) h):LF b QS (.rt d) h:=q
def AZ(h:QS (.nx ls) hd):WS Au ls hd QS:=⟨_,_,rfl,h⟩
def Ak(h:WE ma ls hd λd x=>QS (.rt d) x):WS (AX ma) ls hd QS:=WP.bind (h.mono λ_ _ q=>WP.some q)
def Ar(h:WE ma ls hd λd x=>QS (.nx (ls.set i (some d))) x):WS (AG i ma) ls hd QS:=by
 obtain⟨d,x,e,q⟩:=h;exact⟨_,_,by simp only[D4,e,bind_some,Fi,map_some],q⟩
def KC(h:WE ma ls hd λ_ x=>QS (.nx ls) x):WS (BM ma) ls hd QS:=WP.bind (h.mono λ_ _ q=>WP.some q)
def WD(h:WT ta ls hd λc x=>if c=true then WS a ls x QS else WS b ls x QS):WS (B8 ta a b) ls hd QS:=by
 refine WP.bind (h.mono λc x q=>?_);dsimp only;cases c<;>simpa using q
def Ab(h:WT ta ls hd λc x=>(c=true->WS a ls x QS)/\(c=false->WS b ls x QS)):WS (B8 ta a b) ls hd QS:=
 WD (h.mono λc x q=>by cases c<;>simp_all)
def MM{ix:List Nat}(h:WA m ls hd λds x=>ds.length=ix.length/\QS (.nx ((ix.zip ds).foldl (λl q=>l.set q.1 (some q.2)) ls)) x):WS (Ej ix m) ls hd QS:=by
 obtain⟨d,x,e,q,q2⟩:=h;exact⟨_,_,by simp only[Vv,e,bind_some,q,if_true],q2⟩
def WL(n:MG)(b:MS)(g:Gd)(ds:List D)(ls:Ls)(hd:Hd)(Q:Fl->Hd->Prop):Prop:=WP (B1 n b g ds ls hd) Q
def EC(h:WI mi ls hd λp x=>WL n b p.2 p.1 ls x QS):WS (BG mi n b) ls hd QS:=WP.bind (h.mono λ_ _ q=>q)
def WK(g:Gd)(P:Ls->Hd->Prop)(Q:Fl->Hd->Prop):Fl->Hd->Prop
 |.nx l,h=>GOk h g/\P l h
 |.ct l,h=>GOk h g/\P l h
 |.bk l,h=>Q (.nx l) h
 |.rt d,h=>Q (.rt d) h
def Cy{g:Gd}(P:List D->Ls->Hd->Prop):∀{ds:List D} {ls:Ls} {hd:Hd},P ds ls hd ->
 (∀d r ls hd,P (d::r) ls hd->∃ls1,n d ls hd=some ls1/\WS b ls1 hd (WK g (P r) QS))->(∀ls hd,P [] ls hd->QS (.nx ls) hd)->WL n b g ds ls hd QS
 |[],ls,hd,h,_,z=>⟨_,_,by unfold B1;rfl,z _ _ h⟩
 |d::r,ls,hd,h,k,z=>by
  obtain⟨ls1,e1,f,x,e2,q⟩:=k d r ls hd h;unfold WL;unfold B1;rw[e1,bind_some,e2,bind_some];cases f with
  |nx l=>exact(show GOk x g/\P r l x from q).1 |> λg1=>by dsimp only;rw[if_pos g1];exact Cy P q.2 k z
  |ct l=>exact(show GOk x g/\P r l x from q).1 |> λg1=>by dsimp only;rw[if_pos g1];exact Cy P q.2 k z
  |bk l=>exact⟨_,_,rfl,q⟩
  |rt l=>exact⟨_,_,rfl,q⟩
def A3(h:ls[i]?=some (some d))(q:QE d hd):WE (A1 i) ls hd QE:=⟨d,hd,by rw[Dk,h],q⟩
def AF{i:I}(q:QE (.im i) hd):WE (mC i) ls hd QE:=⟨_,_,rfl,q⟩
def AK{f:D->D->Hd->Option (D×Hd)}(h:WE ma ls hd λd x=>WE mb ls x λe y=>WP (f d e y) QE):WE (mOp f ma mb) ls hd QE:=WP.bind (h.mono λ_ _ q=>WP.bind (q.mono λ_ _ q=>q))
def Ag(h:WA m ls hd λds x=>BB ds.length/\QE (AD ds) x):WE (AS m) ls hd QE:=WP.bind (h.mono λds x q=>by dsimp only;rw[if_pos q.1];exact WP.some q.2)
def B6(h:WA m ls hd λds x=>QE (.mu x.length) (x++[.lst ds])):WE (AY m) ls hd QE:=WP.bind (h.mono λ_ _ q=>WP.some q)
def Iv{g:List D->Option D}(h:WA m ls hd λds x=>∃d,g ds=some d/\QE d x):WE (D7 g m) ls hd QE:=by
 obtain⟨ds,x,e,d,e2,q⟩:=h;exact⟨d,x,by simp only[Nl,e,bind_some,e2,map_some],q⟩
def MV(h:WA m ls hd λds x=>WE ma ls x λe y=>∃i d,e=.im (.int i)/\atI ds i=some d/\QE d y):WE (B7 m ma) ls hd QE:=by
 obtain⟨ds,x,e,d,y,e2,i,z,rfl,e4,q⟩:=h;exact⟨z,y,by simp only[Nh,e,bind_some,e2,e4,map_some],q⟩
def C1{f:List D->Hd->Option (D×Hd)}(h:WA m ls hd λds x=>WP (f ds x) QE):WE (mCB f m) ls hd QE:=WP.bind (h.mono λ_ _ q=>q)
def Pp{f:D->List D->Hd->Option (D×Hd)}(h:WE ma ls hd λd x=>(∃l,Ai x d=some l)/\WA m ls x λds y=>WP (f d ds y) QE):WE (mMt f ma m) ls hd QE:=by
 obtain⟨d,x,e,⟨l,hl⟩,q⟩:=h;unfold WE;rw[M5,e,bind_some];dsimp only;rw[hl];exact WP.bind (q.mono λ_ _ q=>q)
def B5{F:List D->Hd->Option (D×Hd)}(h:WA m ls hd λds x=>WF F ds x QE):WE (Am F m) ls hd QE:=WP.bind (h.mono λ_ _ q=>q)
def DS(h:WE ma ls hd λd x=>∃i,d=.im (.int i)/\QE (.im (.int (-i))) x):WE (CK ma) ls hd QE:=by
 obtain⟨d,x,e,i,rfl,q⟩:=h;exact⟨_,x,by simp only[Vw,e,bind_some],q⟩
def Qa(h:WT (AJ ma) ls hd λc x=>if c=true then WE mb ls x QE else QE (.im (.bl false)) x):WE (El ma mb) ls hd QE:=by
 refine WP.bind (h.mono λc x q=>?_);dsimp only;cases c
 .exact WP.some (by simpa using q)
 .simpa using q
def HE(h:WT (AJ ma) ls hd λc x=>QE (.im (.bl (!c))) x):WE (DE ma) ls hd QE:=WP.bind (h.mono λ_ _ q=>WP.some q)
def Ay(h:WE ma ls hd λd x=>∃b,d=.im (.bl b)/\QT b x):WT (AJ ma) ls hd QT:=by
 obtain⟨d,x,e,b,rfl,q⟩:=h;exact⟨b,x,by simp only[Hi,e,bind_some],q⟩
def Ah(h:WE ma ls hd λd x=>∃b,CU x d=some b/\QT b x):WT (Br ma) ls hd QT:=by
 obtain⟨d,x,e,b,e2,q⟩:=h;exact⟨b,x,by simp only[Nb,e,bind_some,e2,map_some],q⟩
def EB(h:WT ta ls hd λc x=>QT (!c) x):WT (GC ta) ls hd QT:=WP.bind (h.mono λ_ _ q=>WP.some q)
def GP(h:WT ta ls hd λc x=>if c=true then WT tb ls x QT else QT false x):WT (Dg ta tb) ls hd QT:=by
 refine WP.bind (h.mono λc x q=>?_);dsimp only;cases c
 .exact WP.some (by simpa using q)
 .simpa using q
def EZ(h:WT ta ls hd λc x=>if c=true then QT true x else WT tb ls x QT):WT (mOr ta tb) ls hd QT:=by
 refine WP.bind (h.mono λc x q=>?_);dsimp only;cases c
 .simpa using q
 .exact WP.some (by simpa using q)
def Ez(h:QT true hd):WT E2 ls hd QT:=⟨_,_,rfl,h⟩
def A5(h:QA [] hd):WA A4 ls hd QA:=⟨_,_,rfl,h⟩
def A2(h:WE ma ls hd λd x=>WA m ls x λds y=>QA (d::ds) y):WA (A0 ma m) ls hd QA:=WP.bind (h.mono λ_ _ q=>WP.bind (q.mono λ_ _ q=>WP.some q))
def B9(h:WA m ls hd λds x=>BB ds.length/\QA ds x):WA (AV m) ls hd QA:=WP.bind (h.mono λds x q=>by dsimp only;rw[if_pos q.1];exact WP.some q.2)
def KJ{k:Int}(e:m ls hd=some ([.im (.int k)],hd))(hk:Ga k)(q:QA (AQ 0 k.toNat) hd):WA (Dd m) ls hd QA:=⟨_,_,by simp only[Nc,e,bind_some,hk,if_true],q⟩
def HF(h:WE ma ls hd λd x=>∃ds,Ad x d=some ds/\QA ds x):WA (DF ma) ls hd QA:=by
 obtain⟨d,x,e,ds,e2,q⟩:=h;exact⟨ds,x,by simp only[T8,e,bind_some,e2,map_some],q⟩
def MR{ml mh:MO1}(h:WE ma ls hd λd x=>WO ml ls x λl y=>WO mh ls y λu z=>∃ds,A9 d=some ds/\¬ (HT.sIx ds.length 0 l=0/\HT.sIx ds.length ds.length u=ds.length)/\QE (AD (BI ds l u)) z):WE (Dc ma ml mh) ls hd QE:=by
 obtain⟨d,x,e,l,y,e2,u,z,e3,ds,e4,c,q⟩:=h;exact⟨_,z,by simp only[Vs,e,bind_some,e2,e3,e4];rw[if_pos c],q⟩
def Eb(h:QO none hd):WO AI ls hd QO:=⟨_,_,rfl,h⟩
def C0(h:WE ma ls hd λd x=>∃i,d=.im (.int i)/\QO (some i) x):WO (AN ma) ls hd QO:=by
 obtain⟨d,x,e,i,rfl,q⟩:=h;exact⟨_,x,by simp only[Km,e,bind_some],q⟩
def L9(h:WA m ls hd λds x=>∃k,ds=[.im (.int k)]/\DW k/\QI (AQ 0 k.toNat,[]) x):WI (Bl m) ls hd QI:=by
 obtain⟨ds,x,e,k,rfl,c,q⟩:=h;exact⟨_,x,by simp only[Ni,e,bind_some,c,if_true],q⟩
def WJ(h:WA m ls hd λds x=>∃j k,ds=[.im (.int j),.im (.int k)]/\JE j k/\QI (AQ j (k-j).toNat,[]) x):WI (DG m) ls hd QI:=by
 obtain⟨ds,x,e,j,k,rfl,c,q⟩:=h;exact⟨_,x,by simp only[Ko,e,bind_some,c,if_true],q⟩
def Ft(h:WE ma ls hd λd x=>∃ds,A9 d=some ds/\QI (ds,[]) x):WI (CL ma) ls hd QI:=by
 obtain⟨d,x,e,ds,e2,q⟩:=h;exact⟨_,x,by simp only[Vx,e,bind_some,e2,map_some],q⟩
def O9(h:WA m ls hd λds x=>QI (ds,[]) x):WI (GE m) ls hd QI:=by
 obtain⟨ds,x,e,q⟩:=h;exact⟨_,x,by simp only[Vy,e,map_some],q⟩
def XD(h:WE ma ls hd λd x=>∃k ds,d=.mu k/\x[k]?=some (.lst ds)/\QI (ds,[(k,ds)]) x):WI (De ma) ls hd QI:=by
 obtain⟨d,x,e,k,ds,rfl,e2,q⟩:=h;exact⟨_,x,by simp only[Nj,e,bind_some,e2],q⟩
def DL{k:Nat}{ix:List Nat}(h:WI mi ls hd λp x=>BB p.1.length/\WP (B0 n ta ma p.2 p.1 (Dx k ix ls) x) QA):WA (BU k ix mi n ta ma) ls hd QA:=WP.bind (h.mono λp x q=>by dsimp only;rw[if_pos q.1];exact q.2)
def Cw{i j:Int}(q:QE (.im (.int (i+j))) hd):WP (AC (.im (.int i)) (.im (.int j)) hd) QE:=⟨_,_,by simp,q⟩
def GQ{i j:Int}(q:QE (.im (.int (i-j))) hd):WP (Bp (.im (.int i)) (.im (.int j)) hd) QE:=⟨_,_,by simp,q⟩
def TN{i j:Int}(c:Bm j)(q:QE (.im (.int (i%j))) hd):WP (BR (.im (.int i)) (.im (.int j)) hd) QE:=⟨_,_,by simp[c],q⟩
def L3{i j:Int}(q:QE (.im (.bl (decide (i<j)))) hd):WP (gLt (.im (.int i)) (.im (.int j)) hd) QE:=⟨_,_,by simp,q⟩
def WG{i j:Int}(q:QE (.im (.bl (decide (i<=j)))) hd):WP (gLe (.im (.int i)) (.im (.int j)) hd) QE:=⟨_,_,by simp,q⟩
def L7{i j:Int}(q:QE (.im (.bl (decide (j<i)))) hd):WP (gGt (.im (.int i)) (.im (.int j)) hd) QE:=⟨_,_,by simp,q⟩
def WH{i j:Int}(q:QE (.im (.bl (decide (j<=i)))) hd):WP (gGe (.im (.int i)) (.im (.int j)) hd) QE:=⟨_,_,by simp,q⟩
def F0{i j:Int}(q:QE (.im (.bl (decide (i=j)))) hd):WP (gEq (.im (.int i)) (.im (.int j)) hd) QE:=⟨_,_,by simp,q⟩
def MP{i j:Int}(q:QE (.im (.bl (!decide (i=j)))) hd):WP (gNe (.im (.int i)) (.im (.int j)) hd) QE:=⟨_,_,by simp,q⟩
def TR{i j:Str}(q:QE (.im (.bl (decide (i=j)))) hd):WP (gEq (.im (.str i)) (.im (.str j)) hd) QE:=⟨_,_,by simp,q⟩
def Ir{i j:Str}(q:QE (.im (.bl (!decide (i=j)))) hd):WP (gNe (.im (.str i)) (.im (.str j)) hd) QE:=⟨_,_,by simp,q⟩
def By{i:Int}{ds:List D}(e1:Ad hd d=some ds)(e2:atI ds i=some e)(q:QE e hd):WP (gIx d (.im (.int i)) hd) QE:=⟨_,_,by rw[Q9,e1,bind_some,e2];rfl,q⟩
def KG{k:Key}{kvs:List (Key×D)}{z:D}(e1:BJ hd d=some kvs)(e2:Bs e=some k)(e3:Ae kvs k=some z)(q:QE z hd):WP (B3 d e hd) QE:=⟨_,_,by rw[TB,e1,bind_some,e2,bind_some,e3];rfl,q⟩
def TV{k:Key}{neg:Bool}{kvs:List (Key×D)}(e1:BJ hd d=some kvs)(e2:Bs e=some k)(q:QE (.im (.bl (if neg then !(Ae kvs k).isSome else(Ae kvs k).isSome))) hd):WP (Hg neg e d hd) QE:=⟨_,_,by unfold Hg;rw[e1,bind_some,e2];rfl,q⟩
def QP{i j:Int}(q:QE (.im (.int (max i j))) hd):WP (Q8 [.im (.int i),.im (.int j)] hd) QE:=⟨_,_,rfl,by have:(if j>i then j else i)=max i j:=(by split<;>omega);rw[this];exact q⟩
def QM{i j:Int}(q:QE (.im (.int (min i j))) hd):WP (Es [.im (.int i),.im (.int j)] hd) QE:=⟨_,_,rfl,by have:(if j<i then j else i)=min i j:=(by split<;>omega);rw[this];exact q⟩
def GR{tp:Bool}{g:List D->Option D}{ds:List D}{z:D}(e1:(if tp then Ad hd d else Ai hd d)=some ds)(e2:g ds=some z)(q:QE z hd):WP (f1 tp g [d] hd) QE:=⟨_,_,by rw[X3,e1,bind_some,e2];rfl,q⟩
def MQ{k:Nat}{x:D}{ds:List D}(e1:hd[k]?=some (.lst ds))(c:CD ds.length)(q:QE (.im .non) (hd.set k (.lst (ds++[x])))):WP (Aj (.mu k) [x] hd) QE:=⟨_,_,by rw[Jb,e1];simp only[c,if_true],q⟩
def QK{k:Key}{w:Nat}(h:WE mc ls hd λp x=>WE ma ls x λq y=>WE mb ls y λr z=>∃w k kvs,q=.mu w/\Bs r=some k/\z[w]?=some (.dic kvs)/\CD kvs.length/\QS (.nx ls) (z.set w (.dic (BP kvs k p)))):WS (Bn ma mb mc) ls hd QS:=by
 obtain⟨p,x,e1,q,y,e2,r,z,e3,w,k,kvs,rfl,e4,e5,c,qq⟩:=h;exact⟨_,_,by simp only[T9,e1,bind_some,e2,e3,e4,e5,c,if_true],qq⟩
def QJ(h:WE mc ls hd λp x=>WE ma ls x λq y=>WE mb ls y λr z=>∃w i j ds,q=.mu w/\r=.im (.int i)/\z[w]?=some (.lst ds)/\ixN ds.length i=some j/\QS (.nx ls) (z.set w (.lst (ds.set j p)))):WS (Q7 ma mb mc) ls hd QS:=by
 obtain⟨p,x,e1,q,y,e2,r,z,e3,w,i,j,ds,rfl,rfl,e5,c,qq⟩:=h;exact⟨_,_,by simp only[T7,e1,bind_some,e2,e3,e5,c,map_some],qq⟩
def Dq{k n:Nat}{m:MS}{ds:List D}{Q:D->Hd->Prop}(hl:ds.length=k)(h:WS m (ds.map some++List.replicate (n-k) none) hd λf x=>match f with
 |.rt d=>Q d x
 |.nx _=>Q (.im .non) x
 | _=>False):WF (mkF k n m) ds hd Q:=by
 obtain⟨f,x,e,q⟩:=h;unfold WF mkF;rw[if_pos hl,e];cases f with
 |nx l=>exact⟨_,_,rfl,q⟩
 |rt l=>exact⟨_,_,rfl,q⟩
 |bk l=>exact q.elim
 |ct l=>exact q.elim
end
structure Tap(T:Nat->MO->MO->Prop)(P:List D->Hd->Option (D×Hd)):Prop where
 cl:∀{k:Nat} {a b:MO},T k a b->clO 2 a=true/\clO 2 b=true
 le:∀{j k:Nat} {a b:MO},T k a b->j<=k->T j a b
 pick:∀{k:Nat} {a b:MO} {many:Int},T (k+1) a b->0<many->many<1073741824->∃r a' b',0<=r/\r<many/\P [.mu 1,.im (.int many)] [a,b]=some (.im (.int r),[a',b'])/\T k a' b'
section
variable{T:Nat->MO->MO->Prop}{P:List D->Hd->Option (D×Hd)}{a b:MO}{rest:Hd}{ls:Ls}{m:MA}{QE:D->Hd->Prop}{n c:Nat}
def Tap.draw(t:Tap T P)(hT:T (n+1) a b){many:Int}{hd:Hd}(e:m ls hd=some ([.mu 1,.im (.int many)],a::b::rest))(h0:0<many)(h1:many<1073741824)
 (k:∀r a' b',T n a' b'->0<=r->r<many->QE (.im (.int r)) (a'::b'::rest)):WE (A6 2 P m) ls hd QE:=by
 obtain⟨r,a',b',p1,p2,e2,hT'⟩:=t.pick hT h0 h1;refine⟨_,_,Ev (w:=2) (ds:=[.mu 1,.im (.int many)]) (pre:=[a,b]) (pre':=[a',b']) (rest:=rest) (g:=[]) rfl rfl e (by simp) ?_ ?_ (by simpa using e2),k r a' b' hT' p1 p2⟩
 .simp[t.cl hT]
 .simp[t.cl hT']
end
section
variable{K:PySem.W.Frag}{ρ ρ':List Addr}{H H':Hp}{hd hd':Hd}
def FX(w:Nat)(ls:Ls):Ls:=ls.map λo=>match o with
 |some d=>if clD w d=true then some d else none
 |none=>none
def Ec(w:Nat):Fl->Option Fl
 |.nx ls=>some (.nx (FX w ls))
 |.bk ls=>some (.bk (FX w ls))
 |.ct ls=>some (.ct (FX w ls))
 |.rt d=>if clD w d=true then some (.rt d)else none
def Gk(w:Nat)(m:MS):MS:=λls hd=>if hd.length<=w then(m ls hd).bind λp=>if(p.2.take w).all (clO w)=true then(Ec w p.1).map λf=>(f,p.2.take w)else none else none
def RL.trim{ls:Ls}{σ:St}(h:RL K ρ H ls σ)(w:Nat):RL K (ρ.take w) H (FX w ls) σ:=by
 refine⟨by simp[FX,h.len],λi d e=>?_⟩;unfold FX at e;rw[List.getElem?_map]at e;cases q:ls[i]? with
 |none=>rw[q]at e;cases e
 |some o=>
  rw[q]at e;cases o with
  |none=>simp at e
  |some z=>
   simp only[map_some,Option.some.injEq]at e;split at e
   .next c=>
    cases e;obtain⟨v,e1,e2⟩:=h.ob i _ q;exact⟨v,e1,e2.take w c⟩
   .cases e
def Ext.trim(x:Ext ρ H ρ' H'){w:Nat}(h:ρ.length<=w):Ext ρ H (ρ'.take w) H':=by
 obtain⟨r,rfl,fr⟩:=x.pre;refine⟨⟨r.take (w-ρ.length),?_,λb hb=>fr b (mem_of_mem_take hb)⟩,x.keep,x.tab⟩;rw[List.take_append,take_of_length_le h]
def Qu{t:TS}{m:MS}(w:Nat)(h:RS K t m):RS K t (Gk w m):=by
 intro ρ σ H hd ls E f hd' hR hL hm hQ;unfold Gk at hm;split at hm
 .next hw=>
  obtain⟨⟨f1,h1⟩,e1,hm⟩:=Yp hm;dsimp only at hm;split at hm
  .next c=>
   obtain⟨f2,e2,e3⟩:=Yq hm;cases e3;refine h ρ σ H hd ls E f1 h1 hR hL e1 λρ1 H1 x1 R1=>?_;have q:=hQ (ρ1.take w) H1 (x1.trim (by rw[hR.len];exact hw)) (R1.take w c);cases f1 with
   |nx l=>simp only[Ec,Option.some.injEq]at e2;subst e2;exact λσ' L=>q σ' (L.trim w)
   |bk l=>simp only[Ec,Option.some.injEq]at e2;subst e2;exact λσ' L=>q σ' (L.trim w)
   |ct l=>simp only[Ec,Option.some.injEq]at e2;subst e2;exact λσ' L=>q σ' (L.trim w)
   |rt d=>
    simp only[Ec]at e2;split at e2
    .next c2=>cases e2;exact λv r=>q v (r.take w c2)
    .cases e2
  .cases hm
 .cases hm
def QH{w:Nat}{m:MS}{ls:Ls}{Q:Fl->Hd->Prop}(hw:hd.length<=w)(h:WS m ls hd λf x=>(x.take w).all (clO w)=true/\∃f',Ec w f=some f'/\Q f' (x.take w)):WS (Gk w m) ls hd Q:=by
 obtain⟨f,x,e,c,f',e2,q⟩:=h;exact⟨f',x.take w,by unfold Gk;rw[if_pos hw,e,bind_some];dsimp only;rw[if_pos c,e2];rfl,q⟩
def FE(m:MS):MS:=λls hd=>Gk hd.length m ls hd
def Oa{t:TS}{m:MS}(h:RS K t m):RS K t (FE m):=λρ σ H hd ls E f hd' hR hL hm hQ=>Qu hd.length h ρ σ H hd ls E f hd' hR hL hm hQ
def N3(K:PySem.W.Frag){X:Cx}{st:List Stmt}{t:TS}{m:MS}(h:QSs K X st t m):QSs K X st t (FE m):=⟨h.p,Oa h.r⟩
def O7{m:MS}{ls:Ls}{Q:Fl->Hd->Prop}(h:WS m ls hd λf x=>(x.take hd.length).all (clO hd.length)=true/\∃f',Ec hd.length f=some f'/\Q f' (x.take hd.length)):WS (FE m) ls hd Q:=QH (le_refl _) h
def Ie:ME:=λ_ hd=>some (.mu hd.length,hd++[.dic []])
def Ra:RE K J1 Ie:=by
 and_intros;cases hm;intro p hp;obtain⟨R0,x0⟩:=hR.new hp (o:=.dic []) (ho:=.dK []) ⟨[],rfl,by simp[RKs]⟩;refine hQ (ρ++[p]) _ _ x0 R0 ?_;simp only[RD];exact⟨p,by rw[<- hR.len];simp,rfl⟩
def SD(K:PySem.W.Frag){X:Cx}{pos:Pos}:QE K X (.Dict [] [] pos) J1 Ie:=⟨PK,Ra⟩
def KI{ls:Ls}{Q:D->Hd->Prop}(q:Q (.mu hd.length) (hd++[.dic []])):WE Ie ls hd Q:=⟨_,_,rfl,q⟩
end
mutual
def Jn{v w:Nat}(h:v<=w):∀{d:D},clD v d=true->clD w d=true
 |.im i,_=>by simp
 |.mu n,c=>by simp at c ⊢;omega
 |.tm ds,c=>by rw[clD]at c ⊢;exact FS h c
 |.ro ns,_=>by rw[clD]
def FS{v w:Nat}(h:v<=w):∀{ds:List D},Av v ds=true->Av w ds=true
 |[],_=>by simp
 |d::ds,c=>by
  simp only[Nv,Bool.and_eq_true]at c ⊢;exact⟨Jn h c.1,FS h c.2⟩
end
def IK{v w:Nat}(h:v<=w):∀{ds:List (Key×D)},EA v ds=true->EA w ds=true
 |[],_=>by simp[EA]
 |d::ds,c=>by
  simp only[EA,Bool.and_eq_true]at c ⊢;exact⟨Jn h c.1,IK h c.2⟩
def GM{v w:Nat}(h:v<=w){o:MO}(c:clO v o=true):clO w o=true:=by
 cases o with
 |lst ds=>exact FS h c
 |dic ds=>exact IK h c
section
variable{T:Nat->MO->MO->Prop}{P:List D->Hd->Option (D×Hd)}{a b:MO}{rest:Hd}{ls:Ls}{m:MA}{QE:D->Hd->Prop}
def Tap.callX(t:Tap T P){n c:Nat}(hT:T (n+c) a b)(ex:Hd){w:Nat}{F:List D->Hd->Option (D×Hd)}{as:List D}{hd:Hd}{R:I->Prop}(e:m ls hd=some (.mu 1::as,a::b::(ex++rest)))(hw:w=ex.length+2)(ha:Av w as=true)(hx:ex.all (clO w)=true)
 (hF:∀a b,T (n+c) a b->WF F (.mu 1::as) (a::b::ex) λd x=>∃i a' b' g,d=.im i/\R i/\T n a' b'/\x=a'::b'::(ex++g))
 (k:∀i a' b',T n a' b'->R i->QE (.im i) (a'::b'::(ex++rest))):WE (A6 w F m) ls hd QE:=by
 subst hw;have hcl:∀o,clO 2 o=true->clO (ex.length+2) o=true:=λo h=>GM (by omega) h;obtain⟨d,x,e2,i,a',b',g,rfl,hR,hT',rfl⟩:=hF a b hT;refine⟨_,_,Ev (w:=ex.length+2) (ds:=.mu 1::as) (pre:=a::b::ex) (pre':=a'::b'::ex) (rest:=rest) (g:=g) rfl rfl e (by simp[ha]) ?_ ?_ e2,k i a' b' hT' hR⟩
 .simp[hcl _ (t.cl hT).1,hcl _ (t.cl hT).2];simpa using hx
 .simp[hcl _ (t.cl hT').1,hcl _ (t.cl hT').2];simpa using hx
def Tap.call(t:Tap T P){n c:Nat}(hT:T (n+c) a b){F:List D->Hd->Option (D×Hd)}{as:List D}{hd:Hd}{R:I->Prop}(e:m ls hd=some (.mu 1::as,a::b::rest))(ha:Av 2 as=true)
 (hF:∀a b,T (n+c) a b->WF F (.mu 1::as) [a,b] λd x=>∃i a' b' g,d=.im i/\R i/\T n a' b'/\x=a'::b'::g)
 (k:∀i a' b',T n a' b'->R i->QE (.im i) (a'::b'::rest)):WE (A6 2 F m) ls hd QE:=
 t.callX hT [] (w:=2) e rfl ha rfl hF k
end
end L2
namespace Bd
open PySem L2
@[reducible] def Yn:MS:=(AX (Gn [((mC (.str "cells")),(AY (EL (FF (A1 0) AI (AN (mC (.int 63))))))),((mC (.str "next")),(mC (.int 0))),((mC (.str "left")),(mC (.int 0))),((mC (.str "turn")),(mC (.int 0)))]))
def F_tape:List D->Hd->Option (D×Hd):=mkF 1 1 Yn
@[reducible] def Yo:MS:=(A7 (Bn (A1 0) (mC (.str "turn")) (mOp AC (mOp B3 (A1 0) (mC (.str "turn"))) (mC (.int 1))))
 (A7 (B8 (AJ (mOp gGt (mOp B3 (A1 0) (mC (.str "left"))) (mC (.int 0))))
  (A7 (AG 2 (mOp BR (mOp B3 (A1 0) (mC (.str "left"))) (A1 1)))
 (A7 (Bn (A1 0) (mC (.str "left")) (mOp Dv (mOp B3 (A1 0) (mC (.str "left"))) (A1 1)))
 (AX (A1 2))))
  Au)
 (A7 (Gm 3 4 5 (A0 (mOp B3 (A1 0) (mC (.str "cells"))) (A0 (mOp B3 (A1 0) (mC (.str "next"))) (A0 (mOp B3 (A1 0) (mC (.str "turn"))) A4))))
 (A7 (AG 6 (mIf (AJ (Cd true (A1 3) (AV A4))) (mOp gIx (A1 3) (mOp BR (A1 4) (mCB (f1 true BH) (A0 (A1 3) A4)))) (mC (.int 23))))
 (A7 (Bn (A1 0) (mC (.str "next")) (mOp AC (A1 4) (mC (.int 1))))
 (A7 (B8 (Dg (AJ (mOp gGe (A1 6) (mOp GG (mC (.int 10)) (mC (.int 18))))) (AJ (mOp gLt (A1 4) (mCB (f1 true BH) (A0 (A1 3) A4)))))
  (A7 (Bn (A1 0) (mC (.str "left")) (mOp Dv (A1 6) (A1 1)))
 (AX (mOp BR (A1 6) (A1 1))))
  Au)
 (A7 (AG 7 (mOp BR (mOp AC (mOp AC (mOp BR (A1 6) (mC (.int 2147483587))) (mOp Cf (mC (.int 104729)) (A1 5))) (mC (.int 17))) (mC (.int 2147483629))))
 (A7 (AG 7 (mOp BR (mOp AC (mOp Cf (A1 7) (A1 7)) (mOp Cf (mC (.int 48271)) (A1 5))) (mC (.int 2147483647))))
 (A7 (AG 7 (mOp BR (mOp AC (mOp AC (mOp Cf (A1 7) (A1 7)) (mOp Cf (mC (.int 7919)) (A1 7))) (A1 5)) (mC (.int 2147483629))))
 (AX (mOp BR (mOp Dv (A1 7) (mC (.int 128))) (A1 1))))))))))))
def F_pick:List D->Hd->Option (D×Hd):=mkF 2 8 Yo
@[reducible] def Yj:MS:=(A7 (AG 2 (mIf (AJ (mOp gEq (A6 2 F_pick (A0 (A1 0) (A0 (mC (.int 4)) A4))) (mC (.int 0)))) (mOp Bp (A6 2 F_pick (A0 (A1 0) (A0 (mC (.int 500)) A4))) (mC (.int 99))) (mOp Bp (A6 2 F_pick (A0 (A1 0) (A0 (mC (.int 40)) A4))) (mC (.int 5)))))
 (A7 (AG 3 (A6 2 F_pick (A0 (A1 0) (A0 (mC (.int 10)) A4))))
 (A7 (B8 (AJ (mOp gLt (A1 1) (mC (.int 4))))
  (AX (B7 (AV (A0 (AS (A0 (mC (.str "late")) (A0 (A1 2) A4))) (A0 (AS (A0 (mC (.str "tardy")) (A0 (A1 2) (A0 (A1 3) A4)))) (A0 (AS (A0 (mC (.str "miss")) (A0 (A1 2) (A0 (A1 3) A4)))) (A0 (AS (A0 (mC (.str "ends")) (A0 (A1 3) A4))) A4))))) (A1 1)))
  Au)
 (A7 (Ej [4,5] (A0 (mCB Es (A0 (A1 2) (A0 (mC (.int 200)) A4))) (A0 (mC (.int 0)) A4)))
 (A7 (AG 6 (AY (AV A4)))
 (A7 (BG (Bl (A0 (mOp AC (mC (.int 1)) (A6 2 F_pick (A0 (A1 0) (A0 (mC (.int 5)) A4)))) A4)) (AU 7)
  (A7 (AG 4 (mOp AC (mOp AC (A1 4) (mC (.int 1))) (A6 2 F_pick (A0 (A1 0) (A0 (mC (.int 40)) A4)))))
 (A7 (AG 5 (mOp AC (A1 5) (A6 2 F_pick (A0 (A1 0) (A0 (mC (.int 20)) A4)))))
 (BM (mMt Aj (A1 6) (A0 (AS (A0 (A1 4) (A0 (A1 5) A4))) A4))))))
 (AX (AS (A0 (mC (.str "steps")) (A0 (mCB (f1 true BN) (A0 (A1 6) A4)) A4))))))))))
def HR:List D->Hd->Option (D×Hd):=mkF 2 8 Yj
@[reducible] def Ym:MS:=(A7 (AG 3 (mOp Cf (A6 2 F_pick (A0 (A1 0) (A0 (mC (.int 61)) A4))) (A6 2 F_pick (A0 (A1 0) (A0 (mC (.int 2)) A4)))))
 (A7 (AG 4 (B7 (AV (A0 (mC (.int 3)) (A0 (mC (.int 20)) A4))) (A6 2 F_pick (A0 (A1 0) (A0 (mC (.int 2)) A4)))))
 (A7 (AG 5 (AY (AV A4)))
 (A7 (BG (Bl (A0 (A1 1) A4)) (AU 6)
  (A7 (AG 7 (mIf (Br (A1 2)) (A1 3) (A6 2 F_pick (A0 (A1 0) (A0 (B7 (AV (A0 (mC (.int 8)) (A0 (mC (.int 61)) A4))) (A6 2 F_pick (A0 (A1 0) (A0 (mC (.int 2)) A4)))) A4)))))
 (BM (mMt Aj (A1 5) (A0 (AS (A0 (mOp AC (mC (.int 1)) (A6 2 F_pick (A0 (A1 0) (A0 (A1 4) A4)))) (A0 (A1 7) (A0 (A6 2 HR (A0 (A1 0) (A0 (A6 2 F_pick (A0 (A1 0) (A0 (mC (.int 5)) A4))) A4))) A4)))) A4)))))
 (AX (mCB (f1 true BN) (A0 (A1 5) A4)))))))
def F_works:List D->Hd->Option (D×Hd):=mkF 3 8 Ym
structure Tp where
 cells:List Int
 nx:Int
 lf:Int
 tn:Int
def Ao(t:Tp):List (Key×D):=[(.inr "cells",.mu 0),(.inr "next",.im (.int t.nx)),(.inr "left",.im (.int t.lf)),(.inr "turn",.im (.int t.tn))]
def tp(t:Tp):Hd:=[.lst (t.cells.map λi=>.im (.int i)),.dic (Ao t)]
@[simp] theorem Ma(t:Tp):(tp t).length=2:=rfl
@[simp] theorem Yh(t:Tp)(r:Hd):(tp t++r)[0]?=some (.lst (t.cells.map λi=>.im (.int i))):=rfl
@[simp] theorem Yg(t:Tp)(r:Hd):(tp t++r)[1]?=some (.dic (Ao t)):=rfl
@[simp] theorem tp0(t:Tp):(tp t)[0]?=some (.lst (t.cells.map λi=>.im (.int i))):=rfl
@[simp] theorem tp1(t:Tp):(tp t)[1]?=some (.dic (Ao t)):=rfl
@[simp] theorem YS(t t':Tp)(h:t'.cells=t.cells):(tp t).set 1 (.dic (Ao t'))=tp t':=by unfold tp;rw[h];rfl
section
variable(t:Tp)(v:Int)
@[simp] theorem XI:Ae (Ao t) (.inr "cells")=some (.mu 0):=by simp[Ae,Ao]
@[simp] theorem Xl:Ae (Ao t) (.inr "next")=some (.im (.int t.nx)):=by simp[Ae,Ao,ne1]
@[simp] theorem Xm:Ae (Ao t) (.inr "left")=some (.im (.int t.lf)):=by simp[Ae,Ao,ne2,ne4]
@[simp] theorem Xk:Ae (Ao t) (.inr "turn")=some (.im (.int t.tn)):=by simp[Ae,Ao,ne3,ne5,ne6]
@[simp] theorem XG:BP (Ao t) (.inr "next") (.im (.int v))=Ao { t with nx:=v }:=by simp[BP,Ao,ne1,XO,XN]
@[simp] theorem XH:BP (Ao t) (.inr "left") (.im (.int v))=Ao { t with lf:=v }:=by simp[BP,Ao,ne2,ne4,XM]
@[simp] theorem XF:BP (Ao t) (.inr "turn") (.im (.int v))=Ao { t with tn:=v }:=by simp[BP,Ao,ne3,ne5,ne6]
@[simp] theorem Y9:(Ao t).length=4:=rfl
end
def CH:∀ns:List Int,I.pys (ns.map I.int)=ns.map PyData.int
 |[]=>by simp[I.pys]
 |n::ns=>by simp[I.pys,I.py,CH ns]
def C5(ns:List Int):Ap (ns.map λi=>D.im (.int i))=some (ns.map I.int):=by
 have:(ns.map λi=>D.im (.int i))=(ns.map I.int).map D.im:=by rw[map_map];rfl
 rw[this];exact O4 _
def eqv_nil(ns:List Int):PyData.eqv (.list (ns.map PyData.int)) (.list [])=decide (ns=[]):=by
 cases ns<;>simp[PyData.eqv,PyData.eqvAll]
def lay_ints(ns:List Int):(PyData.list (ns.map PyData.int)).canLay0=true:=by simp[PyData.canLay0,Fr]
def Cr(ns:List Int)(hd:Hd)(neg:Bool):FO neg (.list (ns.map PyData.int)) (.list []) hd=some (.im (.bl (if neg then !decide (ns=[])else decide (ns=[]))),hd):=by
 unfold FO;rw[if_pos,eqv_nil];refine⟨lay_ints ns,by simp[PyData.canLay0,PyData.canLayAll0],?_⟩;have:(PyData.list []).depth<=1:=by simp[PyData.depth,PyData.depthAll]
 omega
def DD{x:Int}(m:Int)(h:0<m):0<=x%m/\x%m<m:=⟨Int.emod_nonneg _ (by omega),Int.emod_lt_of_pos _ h⟩
def Ei(cell turn:Int):Int:=(cell%2147483587+104729*turn+17)%2147483629
def HV(x turn:Int):Int:=(x*x+48271*turn)%2147483647
def VZ(x turn:Int):Int:=(x*x+7919*x+turn)%2147483629
def W2(hd:Hd)(neg:Bool):FO neg (.list []) (.list []) hd=some (.im (.bl (if neg then false else true)),hd):=by
 have:=Cr [] hd neg;simpa using this
def X6{xs:List Int}(h:xs≠[])(n:Int):∃c,atI (xs.map λi=>D.im (.int i)) (n%(xs.length:Int))=some (.im (.int c)):=by
 have hl:0<xs.length:=HY h;obtain⟨a,b⟩:=DD (x:=n) (xs.length:Int) (by omega);obtain⟨k,hk⟩:=Int.eq_ofNat_of_zero_le a;have hk':k<xs.length:=by omega
 exact⟨xs[k],D8 hk (by simp[hk'])⟩
def mk1(j:Int):Dt 104729 j:=DO (by decide) (by decide)
def mk2(j:Int):Dt 48271 j:=DO (by decide) (by decide)
def mk3(j:Int):Dt 7919 j:=DO (by decide) (by decide)
def mo1:Bm 2147483587:=by unfold Bm;decide
def mo2:Bm 2147483629:=by unfold Bm;decide
def mo3:Bm 2147483647:=by unfold Bm;decide
def di1:Ik 128:=by unfold Ik;decide
def po1:Ic 10 18:=by unfold Ic;decide
def SU(τ:Tp)(many:Int)(h0:0<many)(h1:many<1073741824):∃r τ',F_pick [.mu 1,.im (.int many)] (tp τ)=some (.im (.int r),tp τ')/\0<=r/\r<many/\τ'.cells=τ.cells:=by
 have hm:Bm many:=h0;have hv:Ik many:=⟨h0,h1⟩
 by_cases hl:τ.lf>0
 .refine⟨τ.lf%many,{ τ with tn:=τ.tn+1,lf:=τ.lf/many },?_,(DD many h0).1,(DD many h0).2,rfl⟩;simp[F_pick,mkF,hl,hm,hv]
 .have key:∀cell:Int,(if τ.cells=[]then cell=23 else atI (τ.cells.map λi=>D.im (.int i)) (τ.nx%(τ.cells.length:Int))=some (.im (.int cell))) ->
   ∃r τ',F_pick [.mu 1,.im (.int many)] (tp τ)=some (.im (.int r),tp τ')/\0<=r/\r<many/\τ'.cells=τ.cells:=by
   intro cell hcell;have b1:=DD (x:=cell%2147483587+104729*(τ.tn+1)+17) 2147483629 (by decide);have b2:=DD (x:=Ei cell (τ.tn+1)*Ei cell (τ.tn+1)+48271*(τ.tn+1)) 2147483647 (by decide);have c1:∀j,Dt (Ei cell (τ.tn+1)) j:=λj=>DO (by unfold Ei;omega) (by unfold Ei;omega);have c2:∀j,Dt (HV (Ei cell (τ.tn+1)) (τ.tn+1)) j:=λj=>DO (by unfold HV;omega) (by unfold HV;omega);by_cases hb:cell>=1000000000000000000/\τ.nx<(τ.cells.length:Int)
   .refine⟨cell%many,{ τ with tn:=τ.tn+1,nx:=τ.nx+1,lf:=cell/many },?_,(DD many h0).1,(DD many h0).2,rfl⟩;by_cases hc:τ.cells=[]
    .rw[if_pos hc]at hcell;subst hcell;omega
    .rw[if_neg hc]at hcell;have hl0:0<τ.cells.length:=HY hc;have hl0':Bm (τ.cells.length:Int):=by unfold Bm;omega
     simp[F_pick,mkF,hl,hm,hv,mk1,mk2,mk3,mo1,mo2,mo3,di1,po1,Cd,pyD,C5,CH,I.pys,Cr,hc,hcell,hl0',hb.1,hb.2,BH]
   .refine⟨VZ (HV (Ei cell (τ.tn+1)) (τ.tn+1)) (τ.tn+1)/128%many,{ τ with tn:=τ.tn+1,nx:=τ.nx+1 },?_,(DD many h0).1,(DD many h0).2,rfl⟩;have hb':1000000000000000000<=cell->¬ τ.nx<(τ.cells.length:Int):=λa b=>hb ⟨a,b⟩;unfold Ei at c1 c2;unfold HV at c2;unfold VZ HV Ei;by_cases hc:τ.cells=[]
    .rw[if_pos hc]at hcell;subst hcell;simp only[Int.reduceMod]at c1 c2;simp[F_pick,mkF,hl,hm,hv,mk1,mk2,mk3,mo1,mo2,mo3,di1,po1,Cd,pyD,C5,CH,I.pys,Cr,W2,hc,BH,c1,c2]
    .rw[if_neg hc]at hcell;have hl0:0<τ.cells.length:=HY hc;have hl0':Bm (τ.cells.length:Int):=by unfold Bm;omega
     by_cases hd:1000000000000000000<=cell
     .simp[F_pick,mkF,hl,hm,hv,mk1,mk2,mk3,mo1,mo2,mo3,di1,po1,Cd,pyD,C5,CH,I.pys,Cr,hc,hcell,hl0',BH,c1,c2,hd,hb' hd]
     .simp[F_pick,mkF,hl,hm,hv,mk1,mk2,mk3,mo1,mo2,mo3,di1,po1,Cd,pyD,C5,CH,I.pys,Cr,hc,hcell,hl0',BH,c1,c2,hd]
  by_cases hc:τ.cells=[]
  .exact key 23 (by rw[if_pos hc])
  .obtain⟨c,e⟩:=X6 hc τ.nx;exact key c (by rw[if_neg hc];exact e)
inductive Cost where
 |late (d:Int)|tardy (d w:Int)|miss (d w:Int)|ends (w:Int)|steps (rows:List (Int×Int))
def Bj(r:Int×Int):I:=.tup [.int r.1,.int r.2]
def Ch:Cost->I
 |.late d=>.tup [.str "late",.int d]
 |.tardy d w=>.tup [.str "tardy",.int d,.int w]
 |.miss d w=>.tup [.str "miss",.int d,.int w]
 |.ends w=>.tup [.str "ends",.int w]
 |.steps rows=>.tup [.str "steps",.tup (rows.map Bj)]
def KN(t:Int):List (Int×Int)->Int->Int
 |[],told=>told
 |(b,a)::r,told=>if t<b then told else KN t r a
def Cost.at:Cost->Int->Int
 |.late d,t=>t-d
 |.tardy d w,t=>if t-d<=0 then 0 else w*(t-d)
 |.miss d w,t=>if t-d<=0 then 0 else w
 |.ends w,t=>w*t
 |.steps rows,t=>KN t rows 0
def n1:¬ (("late":Str)="steps"):=by decide +kernel
def n2:¬ (("tardy":Str)="steps"):=by decide +kernel
def n7:¬ (("miss":Str)="ends"):=by decide +kernel
def n8:¬ (("tardy":Str)="late"):=by decide +kernel
def n10:¬ (("miss":Str)="tardy"):=by decide +kernel
@[simp high] theorem XE(t:Tp)(x:MO)(r:Hd):(tp t++(x::r))[2]?=some x:=rfl
@[simp high] theorem Td(t:Tp)(x y:MO)(r:Hd):(tp t++(x::y::r))[3]?=some y:=rfl
@[simp high] theorem Tc(t:Tp)(x y z:MO)(r:Hd):(tp t++(x::y::z::r))[4]?=some z:=rfl
@[simp high] theorem WN(t:Tp)(x y:MO)(r:Hd):(tp t++(x::r)).set 2 y=tp t++(y::r):=rfl
@[simp high] theorem WM(t:Tp)(x y z:MO)(r:Hd):(tp t++(x::y::r)).set 3 z=tp t++(x::z::r):=rfl
def IL(w:Nat)(ns:List Int):Av w (ns.map λi=>D.im (.int i))=true:=by induction ns<;>simp_all [Av,clD]
@[simp] theorem GU(t:Tp):(tp t).all (clO 2)=true:=by simp[tp,clO,IL,Ao,EA,clD]
structure Drawn(τ:Tp)(many:Int)(r:Int)(τ':Tp):Prop where
 lo:0<=r
 hi:r<many
 cl:τ'.cells=τ.cells
 eq:F_pick [.mu 1,.im (.int many)] (tp τ)=some (.im (.int r),tp τ')
def Drawn.gen{τ τ':Tp}{many r:Int}(h:Drawn τ many r τ'){ls:Ls}{hd rest:Hd}{m:MA}(e:m ls hd=some ([.mu 1,.im (.int many)],tp τ++rest)):A6 2 F_pick m ls hd=some (.im (.int r),tp τ'++rest):=
 Ev (w:=2) (ds:=[.mu 1,.im (.int many)]) (pre:=tp τ) (pre':=tp τ') (rest:=rest) (g:=[]) rfl rfl e (by simp) (GU _) (GU _) (by rw[append_nil];exact h.eq)
def Drawn.genN{τ τ':Tp}{many r:Int}(h:Drawn τ many r τ'){ls:Ls}{hd:Hd}{m:MA}(e:m ls hd=some ([.mu 1,.im (.int many)],tp τ)):A6 2 F_pick m ls hd=some (.im (.int r),tp τ'):=by
 have:=h.gen (rest:=[]) (e:=by rw[append_nil];exact e)
 rwa [append_nil]at this
def Drawn.c{τ τ':Tp}{many r:Int}(h:Drawn τ many r τ')(ls:Ls)(rest:Hd)(i:Nat)(hi:ls[i]?=some (some (.mu 1))):A6 2 F_pick (A0 (A1 i) (A0 (mC (.int many)) A4)) ls (tp τ++rest)=some (.im (.int r),tp τ'++rest):=h.gen (by simp[hi])
def Drawn.cN{τ τ':Tp}{many r:Int}(h:Drawn τ many r τ')(ls:Ls)(i:Nat)(hi:ls[i]?=some (some (.mu 1))):A6 2 F_pick (A0 (A1 i) (A0 (mC (.int many)) A4)) ls (tp τ)=some (.im (.int r),tp τ'):=h.genN (by simp[hi])
def Drawn.v{τ τ':Tp}{many r:Int}(h:Drawn τ many r τ')(ls:Ls)(rest:Hd)(i j:Nat)(hi:ls[i]?=some (some (.mu 1)))(hj:ls[j]?=some (some (.im (.int many)))):A6 2 F_pick (A0 (A1 i) (A0 (A1 j) A4)) ls (tp τ++rest)=some (.im (.int r),tp τ'++rest):=h.gen (by simp[hi,hj])
def draw(τ:Tp)(many:Int)(h0:0<many)(h1:many<1073741824):∃r τ',Drawn τ many r τ':=by
 obtain⟨r,τ',e,a,b,c⟩:=SU τ many h0 h1;exact⟨r,τ',a,b,c,e⟩
def RowsOk(lo bot:Int):List (Int×Int)->Prop
 |[]=>True
 |(b,a)::r=>lo<b/\b<=lo+40/\bot<=a/\a<=bot+19/\RowsOk b a r
def Cost.ok:Cost->Prop
 |.late d=>-99<=d/\d<=400
 |.tardy d w=>(-99<=d/\d<=400)/\0<=w/\w<=9
 |.miss d w=>(-99<=d/\d<=400)/\0<=w/\w<=9
 |.ends w=>0<=w/\w<=9
 |.steps rows=>rows≠[]/\rows.length<=5/\∃lo,-99<=lo/\lo<=200/\RowsOk lo 0 rows
def RowsOk.snoc:∀{rows:List (Int×Int)} {lo bot b a:Int},RowsOk lo bot rows->(rows.getLastD (lo,bot)).1<b->b<=(rows.getLastD (lo,bot)).1+40->(rows.getLastD (lo,bot)).2<=a->a<=(rows.getLastD (lo,bot)).2+19->RowsOk lo bot (rows++[(b,a)])
 |[],lo,bot,b,a,h,h1,h2,h3,h4=>⟨h1,h2,h3,h4,trivial⟩
 |(x,y)::r,lo,bot,b,a,⟨p1,p2,p3,p4,p5⟩,h1,h2,h3,h4=>by
   have e:((x,y)::r).getLastD (lo,bot)=r.getLastD (x,y):=by cases r<;>rfl
   rw[e]at h1 h2 h3 h4;exact⟨p1,p2,p3,p4,RowsOk.snoc p5 h1 h2 h3 h4⟩
abbrev Pj:MS:=(A7 (AG 4 (mOp AC (mOp AC (A1 4) (mC (.int 1))) (A6 2 F_pick (A0 (A1 0) (A0 (mC (.int 40)) A4)))))
 (A7 (AG 5 (mOp AC (A1 5) (A6 2 F_pick (A0 (A1 0) (A0 (mC (.int 20)) A4)))))
 (BM (mMt Aj (A1 6) (A0 (AS (A0 (A1 4) (A0 (A1 5) A4))) A4)))))
def IJ(w way due wt:D)(lo:Int):∀(k:Nat) (τ:Tp) (rows:List (Int×Int)) (z:Option D) (ds:List D),ds.length=k->rows.length+k<=5->RowsOk lo 0 rows->∃τ' rows' s t z',B1 (AU 7) Pj [] ds
 [some (.mu 1),some way,some due,some wt,some (.im (.int (rows.getLastD (lo,0)).1)),some (.im (.int (rows.getLastD (lo,0)).2)),some (.mu 2),z] (tp τ++[.lst ((rows.map Bj).map .im)]) =
 some (.nx [some (.mu 1),some way,some due,some wt,s,t,some (.mu 2),z'],tp τ'++[.lst ((rows'.map Bj).map .im)])/\rows'.length=rows.length+k/\RowsOk lo 0 rows'/\τ'.cells=τ.cells
 |0,τ,rows,z,ds,hk,hr,hR=>by
  have:ds=[]:=length_eq_zero_iff.mp hk;subst this;exact⟨τ,rows,_,_,z,Dh,rfl,hR,rfl⟩
 |k+1,τ,rows,z,[],hk,hr,hR=>by simp at hk
 |k+1,τ,rows,z,d::ds,hk,hr,hR=>by
  obtain⟨r1,τ1,d1⟩:=draw τ 40 (by decide) (by decide);obtain⟨r2,τ2,d2⟩:=draw τ1 20 (by decide) (by decide);have a1:=d1.lo;have b1:=d1.hi;have c1:=d1.cl;have a2:=d2.lo;have b2:=d2.hi;have c2:=d2.cl;have e1:=d1.c;have e2:=d2.c;have hl:CD rows.length:=Bu (by omega);have lst:(rows++[((rows.getLastD (lo,0)).1+1+r1,(rows.getLastD (lo,0)).2+r2)]).getLastD (lo,0)=((rows.getLastD (lo,0)).1+1+r1,(rows.getLastD (lo,0)).2+r2):=by simp
  obtain⟨τ',rows',s,t,z',e,l,R,c⟩:=IJ w way due wt lo k τ2 (rows++[((rows.getLastD (lo,0)).1+1+r1,(rows.getLastD (lo,0)).2+r2)]) (some d) ds (by simpa using hk) (by simp;omega) (hR.snoc (by omega) (by omega) (by omega) (by omega));refine⟨τ',rows',s,t,z',?_,by rw[l];simp;omega,R,by rw[c,c2,c1]⟩;rw[<- e,lst];refine CT (ls1:=[some (.mu 1),some way,some due,some wt,some (.im (.int (rows.getLastD (lo,0)).1)),some (.im (.int (rows.getLastD (lo,0)).2)),some (.mu 2),some d]) rfl ?_ (Aa _);have q:(tp τ2++[MO.lst ((rows.map Bj).map D.im)])[2]?=some (.lst ((rows.map Bj).map D.im)):=rfl;have q2:∀x,(tp τ2++[MO.lst ((rows.map Bj).map D.im)]).set 2 x=tp τ2++[x]:=λ_=>rfl;simp[e1,e2,hl,Bj]
def Nu(τ:Tp)(way:Int)(h0:0<=way)(h4:way<5):∃c τ' g,HR [.mu 1,.im (.int way)] (tp τ)=some (.im (Ch c),tp τ'++g)/\c.ok/\τ'.cells=τ.cells:=by
 obtain⟨r1,τ1,d1'⟩:=draw τ 4 (by decide) (by decide);have a1:=d1'.lo;have b1:=d1'.hi;have c1:=d1'.cl;have e1:=d1'.cN;have key:∀(due:Int) (τ2:Tp),-99<=due->due<=400->τ2.cells=τ.cells ->
  (∀(ls:Ls),ls[0]?=some (some (.mu 1))->mIf (AJ (mOp gEq (A6 2 F_pick (A0 (A1 0) (A0 (mC (.int 4)) A4))) (mC (.int 0)))) (mOp Bp (A6 2 F_pick (A0 (A1 0) (A0 (mC (.int 500)) A4))) (mC (.int 99))) (mOp Bp (A6 2 F_pick (A0 (A1 0) (A0 (mC (.int 40)) A4))) (mC (.int 5))) ls (tp τ)=some (.im (.int due),tp τ2)) ->
  ∃c τ' g,HR [.mu 1,.im (.int way)] (tp τ)=some (.im (Ch c),tp τ'++g)/\c.ok/\τ'.cells=τ.cells:=by
  intro due τ2 d1 d2 hc hE;obtain⟨r3,τ3,d3'⟩:=draw τ2 10 (by decide) (by decide);have a3:=d3'.lo;have b3:=d3'.hi;have c3:=d3'.cl;have e3:=d3'.cN;have hE:=hE [some (.mu 1),some (.im (.int way)),none,none,none,none,none,none] rfl;have cases4:way=0∨way=1∨way=2∨way=3∨way=4:=by omega
  have e0:∀(x y z u:D),atI [x,y,z,u] 3=some u:=λx y z u=>EV (j:=3) rfl;rcases cases4 with rfl|rfl|rfl|rfl|rfl
  .refine⟨.late due,τ3,[],?_,⟨d1,d2⟩,by rw[c3,hc]⟩;simp only[HR,mkF,Yj,D3,D4,map_cons,map_nil,length_cons,length_nil,cons_append,nil_append,List.replicate,Nat.reduceAdd,Nat.reduceSub,if_true]at hE ⊢;rw[hE];simp[e3,Ch]
  .refine⟨.tardy due r3,τ3,[],?_,⟨⟨d1,d2⟩,by omega,by omega⟩,by rw[c3,hc]⟩;simp only[HR,mkF,Yj,D3,D4,map_cons,map_nil,length_cons,length_nil,cons_append,nil_append,List.replicate,Nat.reduceAdd,Nat.reduceSub,if_true]at hE ⊢;rw[hE];simp[e3,Ch]
  .refine⟨.miss due r3,τ3,[],?_,⟨⟨d1,d2⟩,by omega,by omega⟩,by rw[c3,hc]⟩;simp only[HR,mkF,Yj,D3,D4,map_cons,map_nil,length_cons,length_nil,cons_append,nil_append,List.replicate,Nat.reduceAdd,Nat.reduceSub,if_true]at hE ⊢;rw[hE];simp[e3,Ch]
  .refine⟨.ends r3,τ3,[],?_,⟨by omega,by omega⟩,by rw[c3,hc]⟩;simp only[HR,mkF,Yj,D3,D4,map_cons,map_nil,length_cons,length_nil,cons_append,nil_append,List.replicate,Nat.reduceAdd,Nat.reduceSub,if_true]at hE ⊢;rw[hE];simp[e3,Ch,e0]
  .obtain⟨r4,τ4,d4'⟩:=draw τ3 5 (by decide) (by decide);have a4:=d4'.lo;have b4:=d4'.hi;have c4:=d4'.cl;have e4:=d4'.c;obtain⟨τ',rows',s,t,z',e,l,R,c⟩:=IJ (.im .non) (.im (.int 4)) (.im (.int due)) (.im (.int r3)) (if 200<due then 200 else due) (1+r4).toNat τ4 [] none (AQ 0 (1+r4).toNat) (DC _ _) (by simp;omega) trivial;refine⟨.steps rows',τ',[.lst ((rows'.map Bj).map .im)],?_,⟨?_,by simp at l;omega,_,?_,?_,R⟩,by rw[c,c4,c3,hc]⟩
   .simp only[HR,mkF,Yj,D3,D4,map_cons,map_nil,length_cons,length_nil,cons_append,nil_append,List.replicate,Nat.reduceAdd,Nat.reduceSub,if_true]at hE ⊢;rw[hE];have q:(tp τ'++[MO.lst ((rows'.map Bj).map D.im)])[2]?=some (.lst ((rows'.map Bj).map D.im)):=rfl;have bd:DW (1+r4):=CP (by omega) (by omega);have nil0:tp τ3++[MO.lst ([]:List D)]=tp τ3++[.lst ((([]:List (Int×Int)).map Bj).map .im)]:=rfl;have e':=e;simp only[List.getLastD_nil,map_nil]at e';have e'':(D.im ∘ Bj)=λr=>D.im (Bj r):=rfl;simp only[map_map]at e';have tt:AD (List.map (D.im ∘ Bj) rows')=.im (.tup (rows'.map Bj)):=by rw[<- map_map];exact CJ _
    simp[e3,e4,bd,e',BN,Ch,tt]
   .intro z;rw[z]at l;simp at l;omega
   .split<;>omega
   .split<;>omega
 by_cases h:r1=0
 .obtain⟨r2,τ2,d2'⟩:=draw τ1 500 (by decide) (by decide);have a2:=d2'.lo;have b2:=d2'.hi;have c2:=d2'.cl;have e2:=d2'.cN;exact key (r2-99) τ2 (by omega) (by omega) (by rw[c2,c1]) λls hls=>by simp[e1,e2,hls,h]
 .obtain⟨r2,τ2,d2'⟩:=draw τ1 40 (by decide) (by decide);have a2:=d2'.lo;have b2:=d2'.hi;have c2:=d2'.cl;have e2:=d2'.cN;exact key (r2-5) τ2 (by omega) (by omega) (by rw[c2,c1]) λls hls=>by simp[e1,e2,hls,h]
structure Wk where
 len:Int
 com:Int
 cost:Cost
def Bz(w:Wk):I:=.tup [.int w.len,.int w.com,Ch w.cost]
structure Wk.ok(w:Wk):Prop where
 l1:1<=w.len
 l2:w.len<=20
 c1:0<=w.com
 c2:w.com<=60
 co:w.cost.ok
abbrev Be(ws:List Wk):I:=.tup (ws.map Bz)
structure DrawnI(F:List D->Hd->Option (D×Hd))(τ:Tp)(as:List D)(i:I)(τ':Tp):Prop where
 cl:τ'.cells=τ.cells
 eq:∃g,F (.mu 1::as) (tp τ)=some (.im i,tp τ'++g)
def DrawnI.gen{F:List D->Hd->Option (D×Hd)}{τ τ':Tp}{as:List D}{i:I}(h:DrawnI F τ as i τ'){ls:Ls}{hd rest:Hd}{m:MA}(e:m ls hd=some (.mu 1::as,tp τ++rest))(ha:Av 2 as=true):A6 2 F m ls hd=some (.im i,tp τ'++rest):=by
 obtain⟨g,q⟩:=h.eq;exact Ev (w:=2) (ds:=.mu 1::as) (pre:=tp τ) (pre':=tp τ') (rest:=rest) (g:=g) rfl rfl e (by simp[ha]) (GU _) (GU _) q
def Pd(τ:Tp)(way:Int)(h0:0<=way)(h4:way<5):∃c τ',c.ok/\DrawnI HR τ [.im (.int way)] (Ch c) τ':=by
 obtain⟨c,τ',g,e,a,b⟩:=Nu τ way h0 h4;exact⟨c,τ',a,b,g,e⟩
abbrev Hu:MS:=(A7 (AG 7 (mIf (Br (A1 2)) (A1 3) (A6 2 F_pick (A0 (A1 0) (A0 (B7 (AV (A0 (mC (.int 8)) (A0 (mC (.int 61)) A4))) (A6 2 F_pick (A0 (A1 0) (A0 (mC (.int 2)) A4)))) A4)))))
 (BM (mMt Aj (A1 5) (A0 (AS (A0 (mOp AC (mC (.int 1)) (A6 2 F_pick (A0 (A1 0) (A0 (A1 4) A4)))) (A0 (A1 7) (A0 (A6 2 HR (A0 (A1 0) (A0 (A6 2 F_pick (A0 (A1 0) (A0 (mC (.int 5)) A4))) A4))) A4)))) A4))))
def K7(alike:Bool)(begin_:Int)(hb:0<=begin_/\begin_<=60)(τ:Tp):∃com τ',(0<=com/\com<=60)/\(alike=true->com=begin_)/\τ'.cells=τ.cells/\∀(ls:Ls) (rest:Hd),ls[0]?=some (some (.mu 1))->ls[2]?=some (some (.im (.bl alike)))->ls[3]?=some (some (.im (.int begin_))) ->
 mIf (Br (A1 2)) (A1 3) (A6 2 F_pick (A0 (A1 0) (A0 (B7 (AV (A0 (mC (.int 8)) (A0 (mC (.int 61)) A4))) (A6 2 F_pick (A0 (A1 0) (A0 (mC (.int 2)) A4)))) A4))) ls (tp τ++rest)=some (.im (.int com),tp τ'++rest):=by
 cases alike with
 |true=>exact⟨begin_,τ,hb,λ_=>rfl,rfl,λls rest h0 h2 h3=>by simp[h2,h3,CU]⟩
 |false=>
  obtain⟨r1,τ1,d1⟩:=draw τ 2 (by decide) (by decide);have e1:=d1.c;have a1:=d1.lo;have b1:=d1.hi;have hx:∃x:Int,(x=8∨x=61)/\atI [D.im (.int 8),D.im (.int 61)] r1=some (.im (.int x)):=by
   have:r1=0∨r1=1:=by omega
   rcases this with rfl|rfl
   .exact⟨8,.inl rfl,MF _ _⟩
   .exact⟨61,.inr rfl,MD _ _ _⟩
  obtain⟨x,hx1,hx2⟩:=hx;obtain⟨r2,τ2,d2⟩:=draw τ1 x (by omega) (by omega);have a2:=d2.lo;have b2:=d2.hi;refine⟨r2,τ2,by omega,(λh=>by cases h),by rw[d2.cl,d1.cl],λls rest h0 h2 h3=>?_⟩;simp only[X1,Nb,Dk,h2,bind_some,CU,map_some,Bool.false_eq_true,if_false];exact d2.gen (by simp[h0,e1,hx2])
def GS(alike:Bool)(begin_ wide:Int)(many:D)(hb:0<=begin_/\begin_<=60)(hw:0<wide/\wide<=20):∀(k:Nat) (τ:Tp) (ws:List Wk) (z z2:Option D) (ds:List D),ds.length=k->ws.length+k<=1000->(∀w∈ws,w.ok/\(alike=true->w.com=begin_))->∃(τ':Tp) (ws':List Wk) (z' z2':Option D),B1 (AU 6) Hu [] ds
 [some (.mu 1),some many,some (.im (.bl alike)),some (.im (.int begin_)),some (.im (.int wide)),some (.mu 2),z,z2] (tp τ++[.lst (ws.map λw=>.im (Bz w))]) =
 some (.nx [some (.mu 1),some many,some (.im (.bl alike)),some (.im (.int begin_)),some (.im (.int wide)),some (.mu 2),z',z2'],tp τ'++[.lst (ws'.map λw=>.im (Bz w))])/\ws'.length=ws.length+k/\(∀w∈ws',w.ok/\(alike=true->w.com=begin_))/\τ'.cells=τ.cells
 |0,τ,ws,z,z2,ds,hk,hr,hR=>by
  have:ds=[]:=length_eq_zero_iff.mp hk;subst this;exact⟨τ,ws,z,z2,Dh,rfl,hR,rfl⟩
 |k+1,τ,ws,z,z2,[],hk,hr,hR=>by simp at hk
 |k+1,τ,ws,z,z2,d::ds,hk,hr,hR=>by
  obtain⟨com,τ1,hc,hal,c1,e1⟩:=K7 alike begin_ hb τ;obtain⟨r2,τ2,d2⟩:=draw τ1 wide hw.1 (by omega);have e2:=d2.v;have a2:=d2.lo;have b2:=d2.hi;obtain⟨r3,τ3,d3⟩:=draw τ2 5 (by decide) (by decide);have e3:=d3.c;obtain⟨co,τ4,hco,d4⟩:=Pd τ3 r3 d3.lo d3.hi;have hl:CD ws.length:=Bu (by omega);obtain⟨τ',ws',z',z2',e,l,R,c⟩:=GS alike begin_ wide many hb hw k τ4 (ws++[⟨1+r2,com,co⟩]) (some d) (some (.im (.int com))) ds (by simpa using hk) (by simp;omega) (by
   intro w hw';rcases mem_append.mp hw' with h|h
   .exact hR w h
   .simp at h;subst h;exact⟨⟨by simp;omega,by simp;omega,hc.1,hc.2,hco⟩,hal⟩)
  refine⟨τ',ws',z',z2',?_,by rw[l];simp;omega,R,by rw[c,d4.cl,d3.cl,d2.cl,c1]⟩;rw[<- e];refine CT (ls1:=[some (.mu 1),some many,some (.im (.bl alike)),some (.im (.int begin_)),some (.im (.int wide)),some (.mu 2),some d,z2]) rfl ?_ (Aa _);have f1:=e1 [some (.mu 1),some many,some (.im (.bl alike)),some (.im (.int begin_)),some (.im (.int wide)),some (.mu 2),some d,z2] [.lst (ws.map λw=>.im (Bz w))] rfl rfl rfl;have f4:=d4.gen (ls:=[some (.mu 1),some many,some (.im (.bl alike)),some (.im (.int begin_)),some (.im (.int wide)),some (.mu 2),some d,some (.im (.int com))]) (hd:=tp τ2++[.lst (ws.map λw=>.im (Bz w))]) (rest:=[.lst (ws.map λw=>.im (Bz w))]) (m:=A0 (A1 0) (A0 (A6 2 F_pick (A0 (A1 0) (A0 (mC (.int 5)) A4))) A4)) (by simp[e3]) (by simp);simp only[Hu,D3,D4,f1,bind_some,Fi,map_some];simp[e2,f4,hl];simp[Bz]
def L8(τ:Tp)(many:Int)(alike:Bool)(h0:0<=many)(h8:many<=100):∃(ws:List Wk) (τ':Tp),(ws.length=many.toNat/\(∀w∈ws,w.ok)/\(alike=true->∃b,∀w∈ws,w.com=b))/\DrawnI F_works τ [.im (.int many),.im (.bl alike)] (Be ws) τ':=by
 obtain⟨r1,τ1,d1⟩:=draw τ 61 (by decide) (by decide);obtain⟨r2,τ2,d2⟩:=draw τ1 2 (by decide) (by decide);obtain⟨r3,τ3,d3⟩:=draw τ2 2 (by decide) (by decide);have e1:=d1.cN;have e2:=d2.cN;have e3:=d3.cN;have a1:=d1.lo;have b1:=d1.hi;have a2:=d2.lo;have b2:=d2.hi;have a3:=d3.lo;have b3:=d3.hi;have hx:∃x:Int,(x=3∨x=20)/\atI [D.im (.int 3),D.im (.int 20)] r3=some (.im (.int x)):=by
  have:r3=0∨r3=1:=by omega
  rcases this with rfl|rfl
  .exact⟨3,.inl rfl,MF _ _⟩
  .exact⟨20,.inr rfl,MD _ _ _⟩
 obtain⟨x,hx1,hx2⟩:=hx;have hb:0<=r1*r2/\r1*r2<=60:=by
  have:r2=0∨r2=1:=by omega
  rcases this with rfl|rfl<;>omega
 obtain⟨τ',ws',z',z2',e,l,R,c⟩:=GS alike (r1*r2) x (.im (.int many)) hb (by omega) many.toNat τ3 [] none none (AQ 0 many.toNat) (DC _ _) (by simp;omega) (by simp);refine⟨ws',τ',⟨by simpa using l,λw hw=>(R w hw).1,λha=>⟨r1*r2,λw hw=>(R w hw).2 ha⟩⟩,by rw[c,d3.cl,d2.cl,d1.cl],[.lst (ws'.map λw=>.im (Bz w))],?_⟩;have bm:∀j,Dt r1 j:=λj=>DO (by omega) (by omega);have bd:DW many:=CP (by omega) (by omega);have tt:AD (ws'.map λw=>D.im (Bz w))=.im (Be ws'):=by
  have:(ws'.map λw=>D.im (Bz w))=(ws'.map Bz).map D.im:=by rw[map_map];rfl
  rw[this];exact CJ _
 simp only[map_nil]at e;simp[F_works,mkF,e1,e2,e3,bm,hx2,bd,e,BN,tt]
abbrev BS(ks:List Nat):I:=.tup (ks.map λk:Nat=>.int k)
end Bd
namespace L2
open PySem PySem.Spec PyProof.Rows
structure OkP(w dp:Nat)(d:PyData):Prop where
 sh:d.showable=true
 lay:d.canLay0=true
 it:d.intsShort 13=true
 dp:d.depth<=dp
 wt:d.weight<=w
structure OkPs(w dp n:Nat)(ds:List PyData):Prop where
 sh:PyData.showableAll ds=true
 lay:PyData.canLayAll0 ds=true
 it:PyData.intsShortAll 13 ds=true
 dp:PyData.depthAll ds<=dp
 wt:PyData.weightAll ds<=n*(w+1)
def sm(i:Int):Prop:=-1000000000<=i/\i<=1000000000
def OkP.int{i:Int}(h:sm i):OkP 40 0 (.int i):=by
 have h1:i.natAbs<10^10:=by obtain⟨a,b⟩:=h;omega
 have h0:i.natAbs<2^38:=by obtain⟨a,b⟩:=h;omega
 have lg:i.natAbs.log2<38:=by
  by_cases z:i.natAbs=0
  .rw[z];decide
  .exact(log2_lt z).mpr h0
 refine⟨?_,by simp[PyData.canLay0],?_,by simp[PyData.depth],?_⟩
 .simp only[PyData.showable];exact decide_eq_true (by omega)
 .simp only[PyData.intsShort,PyData.shown];refine decide_eq_true ?_;have h2:=int_text_length_le10 (a:=i) (k:=10) (by decide) h1;rw[PySem.ofString_length];omega
 .simp only[PyData.weight];split<;>omega
def OkP.mono{w w' dp dp':Nat}{d:PyData}(h:OkP w dp d)(a:w<=w')(b:dp<=dp'):OkP w' dp' d:=⟨h.sh,h.lay,h.it,le_trans h.dp b,le_trans h.wt a⟩
def OkPs.nil{w dp:Nat}:OkPs w dp 0 []:=⟨by simp[PyData.showableAll],by simp[PyData.canLayAll0],by simp[PyData.intsShortAll],by simp[PyData.depthAll],by simp[PyData.weightAll]⟩
def OkPs.cons{w dp n:Nat}{d:PyData}{ds:List PyData}(h:OkP w dp d)(t:OkPs w dp n ds):OkPs w dp (n+1) (d::ds):=by
 refine⟨by simp[PyData.showableAll,h.sh,t.sh],by simp[PyData.canLayAll0,h.lay,t.lay],by simp[PyData.intsShortAll,h.it,t.it],?_,?_⟩
 .simp only[PyData.depthAll];exact Nat.max_le.mpr ⟨h.dp,t.dp⟩
 .simp only[PyData.weightAll];have:=h.wt;have:=t.wt;rw[Nat.add_mul];omega
def OkPs.tup{w dp n:Nat}{ds:List PyData}(t:OkPs w dp n ds):OkP (n*(w+1)) (dp+1) (.tuple ds):=by
 refine⟨?_,?_,?_,?_,?_⟩
 .rw[PyData.showable];exact t.sh
 .rw[PyData.canLay0];exact t.lay
 .rw[PyData.intsShort];exact t.it
 .rw[PyData.depth];have:=t.dp;omega
 .rw[PyData.weight];exact t.wt
def NI{w dp:Nat}:∀{is:List I},(∀i∈is,OkP w dp i.py)->OkPs w dp is.length (I.pys is)
 |[],_=>by simp only[I.pys];exact OkPs.nil
 |i::is,h=>by simp only[I.pys,length_cons];exact(NI λj hj=>h j (mem_cons_of_mem _ hj)).cons (h i mem_cons_self)
def BW{w dp:Nat}{is:List I}(h:∀i∈is,OkP w dp i.py):OkP (is.length*(w+1)) (dp+1) (I.py (.tup is)):=by
 rw[I.py];exact(NI h).tup
def Co{i:Int}(h:sm i):OkP 40 0 (I.py (.int i)):=by rw[I.py];exact .int h
end L2
namespace Bd
open PySem L2
def Sl(x:Str)(h:x="late"∨x="tardy"∨x="miss"∨x="ends"∨x="steps"):OkP 40 0 (I.py (.str x)):=by
 rw[I.py];rcases h with rfl|rfl|rfl|rfl|rfl<;>exact⟨by decide +kernel,by decide +kernel,by decide +kernel,by decide +kernel,by decide +kernel⟩
def KR:∀{rows:List (Int×Int)} {lo bot:Int},RowsOk lo bot rows->rows.length<=5->-99<=lo->0<=bot->lo<=200+40*(5-rows.length)->bot<=19*(5-rows.length)->∀r∈rows,sm r.1/\sm r.2
 |[],_,_,_,_,_,_,_,_=>λr h=>by cases h
 |(b,a)::rows,lo,bot,⟨h1,h2,h3,h4,h5⟩,hl,p1,p2,p3,p4=>λr h=>by
   simp only[length_cons]at hl p3 p4;rcases mem_cons.mp h with rfl|h
   .exact⟨⟨by show -1000000000<=b;omega,by show b<=1000000000;omega⟩,⟨by show -1000000000<=a;omega,by show a<=1000000000;omega⟩⟩
   .exact KR h5 (by omega) (by omega) (by omega) (by omega) (by omega) r h
def So{c:Cost}(h:c.ok):OkP 1000 3 (I.py (Ch c)):=by
 have i1:∀{i:Int},sm i->OkP 40 2 (I.py (.int i)):=λh=>(Co h).mono (by omega) (by omega);have s1:∀{x:Str},(x="late"∨x="tardy"∨x="miss"∨x="ends"∨x="steps")->OkP 40 2 (I.py (.str x)):=λh=>(Sl _ h).mono (by omega) (by omega);cases c with
 |late d=>
  refine(BW (w:=40) (dp:=2) (is:=[.str "late",.int d]) λi hi=>?_).mono (by simp) (by omega);simp at hi;rcases hi with rfl|rfl
  .exact s1 (by simp)
  .exact i1 ⟨by have:=h.1;omega,by have:=h.2;omega⟩
 |tardy d w=>
  refine(BW (w:=40) (dp:=2) (is:=[.str "tardy",.int d,.int w]) λi hi=>?_).mono (by simp) (by omega);obtain⟨⟨h1,h2⟩,h3,h4⟩:=h;simp at hi;rcases hi with rfl|rfl|rfl
  .exact s1 (by simp)
  .exact i1 ⟨by omega,by omega⟩
  .exact i1 ⟨by omega,by omega⟩
 |miss d w=>
  refine(BW (w:=40) (dp:=2) (is:=[.str "miss",.int d,.int w]) λi hi=>?_).mono (by simp) (by omega);obtain⟨⟨h1,h2⟩,h3,h4⟩:=h;simp at hi;rcases hi with rfl|rfl|rfl
  .exact s1 (by simp)
  .exact i1 ⟨by omega,by omega⟩
  .exact i1 ⟨by omega,by omega⟩
 |ends w=>
  refine(BW (w:=40) (dp:=2) (is:=[.str "ends",.int w]) λi hi=>?_).mono (by simp) (by omega);obtain⟨h3,h4⟩:=h;simp at hi;rcases hi with rfl|rfl
  .exact s1 (by simp)
  .exact i1 ⟨by omega,by omega⟩
 |steps rows=>
  obtain⟨h1,h2,lo,h3,h4,h5⟩:=h;have hr:=KR h5 h2 h3 (by omega) (by omega) (by omega);have hrow:OkP 420 2 (I.py (.tup (rows.map Bj))):=by
   refine(BW (w:=82) (dp:=1) (is:=rows.map Bj) λi hi=>?_).mono (by simp;omega) (by omega);obtain⟨r,hr1,rfl⟩:=mem_map.mp hi;refine(BW (w:=40) (dp:=0) (is:=[.int r.1,.int r.2]) λj hj=>?_).mono (by simp) (by omega);simp at hj;rcases hj with rfl|rfl
   .exact Co (hr r hr1).1
   .exact Co (hr r hr1).2
  refine(BW (w:=420) (dp:=2) (is:=[.str "steps",.tup (rows.map Bj)]) λi hi=>?_).mono (by simp) (by omega);simp at hi;rcases hi with rfl|rfl
  .exact(s1 (by simp)).mono (by omega) (by omega)
  .exact hrow
def Sk{w:Wk}(h:w.ok):OkP 3003 4 (I.py (Bz w)):=by
 refine(BW (w:=1000) (dp:=3) (is:=[.int w.len,.int w.com,Ch w.cost]) λi hi=>?_).mono (by simp) (by omega);have:=h.l1;have:=h.l2;have:=h.c1;have:=h.c2;simp at hi;rcases hi with rfl|rfl|rfl
 .exact(Co ⟨by omega,by omega⟩).mono (by omega) (by omega)
 .exact(Co ⟨by omega,by omega⟩).mono (by omega) (by omega)
 .exact So h.co
def PM{ws:List Wk}(h:∀w∈ws,w.ok)(hl:ws.length<=20):OkP 60080 5 (I.py (Be ws)):=by
 refine(BW (w:=3003) (dp:=4) (is:=ws.map Bz) λi hi=>?_).mono (by simp;omega) (by omega);obtain⟨w,h1,rfl⟩:=mem_map.mp hi;exact Sk (h w h1)
def Pf(ns:List Int)(lo hi:Option Int):∃cs:List Int,BI (ns.map λn=>.im (.int n)) lo hi=cs.map λn=>.im (.int n):=⟨(ns.drop _).take _,by unfold BI;rw[List.map_take,List.map_drop]⟩
def Qg(ns:List Int):∃τ,F_tape [.ro ns] []=some (.mu 1,tp τ):=by
 obtain⟨cs,e⟩:=Pf ns none (some 63);refine⟨⟨cs,0,0,0⟩,?_⟩;simp[F_tape,mkF,e,EK,BP,ne1,ne2,ne3,ne4,ne5,ne6,tp,Ao]
abbrev G5:MS:=(BM (mMt Aj (A1 3) (A0 (mMt EN (A1 2) (A0 (A6 2 F_pick (A0 (A1 0) (A0 (mCB (f1 true BH) (A0 (A1 2) A4)) A4))) A4)) A4)))
abbrev DR:MS:=(B8 (AJ (mOp gEq (A6 2 F_pick (A0 (A1 0) (A0 (A1 5) A4))) (mC (.int 0))))
 (BM (mMt Aj (A1 6) (A0 (AS (A0 (mOp gIx (A1 3) (A1 7)) (A0 (mOp gIx (A1 3) (A1 8)) A4))) A4)))
 Au)
@[reducible] def Yk:MS:=(A7 (AG 2 (AY (Dd (A0 (A1 1) A4))))
 (A7 (AG 3 (AY (AV A4)))
 (A7 (BG (Bl (A0 (A1 1) A4)) (AU 4) G5)
 (A7 (AG 5 (B7 (AV (A0 (mC (.int 2)) (A0 (mC (.int 3)) (A0 (mC (.int 6)) A4)))) (A6 2 F_pick (A0 (A1 0) (A0 (mC (.int 3)) A4)))))
 (A7 (AG 6 (AY (AV A4)))
 (A7 (BG (Bl (A0 (A1 1) A4)) (AU 7)
  (BG (DG (A0 (mOp AC (A1 7) (mC (.int 1))) (A0 (A1 1) A4))) (AU 8) DR))
 (AX (D7 BN (FF (AY (Cp (De (A1 6)))) AI (AN (mC (.int 16))))))))))))
def F_wishes:List D->Hd->Option (D×Hd):=mkF 2 9 Yk
abbrev AB(ks:List Nat):List D:=ks.map λk:Nat=>D.im (.int (k:Int))
def T4{n:Nat}{i:Int}(a:0<=i)(b:i<n):ixN n i=some i.toNat:=by unfold ixN;rw[if_pos a,if_pos b]
def Gh:∀{a:List Nat} {k x:Nat},a[k]?=some x->(x::a.eraseIdx k).Perm a
 |[],k,x,h=>by simp at h
 |y::r,0,x,h=>by simp at h;subst h;exact .refl _
 |y::r,k+1,x,h=>by
  have ih:=Gh (a:=r) (k:=k) (x:=x) (by simpa using h);exact(List.Perm.swap y x _).trans (ih.cons y)
def erase_map{α β:Type}(f:α->β):∀(l:List α) (k:Nat),(l.map f).eraseIdx k=(l.eraseIdx k).map f
 |[],k=>rfl
 |y::r,0=>rfl
 |y::r,k+1=>by simp[erase_map f r k]
def NB{a b:List Nat}{k x:Nat}(h:a[k]?=some x):(b++[x]++a.eraseIdx k).Perm (b++a):=by
 rw[append_assoc];exact List.Perm.append_left b (Gh h)
def IB(s1 s4' s5 s6 s7 s8:Option D):∀(ds:List D) (τ:Tp) (left seq:List Nat) (z:Option D),left.length=ds.length->seq.length+ds.length<=1000->∃(τ':Tp) (seq':List Nat) (z':Option D),
 B1 (AU 4) G5 [] ds [some (.mu 1),s1,some (.mu 2),some (.mu 3),z,s5,s6,s7,s8] (tp τ++[.lst (AB left),.lst (AB seq)]) =
  some (.nx [some (.mu 1),s1,some (.mu 2),some (.mu 3),z',s5,s6,s7,s8],tp τ'++[.lst [],.lst (AB seq')])/\seq'.Perm (seq++left)
 |[],τ,left,seq,z,hl,_=>by
  have:left=[]:=length_eq_zero_iff.mp hl;subst this;exact⟨τ,seq,z,Dh,by simp⟩
 |d::ds,τ,left,seq,z,hl,hs=>by
  simp only[length_cons]at hl hs;obtain⟨r,τ1,d1⟩:=draw τ (left.length:Int) (by omega) (by omega);have a1:=d1.lo;have b1:=d1.hi;have hr:r.toNat<left.length:=by omega
  have e1:left[r.toNat]?=some left[r.toNat]:=by simp[hr]
  obtain⟨τ',seq',z',q,pm⟩:=IB s1 s4' s5 s6 s7 s8 ds τ1 (left.eraseIdx r.toNat) (seq++[left[r.toNat]]) (some d) (by rw[List.length_eraseIdx,if_pos hr];omega) (by simp;omega);refine⟨τ',seq',z',?_,pm.trans (NB e1)⟩;rw[<- q];refine CT (ls1:=[some (.mu 1),s1,some (.mu 2),some (.mu 3),some d,s5,s6,s7,s8]) rfl ?_ (Aa _);have ge:=d1.gen (ls:=[some (.mu 1),s1,some (.mu 2),some (.mu 3),some d,s5,s6,s7,s8]) (hd:=tp τ++[.lst (AB left),.lst (AB seq)]) (rest:=[.lst (AB left),.lst (AB seq)]) (m:=A0 (A1 0) (A0 (mCB (f1 true BH) (A0 (A1 2) A4)) A4)) (by simp[BH]);have rg:DW r:=CP (by omega) (by omega);have ix:ixN left.length r=some r.toNat:=T4 a1 (by omega);have hf:CD seq.length:=Bu (by omega);have er:(AB left).eraseIdx r.toNat=AB (left.eraseIdx r.toNat):=erase_map _ _ _;simp only[G5,Kq,M5,Dk,List.getElem?_cons_zero,List.getElem?_cons_succ,bind_some,Go,XE,Td,EQ,ge,FN,Pc,rg,if_true,length_map,ix,List.getElem?_map,e1,map_some,er,WN,Jb,hf,WM];simp
def Lq(p:Int×Int):I:=.tup [.int p.1,.int p.2]
def Along(seq:List Nat)(ps:List (Int×Int)):Prop:=∀p∈ps,∃i j a b:Nat,i<j/\seq[i]?=some a/\seq[j]?=some b/\p=((a:Int),(b:Int))
def NN{seq:List Nat}{i a:Nat}(h:seq[i]?=some a):atI (AB seq) (i:Int)=some (.im (.int (a:Int))):=D8 rfl (by simp[h])
def F1(seq:List Nat)(dense:Int)(hd:0<dense/\dense<=100)(s1 z4:Option D)(i:Nat):∀(k j:Nat) (τ:Tp) (ps:List (Int×Int)) (z:Option D),i<j->j+k<=seq.length->ps.length+k<=1000->Along seq ps->∃(τ':Tp) (ps':List (Int×Int)) (z':Option D),
 B1 (AU 8) DR [] (AQ (j:Int) k) [some (.mu 1),s1,some (.mu 2),some (.mu 3),z4,some (.im (.int dense)),some (.mu 4),some (.im (.int (i:Int))),z] (tp τ++[.lst [],.lst (AB seq),.lst (ps.map Af)]) =
  some (.nx [some (.mu 1),s1,some (.mu 2),some (.mu 3),z4,some (.im (.int dense)),some (.mu 4),some (.im (.int (i:Int))),z'],tp τ'++[.lst [],.lst (AB seq),.lst (ps'.map Af)])/\ps'.length<=ps.length+k/\Along seq ps'
 |0,j,τ,ps,z,_,_,_,ho=>⟨τ,ps,z,Dh,le_refl _,ho⟩
 |k+1,j,τ,ps,z,hij,hj,hl,ho=>by
  obtain⟨r,τ1,d1⟩:=draw τ dense hd.1 (by omega);have e1:=d1.v;have hj1:j<seq.length:=by omega
  have hi1:i<seq.length:=by omega
  have sj:seq[j]?=some seq[j]:=by simp[hj1]
  have si:seq[i]?=some seq[i]:=by simp[hi1]
  have ai:=NN si;have aj:=NN sj;have ej:((j:Int)+1)=((j+1:Nat):Int):=by omega
  have hf:CD ps.length:=Bu (by omega);by_cases h:r=0
  .obtain⟨τ',ps',z',q,l,o⟩:=F1 seq dense hd s1 z4 i k (j+1) τ1 (ps++[((seq[i]:Int),(seq[j]:Int))]) (some (.im (.int (j:Int)))) (by omega) (by omega) (by simp;omega) (by
    intro p hp;rcases mem_append.mp hp with hp|hp
    .exact ho p hp
    .simp at hp;exact⟨i,j,_,_,hij,si,sj,hp⟩)
   refine⟨τ',ps',z',?_,by simp at l;omega,o⟩;rw[<- q,AQ,ej];refine CT (ls1:=[some (.mu 1),s1,some (.mu 2),some (.mu 3),z4,some (.im (.int dense)),some (.mu 4),some (.im (.int (i:Int))),some (.im (.int (j:Int)))]) rfl ?_ (Aa _);simp only[DR,Nk,Hi,Ih];rw[e1 _ _ _ _ rfl rfl];simp only[bind_some,M6,Kp,Vz,h,decide_true,Bool.false_eq_true,if_false,if_true,Kq,M5,Dk,List.getElem?_cons_zero,List.getElem?_cons_succ,Go,Tc,EQ,Vr,Ih,Q9,LP,Td,ai,aj,map_some,FN,length_cons,length_nil,Nat.reduceAdd,FM,Ss,Jb,length_map,hf];simp[Af,tp]
  .obtain⟨τ',ps',z',q,l,o⟩:=F1 seq dense hd s1 z4 i k (j+1) τ1 ps (some (.im (.int (j:Int)))) (by omega) (by omega) (by omega) ho;refine⟨τ',ps',z',?_,by omega,o⟩;rw[<- q,AQ,ej];refine CT (ls1:=[some (.mu 1),s1,some (.mu 2),some (.mu 3),z4,some (.im (.int dense)),some (.mu 4),some (.im (.int (i:Int))),some (.im (.int (j:Int)))]) rfl ?_ (Aa _);simp only[DR,Nk,Hi,Ih];rw[e1 _ _ _ _ rfl rfl];simp[h]
def Fk(seq:List Nat)(hn:seq.length<=8)(dense:Int)(hd:0<dense/\dense<=100)(z4:Option D):∀(k i:Nat) (τ:Tp) (ps:List (Int×Int)) (z7 z8:Option D),i+k=seq.length->ps.length<=7*i->Along seq ps->∃(τ':Tp) (ps':List (Int×Int)) (z7' z8':Option D),
 B1 (AU 7) (BG (DG (A0 (mOp AC (A1 7) (mC (.int 1))) (A0 (A1 1) A4))) (AU 8) DR) [] (AQ (i:Int) k) [some (.mu 1),some (.im (.int (seq.length:Int))),some (.mu 2),some (.mu 3),z4,some (.im (.int dense)),some (.mu 4),z7,z8] (tp τ++[.lst [],.lst (AB seq),.lst (ps.map Af)]) =
  some (.nx [some (.mu 1),some (.im (.int (seq.length:Int))),some (.mu 2),some (.mu 3),z4,some (.im (.int dense)),some (.mu 4),z7',z8'],tp τ'++[.lst [],.lst (AB seq),.lst (ps'.map Af)])/\ps'.length<=7*seq.length/\Along seq ps'
 |0,i,τ,ps,z7,z8,hi,hl,ho=>⟨τ,ps,z7,z8,Dh,by omega,ho⟩
 |k+1,i,τ,ps,z7,z8,hi,hl,ho=>by
  obtain⟨τ1,ps1,y8,q1,l1,o1⟩:=F1 seq dense hd (some (.im (.int (seq.length:Int)))) z4 i (seq.length-(i+1)) (i+1) τ ps z8 (by omega) (by omega) (by omega) ho;obtain⟨τ',ps',x7,x8,q,l,o⟩:=Fk seq hn dense hd z4 k (i+1) τ1 ps1 (some (.im (.int (i:Int)))) y8 (by omega) (by omega) o1;refine⟨τ',ps',x7,x8,?_,l,o⟩;have ei:((i:Int)+1)=((i+1:Nat):Int):=by omega
  rw[<- q,AQ,ei];refine CT (ls1:=[some (.mu 1),some (.im (.int (seq.length:Int))),some (.mu 2),some (.mu 3),z4,some (.im (.int dense)),some (.mu 4),some (.im (.int (i:Int))),z8]) rfl ?_ (Aa _);have rg:JE ((i+1:Nat):Int) (seq.length:Int):=R8 (by omega) (by omega) (by omega) (by omega);have en:((seq.length:Int)-((i+1:Nat):Int)).toNat=seq.length-(i+1):=by omega
  have e0:(DG (A0 (mOp AC (A1 7) (mC (.int 1))) (A0 (A1 1) A4))) [some (.mu 1),some (.im (.int (seq.length:Int))),some (.mu 2),some (.mu 3),z4,some (.im (.int dense)),some (.mu 4),some (.im (.int (i:Int))),z8] (tp τ++[.lst [],.lst (AB seq),.lst (ps.map Af)])=some ((AQ ((i+1:Nat):Int) (seq.length-(i+1)),[]),tp τ++[.lst [],.lst (AB seq),.lst (ps.map Af)]):=by
   simp only[Ko,EQ,Ih,Dk,List.getElem?_cons_zero,List.getElem?_cons_succ,bind_some,M6,AC,Kp,Hh,X2,map_some,FN,ei,rg,if_true,en]
  rw[Nm,e0];exact q1
def Pe(xs:List D)(k:Nat):BI xs none (some (k:Int))=xs.take k:=by
 unfold BI;rw[HT.sIx_none,HT.sIx_nat,Nat.sub_zero,List.drop_zero];by_cases h:k<=xs.length
 .rw[Nat.min_eq_left h]
 .rw[Nat.min_eq_right (by omega),List.take_length,take_of_length_le (by omega)]
def DB(n:Nat):AQ 0 n=AB (List.range n):=by
 refine List.ext_getElem? λi=>?_;by_cases h:i<n
 .rw[Ge h];simp[h]
 .rw[List.getElem?_eq_none (by simp;omega),List.getElem?_eq_none (by simp;omega)]
def Along.pok{seq:List Nat}{n:Nat}(hp:seq.Perm (List.range n))(hn:n<=1000){ps:List (Int×Int)}(h:Along seq ps):∀p∈ps,pok p:=by
 intro p hp';obtain⟨i,j,a,b,_,ea,eb,rfl⟩:=h p hp';have ha:a<n:=by simpa using hp.mem_iff.mp (mem_of_getElem? ea)
 have hb:b<n:=by simpa using hp.mem_iff.mp (mem_of_getElem? eb)
 exact⟨by show -1000000000<=(a:Int);omega,by show(a:Int)<=1000000000;omega,by show -1000000000<=(b:Int);omega,by show(b:Int)<=1000000000;omega⟩
def K0(τ:Tp)(n:Nat)(hn:n<=8):∃(seq:List Nat) (ps:List (Int×Int)) (τ':Tp) (g:Hd),seq.Perm (List.range n)/\Along seq ps/\ps.length<=16/\ps.Pairwise (λa b=>BQ a<=BQ b)/\F_wishes [.mu 1,.im (.int (n:Int))] (tp τ)=some (.im (.tup (ps.map Lq)),tp τ'++g):=by
 obtain⟨τ1,seq,z4,q1,pm⟩:=IB (some (.im (.int (n:Int)))) none none none none none (AQ 0 n) τ (List.range n) [] none (by simp) (by simp;omega);simp only[nil_append]at pm;have sl:seq.length=n:=by simpa using pm.length_eq
 obtain⟨r,τ2,d2⟩:=draw τ1 3 (by decide) (by decide);have e2:=d2.c;have a2:=d2.lo;have b2:=d2.hi;have hx:∃x:Int,(0<x/\x<=100)/\atI [D.im (.int 2),.im (.int 3),.im (.int 6)] r=some (.im (.int x)):=by
  have:r=0∨r=1∨r=2:=by omega
  rcases this with rfl|rfl|rfl
  .exact⟨2,by omega,MF _ _⟩
  .exact⟨3,by omega,MD _ _ _⟩
  .exact⟨6,by omega,W6 _ _ _ _⟩
 obtain⟨dense,hd,hx⟩:=hx;obtain⟨τ3,ps,z7,z8,q3,l3,o3⟩:=Fk seq (by omega) dense hd z4 n 0 τ2 [] none none (by omega) (by simp) (λp h=>by cases h);have pk:=o3.pok pm (by omega);have sub:((BE ps).take 16).Sublist (BE ps):=List.take_sublist _ _;refine⟨seq,(BE ps).take 16,τ3,[.lst [],.lst (AB seq),.lst (ps.map Af),.lst ((BE ps).map Af)],pm,λp h=>o3 p ((Ee ps).mem_iff.mp (sub.subset h)),by simp;omega,(F5 ps).sublist sub,?_⟩;have rgl:Ga (n:Int):=Fw (by omega) (by omega);have rg:DW (n:Int):=CP (by omega) (by omega);have c64:ps.length<64/\∀q∈ps,pok q:=⟨by omega,pk⟩
 have cut:=Pe ((BE ps).map Af) 16;have mk:AD (((BE ps).map Af).take 16)=.im (.tup (((BE ps).take 16).map Lq)):=by
  have:((BE ps).map Af).take 16=(((BE ps).take 16).map Lq).map D.im:=by rw[<- List.map_take,map_map];rfl
  rw[this,CJ]
 rw[sl]at q3;rw[show((0:Nat):Int)=0 from rfl]at q3;simp only[map_nil]at q1 q3;rw[<- DB]at q1;have cut':BI ((BE ps).map Af) none (some 16)=((BE ps).map Af).take 16:=cut;have tp5:(tp τ3++[MO.lst [],MO.lst (AB seq),MO.lst (ps.map Af),MO.lst ((BE ps).map Af)])[5]?=some (.lst ((BE ps).map Af)):=rfl;simp only[F_wishes,mkF,Yk,D3,D4,Nf,Nc,EQ,FN,Dk,map_cons,map_nil,length_cons,length_nil,cons_append,nil_append,List.replicate,Nat.reduceAdd,Nat.reduceSub,if_true,List.getElem?_cons_zero,List.getElem?_cons_succ,bind_some,rgl,toNat_natCast,Fi,map_some,set_cons_succ,set_cons_zero,Ma,Ng,Cg,length_append,append_assoc,Nm,Ni,rg,q1];rw[Nh];simp only[Ng,EQ,M6,FN,bind_some,length_cons,length_nil,Nat.reduceAdd,FL,if_true];rw[e2 _ _ _ rfl];simp only[bind_some,hx,map_some,Fi,set_cons_succ,set_cons_zero,append_assoc,cons_append,nil_append,Ma,length_append,length_cons,length_nil,Nat.reduceAdd,rg,if_true,toNat_natCast,q3,Vu,Nl,Vt,Nf,M4,Nj,Dk,List.getElem?_cons_zero,List.getElem?_cons_succ,Tc,Lp,if_pos c64,Nd,Km,M6,Go,tp5,cut',BN,mk]
abbrev intD(xs:List Int):List D:=xs.map λx=>D.im (.int x)
def Na(xs:List Int):BO (intD xs)=some (xs.map V.int):=by
 induction xs with
 |nil=>rfl
 |cons x r ih=>simp[BO,Cv]at ih ⊢;exact ih
def PY(x:Int)(xs:List Int):inV (.int x) (xs.map V.int)=decide (x∈xs):=by
 unfold inV
 induction xs with
 |nil=>simp
 |cons y r ih=>
  simp only[map_cons,any_cons,ih,mem_cons];have:eqV (V.int y) (V.int x)=decide (x=y):=by
   unfold eqV;by_cases h:x=y
   .subst h;simp
   .have h':¬ y=x:=λz=>h z.symm;simp[h,h']
  rw[this,Bool.decide_or]
def in_ints{hd:Hd}{d:D}{xs:List Int}(x:Int)(neg:Bool)(h:Ad hd d=some (intD xs)):gIn neg (.im (.int x)) d hd=some (.im (.bl (if neg then !decide (x∈xs)else decide (x∈xs))),hd):=by
 simp only[gIn,Cv,bind_some,h,Na,map_some,PY]
def g0(hd:Hd)(x y:MO):(hd++[x,y])[hd.length]?=some x:=by simp
def g1(hd:Hd)(x y:MO):(hd++[x,y])[hd.length+1]?=some y:=by simp
def t0(hd:Hd)(x y z:MO):(hd++[x,y]).set hd.length z=hd++[z,y]:=by simp
def t1(hd:Hd)(x y z:MO):(hd++[x,y]).set (hd.length+1) z=hd++[x,z]:=by simp
end Bd
namespace L2
open PySem PySem.Spec PyProof.Rows
def Bq(p:Key×D)(r:List (Key×D))(k:Key):Ae (p::r) k=if p.1=k then some p.2 else Ae r k:=by
 unfold Ae;rw[find?_cons];by_cases e:p.1=k<;>simp[e]
def Iz(k:Key):∀kvs:List (Key×D),(kvs.any λkv=>decide (kv.1=k))=(Ae kvs k).isSome
 |[]=>rfl
 |p::r=>by
  rw[any_cons,Bq];by_cases e:p.1=k
  .simp[e]
  .rw[if_neg e,decide_eq_false e,Bool.false_or];exact Iz k r
def Iy(k j:Key)(y:D):∀kvs:List (Key×D),Ae (kvs.map λkv=>if kv.1=k then(kv.1,y)else kv) j=(Ae kvs j).map λx=>if j=k then y else x
 |[]=>rfl
 |p::r=>by
  have ih:=Iy k j y r;rw[map_cons,Bq,Bq,ih];by_cases h:p.1=k
  .rw[if_pos h];by_cases e:p.1=j
   .have:j=k:=e.symm.trans h;simp[e,this]
   .simp[e]
  .rw[if_neg h];by_cases e:p.1=j
   .have:¬ j=k:=λz=>h (e.trans z);simp[e,this]
   .simp[e]
def Hw(k j:Key)(y:D):∀kvs:List (Key×D),Ae kvs k=none->Ae (kvs++[(k,y)]) j=if j=k then some y else Ae kvs j
 |[],_=>by
  rw[nil_append,Bq];by_cases e:k=j
  .subst e;simp
  .have:¬ j=k:=λz=>e z.symm;simp[e,this]
 |p::r,hn=>by
  rw[Bq]at hn;have hk:¬ p.1=k:=λz=>by rw[if_pos z]at hn;cases hn
  rw[if_neg hk]at hn;have ih:=Hw k j y r hn;rw[cons_append,Bq,Bq,ih];by_cases e:p.1=j
  .have:¬ j=k:=λz=>hk (e.trans z);simp[e,this]
  .simp[e]
def OD(kvs:List (Key×D))(k j:Key)(y:D):Ae (BP kvs k y) j=if j=k then some y else Ae kvs j:=by
 unfold BP;rw[Iz];by_cases a:(Ae kvs k).isSome=true
 .rw[if_pos a,Iy];by_cases e:j=k
  .subst e;obtain⟨x,hx⟩:=isSome_iff_exists.mp a;simp[hx]
  .simp[e]
 .rw[if_neg a];exact Hw k j y kvs (by simpa using a)
def P4(kvs:List (Key×D))(k:Key)(y:D):(BP kvs k y).length<=kvs.length+1:=by
 unfold BP;split<;>simp
section
variable{ls:Ls}{hd:Hd}{QE:D->Hd->Prop}{QI:List D×Gd->Hd->Prop}{ma:ME}{n:MG}{ta:MT}{mi:MI}{m:MA}
def TQ{d:D}{xs:List Int}{x:Int}{neg:Bool}(e1:Ad hd d=some (Bd.intD xs))(q:QE (.im (.bl (if neg then !decide (x∈xs)else decide (x∈xs)))) hd):WP (gIn neg (.im (.int x)) d hd) QE:=WP.eq (Bd.in_ints x neg e1) q
def ED{α:Type}{g:Gd}{QA:List D->Hd->Prop}(inj:α->D)(f:α->Option D)(L:D->Ls->Prop)(l0:Ls){xs:List α}{hd:Hd}(hg:GOk hd g)
 (k:∀x∈xs,∀ls,ls=l0∨(∃d,L d ls)->∃ls1,n (inj x) ls hd=some ls1/\L (inj x) ls1/\WT ta ls1 hd λc y=>y=hd/\if c=true then ∃z,f x=some z/\WE ma ls1 hd λe y=>y=hd/\e=z else f x=none)
 (q:QA (xs.filterMap f) hd):WP (B0 n ta ma g (xs.map inj) l0 hd) QA:=by
 have go:∀(xs':List α) (ls:Ls),(∀x∈xs',x∈xs)->(ls=l0∨∃d,L d ls)->B0 n ta ma g (xs'.map inj) ls hd=some (xs'.filterMap f,hd):=by
  intro xs'
  induction xs' with
  |nil=>intro ls _ _;unfold B0;rfl
  |cons x r ih=>
   intro ls hs hl;obtain⟨ls1,e1,L1,c,y,e2,rfl,q⟩:=k x (hs x mem_cons_self) ls hl;have ih:=ih ls1 (λz hz=>hs z (mem_cons_of_mem _ hz)) (.inr ⟨_,L1⟩);rw[map_cons];unfold B0;rw[e1,bind_some,e2,bind_some];cases c with
   |true=>
    rw[if_pos rfl]at q;obtain⟨z,ez,e,y,e3,rfl,rfl⟩:=q;rw[if_pos rfl,e3,bind_some];dsimp only;rw[if_pos hg,ih,filterMap_cons,ez];rfl
   |false=>
    rw[if_neg Bool.false_ne_true]at q;rw[if_neg Bool.false_ne_true];dsimp only;rw[if_pos hg,ih,filterMap_cons,q]
 exact⟨_,_,go xs l0 (λ_ h=>h) (.inl rfl),q⟩
end
section
variable{K:PySem.W.Frag}{ρ ρ':List Addr}{H H':Hp}{hd hd':Hd}
def E3(neg:Bool)(ma:ME)(ml:MA):ME:=λls hd=>(ma ls hd).bind λp=>(ml ls p.2).bind λq=>match p.1 with
 |.im i=>(Cv i).bind λx=>(BO q.1).map λxs=>(.im (.bl (if neg then !inV x xs else inV x xs)),q.2)
 |_=>none
def Mu{neg:Bool}{ta tb:TE}{ma:ME}{ml:MA}(ha:RE K ta ma)(hb:RN K tb ml):RE K (tOp (rIn K neg) ta tb) (E3 neg ma ml):=by
 and_intros;obtain⟨⟨d1,h1⟩,e1,hm⟩:=Yp hm;obtain⟨⟨d2,h2⟩,e2,hm⟩:=Yp hm;dsimp only at hm;split at hm
 .obtain⟨x,e3,hm⟩:=Yp hm;obtain⟨xs,e4,e5⟩:=Yq hm;cases e5;refine ha ρ σ H hd ls _ _ h1 hR hL e1 λρ1 H1 v1 x1 R1 r1=>?_;refine hb ρ1 σ H1 h1 ls _ d2 _ R1 (hL.ext hR x1) e2 λρ2 H2 a ys x2 R2 na oa ea r2=>?_;have r1:=r1.ext R1 x2;simp only[RD]at r1;obtain⟨rfl,f1⟩:=GI e3 r1;obtain⟨rfl,f2⟩:=FK e4 r2;exact⟨a,ys,rfl,.inl (SqL.of ea),f1,f2,hQ ρ2 H2 _ (x1.trans R1 x2) R2 (by simp[RD,RI])⟩
 .cases hm
def SC(K:PySem.W.Frag){X:Cx}{a b:Expr}{ta tb:TE}{ma:ME}{ml:MA}{pos:Pos}{op:CmpOp}{neg:Bool}(ho:OpR X (compareOp op) (rIn K neg))(ha:QE K X a ta ma)(hb:QN K X b tb ml)(hm:behindInMarks op b=false:=by first|exact EJ _|rfl):QE K X (.Compare a [op] [b] pos) (tOp (rIn K neg) ta tb) (E3 neg ma ml):=⟨Kg ho ha.p hb.p hm,Mu ha.r hb.r⟩
def Rm(K:PySem.W.Frag){X:Cx}{a b:Expr}{ta tb:TE}{ma:ME}{ml:MA}{pos:Pos}{op:CmpOp}{neg:Bool}(ho:OpR X (compareOp op) (rIn K neg))(ha:QE K X a ta ma)(hb:QN K X b tb ml)(hm:behindInMarks op b=false:=by first|exact EJ _|rfl):QT K X (.Compare a [op] [b] pos) (FY (tOp (rIn K neg) ta tb)) (AJ (E3 neg ma ml)):=⟨Fa ho ha.p hb.p hm,DM (Mu ha.r hb.r)⟩
def RDs.rep{ds:List D}{xs:List V}(r:RDs K ρ H ds xs):∀n,RDs K ρ H (List.replicate n ds).flatten (List.replicate n xs).flatten
 |0=>by simp[RDs]
 |n+1=>by
  simp only[replicate_succ,flatten_cons];exact r.app (r.rep n)
end
section
variable{ls:Ls}{hd:Hd}{ma mb:ME}{m ml:MA}{QE:D->Hd->Prop}{QA:List D->Hd->Prop}
def Iu{neg:Bool}(h:WE ma ls hd λd x=>WA ml ls x λds y=>∃i v vs,d=.im i/\Cv i=some v/\BO ds=some vs/\QE (.im (.bl (if neg then !inV v vs else inV v vs))) y):WE (E3 neg ma ml) ls hd QE:=by
 obtain⟨d,x,e1,ds,y,e2,i,v,vs,rfl,e3,e4,q⟩:=h;exact⟨_,_,by simp only[E3,e1,bind_some,e2,e3,e4,map_some],q⟩
end
abbrev blD(bs:List Bool):List D:=bs.map λb=>D.im (.bl b)
def GH(bs:List Bool):BO (blD bs)=some (bs.map V.bl):=by
 induction bs with
 |nil=>rfl
 |cons b r ih=>simp only[blD,map_cons,BO,Cv,bind_some]at ih ⊢;rw[ih];rfl
def Ha(x:Bool)(bs:List Bool):inV (.bl x) (bs.map V.bl)=decide (x∈bs):=by
 unfold inV
 induction bs with
 |nil=>simp
 |cons b r ih=>
  have e:eqV (.bl b) (.bl x)=decide (x=b):=by
   show(b==x)=_;cases b<;>cases x<;>rfl
  rw[map_cons,any_cons,ih,e];simp only[mem_cons,Bool.decide_or]
inductive Ty where
 |int|bool|str|tuple|list
 deriving DecidableEq
def Ty.nm:Ty->String
 |.int=>"int" | .bool=>"bool" | .str=>"str" | .tuple=>"tuple" | .list=>"list"
def IsT(K:PySem.W.Frag)(T:Ty)(H:Hp)(v:V)(b:Bool):Prop:=
 (v=.non/\b=false)∨(∃x,v=.bl x/\b=decide (T=.int∨T=.bool))∨(∃i,v=.int i/\b=decide (T=.int))∨(∃x,v=.str x/\b=decide (T=.str)) ∨
 (∃a xs,v=.ref a/\SqL K H a xs/\b=decide (T=.list))∨∃a xs,v=.ref a/\SqT K H a xs/\b=decide (T=.tuple)
section
variable{X:Cx}{pins:List (Addr×Obj)}{σ:St}{H:Hp}{s:Shared}{A:Around}{E:Value->Shared->Prop}{Q:Value->Shared->Prop}
def Vk{T:Ty}{v:V}{u:Value}{b:Bool}(I:Inv X pins σ H s)(r:RelV v u)(h:IsT X.K T H v b)(q:∀tk,Q (.bool b) { s with toks:=tk }):wpAny (model X.prog X.w) A (call (.builtin "isinstance") [u,.type T.nm]) Q E s:=by
 have q0:=q s.toks;have q1:=q (s.toks+1);rcases h with⟨rfl,rfl⟩|⟨x,rfl,rfl⟩|⟨i,rfl,rfl⟩|⟨x,rfl,rfl⟩|⟨a,xs,rfl,hl,rfl⟩|⟨a,xs,rfl,ht,rfl⟩
 .cases(show u=Value.none from r);cases T
  .exact IsiPair.NoneType_int q1
  .exact IsiPair.NoneType_bool q1
  .exact IsiPair.NoneType_str q1
  .exact IsiPair.NoneType_tuple q1
  .exact IsiPair.NoneType_list q1
 .cases(show u=Value.bool x from r);cases T
  .first|exact IsiPair.bool_int q0|exact IsiPair.bool_int q1
  .first|exact IsiPair.bool_bool q0|exact IsiPair.bool_bool q1
  .exact IsiPair.bool_str q1
  .exact IsiPair.bool_tuple q1
  .exact IsiPair.bool_list q1
 .obtain⟨t,rfl⟩:=(show ∃t,u=Value.int i t from r)
  cases T
  .exact IsiPair.int_int q0
  .exact IsiPair.int_bool q1
  .exact IsiPair.int_str q1
  .exact IsiPair.int_tuple q1
  .exact IsiPair.int_list q1
 .obtain⟨t,rfl⟩:=(show ∃t,u=Value.str x t from r)
  cases T
  .exact IsiPair.str_int q1
  .exact IsiPair.str_bool q1
  .exact IsiPair.str_str q0
  .exact IsiPair.str_tuple q1
  .exact IsiPair.str_list q1
 .cases(show u=Value.ref a from r);obtain⟨its,_,⟨o,n,e,c,_,_⟩,_⟩:=I.list hl;cases T
  .exact IsiPair.list_int e c q1
  .exact IsiPair.list_bool e c q1
  .exact IsiPair.list_str e c q1
  .exact IsiPair.list_tuple e c q1
  .exact IsiPair.list_list e c q0
 .cases(show u=Value.ref a from r);obtain⟨its,_,⟨o,e,c,_⟩,_⟩:=I.tuple ht;cases T
  .exact IsiPair.tuple_int e c q1
  .exact IsiPair.tuple_bool e c q1
  .exact IsiPair.tuple_str e c q1
  .exact IsiPair.tuple_tuple e c q0
  .exact IsiPair.tuple_list e c q1
end
def ON(K:PySem.W.Frag)(T:Ty)(te:TE):TE:=λσ H Q=>te σ H λv H1=>∃b,IsT K T H1 v b/\Q (.bl b) H1
def VG(K:PySem.W.Frag){X:Cx}(T:Ty){e:Expr}{te:TE}{x:Str}{p px pos:Pos}(hm:X.mg "isinstance"=none)(hmT:X.mg x=none)(hvT:bootBuiltins x=some (.type T.nm))(he:PE X e te)
 (hv:bootBuiltins "isinstance"=some (.builtin "isinstance")) (hK:X.K=K) (hg:Gl X "isinstance") (hgT:Gl X x) (hnT:x≠"__name__") (hdT:(x==("__debug__":Str))=false)
 (hs:starEach [e,.Name x px] X.env=[(false,eval e X.env),(false,eval (.Name x px) X.env)]) (hs2:starEach [.Name x px] X.env=[(false,eval (.Name x px) X.env)]):PE X (.Call (.Name "isinstance" p) [e,.Name x px] [] pos) (ON K T te):=by
 subst hK;intro pins s σ H Q I h;refine wpAny_Call_Name_kw (Di I hg hm hv ?_);have go:wpAny (model X.prog X.w) X.A (spliced (backTo pos (starEach [e,.Name x px] X.env))) (λvs s₁=>wpAny (model X.prog X.w) X.A (call (.builtin "isinstance") vs) (EP X pins σ Q) X.xe s₁) X.xe s:=by
  rw[hs];show wpAny _ _ (spliced ((false,eval e X.env)::backTo pos [(false,eval (.Name x px) X.env)])) _ _ s;refine Calls.spliced_cons (thn (he pins s σ H _ I h) λu s1 ⟨v,H1,I1,r1,b,ib,q1⟩=>?_);show wpAny _ _ (spliced ((false,eval (.Name x px) X.env)::backTo pos [])) _ _ s1;refine Calls.spliced_cons (Di I1 hgT hmT hvT ?_ hnT hdT);refine Calls.spliced_nil ?_;exact Vk I1 r1 ib λtk=>⟨.bl b,H1,I1.tok _,rfl,q1⟩
 exact PyProof.Rows.callWith_builtin1 go (by rw[hs,hs2]) (by rw[hs2];rfl)
section
variable{K:PySem.W.Frag}{ρ ρ':List Addr}{H H':Hp}{hd hd':Hd}
def isD(T:Ty)(hd:Hd):D->Option Bool
 |.im .non=>some false
 |.im (.bl _)=>some (decide (T=.int∨T=.bool))
 |.im (.int _)=>some (decide (T=.int))
 |.im (.str _)=>some (decide (T=.str))
 |.im (.tup _)=>some (decide (T=.tuple))
 |.tm _=>some (decide (T=.tuple))
 |.ro _=>some (decide (T=.list))
 |.mu n=>match hd[n]? with
  |some (.lst _)=>some (decide (T=.list))
  |_=>none
def Vl{T:Ty}{d:D}{v:V}{b:Bool}(hR:RH K ρ H hd)(h:RD K ρ H d v)(e:isD T hd d=some b):IsT K T H v b:=by
 cases d with
 |im i=>
  cases i with
  |non=>simp only[RD,RI]at h;subst h;simp only[isD,Option.some.injEq]at e;exact .inl ⟨rfl,e.symm⟩
  |bl c=>simp only[RD,RI]at h;subst h;simp only[isD,Option.some.injEq]at e;exact .inr (.inl ⟨c,rfl,e.symm⟩)
  |int c=>simp only[RD,RI]at h;subst h;simp only[isD,Option.some.injEq]at e;exact .inr (.inr (.inl ⟨c,rfl,e.symm⟩))
  |str c=>simp only[RD,RI]at h;subst h;simp only[isD,Option.some.injEq]at e;exact .inr (.inr (.inr (.inl ⟨c,rfl,e.symm⟩)))
  |tup is=>
   obtain⟨a,xs,rfl,q,r⟩:=h.tup (ds:=is.map .im) rfl;simp only[isD,Option.some.injEq]at e;exact .inr (.inr (.inr (.inr (.inr ⟨a,xs,rfl,q,e.symm⟩))))
 |tm ds=>
  obtain⟨a,xs,rfl,q,r⟩:=h.tup (ds:=ds) rfl;simp only[isD,Option.some.injEq]at e;exact .inr (.inr (.inr (.inr (.inr ⟨a,xs,rfl,q,e.symm⟩))))
 |ro ns=>
  obtain⟨a,xs,rfl,q,r⟩:=h.lst hR (hd:=hd) (ds:=ns.map λn=>.im (.int n)) rfl;simp only[isD,Option.some.injEq]at e;exact .inr (.inr (.inr (.inr (.inl ⟨a,xs,rfl,q,e.symm⟩))))
 |mu n=>
  simp only[isD]at e;split at e
  .next q=>
   cases e;simp only[RD]at h;obtain⟨a,hn,rfl⟩:=h;obtain⟨xs,e1,e2⟩:=hR.lst hn q;exact .inr (.inr (.inr (.inr (.inl ⟨a,xs,rfl,SqL.of e1,rfl⟩))))
  .cases e
def BX(T:Ty)(ma:ME):ME:=λls hd=>(ma ls hd).bind λp=>(isD T p.2 p.1).map λb=>(.im (.bl b),p.2)
def UD{T:Ty}{te:TE}{me:ME}(h:RE K te me):RE K (ON K T te) (BX T me):=by
 and_intros;obtain⟨⟨d1,h1⟩,e1,hm⟩:=Yp hm;obtain⟨b,e2,e3⟩:=Yq hm;cases e3;exact h ρ σ H hd ls _ d1 _ hR hL e1 λρ1 H1 v x1 R1 r1=>⟨b,Vl R1 r1 e2,hQ ρ1 H1 _ x1 R1 (by simp[RD,RI])⟩
def HA:∀T:Ty,bootBuiltins T.nm=some (.type T.nm)
 |.int=>by decide +kernel
 |.bool=>by decide +kernel
 |.str=>by decide +kernel
 |.tuple=>by decide +kernel
 |.list=>by decide +kernel
def Gf(K:PySem.W.Frag){X:Cx}(T:Ty){e:Expr}{te:TE}{me:ME}{x:Str}{p px pos:Pos}(hm:X.mg "isinstance"=none)(hmT:X.mg x=none)(he:QE K X e te me)(hx:bootBuiltins x=some (.type T.nm):=by first|exact HA .int|exact HA .bool|exact HA .str|exact HA .tuple|exact HA .list)(hK:X.K=K:=by rfl)(hg:Gl X "isinstance":=by rfl)(hgT:Gl X x:=by rfl)
 (hnT:x≠"__name__":=by decide) (hdT:(x==("__debug__":Str))=false:=by decide)
 (hs:starEach [e,.Name x px] X.env=[(false,eval e X.env),(false,eval (.Name x px) X.env)]:=by rfl) (hs2:starEach [.Name x px] X.env=[(false,eval (.Name x px) X.env)]:=by rfl):QE K X (.Call (.Name "isinstance" p) [e,.Name x px] [] pos) (ON K T te) (BX T me):=
 ⟨VG K T hm hmT hx he.p IX hK hg hgT hnT hdT hs hs2,UD he.r⟩
def YV(mo mi me:ME)(f:Int->Int->Int):MS:=λls hd=>(mo ls hd).bind λp=>(mi ls p.2).bind λq=>match p.1,q.1 with
 |.mu n,.im (.int i)=>match q.2[n]? with
  |some (.lst ds)=>(ixN ds.length i).bind λj=>match ds[j]? with
   |some (.im (.int x))=>(me ls q.2).bind λr=>match r.1,r.2[n]? with
    |.im (.int y),some (.lst ds')=>if ds'.length=ds.length then some (.nx ls,r.2.set n (.lst (ds'.set j (.im (.int (f x y))))))else none
    |_,_=>none
   |_=>none
  |_=>none
 |_,_=>none
def KZ:V->List V->Hp->VK->Prop:=λx vs H Q=>∃(l:Addr) (ns:List Int) (i:Int) (k:Nat),x=.ref l/\vs=[.int i]/\H l=some (.lst (ns.map V.int))/\ns[k]?=some i/\(∀m,m<k->ns[m]?≠some i)/\Q .non (upd H l (.lst ((ns.eraseIdx k).map V.int)))
def NO{X:Cx}:MtM X "list.remove" KZ:=by
 intro pins s σ H x vs v us Q I rx rv h;obtain⟨l,ns,i,k,rfl,rfl,hH,hk,hno,q⟩:=h;cases rx;obtain⟨u,rfl,ru⟩:=rv.one;obtain⟨t,rfl⟩:=ru;obtain⟨z,its,n,r,hl,e⟩:=I.lstM hH;have hkn:=(List.getElem?_eq_some_iff.mp hk).1;have li:its.length=ns.length:=by rw[<- hl];simp
 have itsI:∀(m:Nat) (hm:m<its.toArray.size),∃t,its.toArray[m]=.int (ns.getD m 0) t:=by
  intro m hm;have hm':m<ns.length:=by simpa [li]using hm
  have e1:(ns.map V.int)[m]?=some (.int (ns.getD m 0)):=by simp[hm']
  obtain⟨w,hw,rw'⟩:=r.get e1;obtain⟨t,rfl⟩:=rw';refine⟨t,?_⟩;have:=hw;simp only[List.getElem_toArray];exact(List.getElem?_eq_some_iff.mp hw).2
 refine call_meets F.slot_list_remove ⟨_,e,rfl⟩ F.entry_list_remove (F.args_list_remove_2 _ _)
  (PySem.MeetsSeq.list_remove l its.toArray n (.int i t) (λy=>match y with|.int a _=>a==i|_=>false) ?_ k ?_ ?_ ?_ ?_) ⟨e,?_⟩
 .intro y hy;obtain⟨m,hm,rfl⟩:=Array.mem_iff_getElem.mp hy;obtain⟨t',e'⟩:=itsI m hm;rw[e'];exact PySem.MeetsSeq.EqGives.int _ _ _ _
 .rw[size_toArray,li];exact hkn
 .obtain⟨t',e'⟩:=itsI k (by rw[size_toArray,li];exact hkn);rw[e'];have:ns.getD k 0=i:=by simp[hkn];exact(List.getElem?_eq_some_iff.mp hk).2
  rw[this];exact beq_self_eq_true i
 .intro m hm hmk;obtain⟨t',e'⟩:=itsI m hm;rw[e'];have hm':m<ns.length:=by simpa [li]using hm
  have:=hno m hmk;have:ns.getD m 0≠i:=λz=>this (by rw[<- z];simp[hm']);simpa using this
 .rw[size_toArray];omega
 .have ev:Vals ((ns.eraseIdx k).map V.int) (its.eraseIdx k):=by
   have:=r.eraseIdx k
   rwa [show(ns.map V.int).eraseIdx k=(ns.eraseIdx k).map V.int from Bd.erase_map _ _ _]at this
  refine⟨.non,_,I.lset (its':=its.eraseIdx k) hH e ?_ ev ?_,rfl,q⟩
  .show its.toArray.eraseIdxIfInBounds k=(its.eraseIdx k).toArray;rw[List.eraseIdxIfInBounds_toArray]
  .rw[length_map];have:=List.length_eraseIdx_le ns k;rw[length_map]at z;omega
open Classical in
def EM:D->List D->Hd->Option (D×Hd)
 |.mu n,[.im (.int i)],hd=>match hd[n]? with
  |some (.lst ds)=>(Aw ds).bind λns=>if i∈ns then some (.im .non,hd.set n (.lst ((ns.eraseIdx (ns.idxOf i)).map λx=>.im (.int x))))else none
  |_=>none
 |_,_,_=>none
def RDs.ints:∀{ns:List Int} {xs:List V},RDs K ρ H (ns.map λx=>D.im (.int x)) xs->xs=ns.map V.int
 |[],xs,h=>by simpa only[RDs,map_nil]using h
 |n::ns,xs,h=>by
  simp only[map_cons,RDs,RD,RI]at h;obtain⟨x,r,rfl,rfl,t⟩:=h;rw[RDs.ints t];rfl
def Mp:RM K KZ EM:=by
 intro ρ H hd d v ds vs Q z hd' hR h1 h2 hf hQ;unfold EM at hf;split at hf
 .next n i=>
  split at hf
  .next es q=>
   obtain⟨ns,e0,hf⟩:=Yp hf;split at hf
   .next c=>
    cases hf;simp only[RD]at h1;obtain⟨a,hn,rfl⟩:=h1;simp only[RDs,RD,RI]at h2;obtain⟨x,r,rfl,rfl,rfl⟩:=h2;obtain⟨xs,f1,f2⟩:=hR.lst hn q;rw[En e0]at f2;have ex:=f2.ints;subst ex;have hk:ns.idxOf i<ns.length:=List.idxOf_lt_length_iff.mpr c;have e1:ns[ns.idxOf i]?=some i:=by simp[hk]
    obtain⟨R2,x2⟩:=hR.put hn (o:=.lst ((ns.eraseIdx (ns.idxOf i)).map λx=>.im (.int x))) (ho:=.lst ((ns.eraseIdx (ns.idxOf i)).map V.int)) ⟨_,rfl,DP⟩;refine⟨a,ns,i,ns.idxOf i,rfl,rfl,f1,e1,λm hm e=>?_,hQ ρ _ _ x2 R2 (by simp[RD,RI])⟩;obtain⟨hm',e'⟩:=List.getElem?_eq_some_iff.mp e;have h4:ns.idxOf i<=m:=by
     have:∀(L:List Int) (m:Nat) (h:m<L.length),L[m]=i->L.idxOf i<=m:=by
      intro L
      induction L with
      |nil=>intro m h;simp at h
      |cons y r ih=>
       intro m h e;rw[List.idxOf_cons];by_cases hy:y=i
       .simp[hy]
       .have hy':(y==i)=false:=by simpa using hy
        rw[hy'];cases m with
        |zero=>exact absurd e hy
        |succ m=>exact Nat.succ_le_succ (ih m (by simpa using h) (by simpa using e))
     exact this ns m hm' e'
    omega
   .cases hf
  .cases hf
 .cases hf
end
section
variable{ls:Ls}{hd:Hd}{ma mo mi me:ME}{QE:D->Hd->Prop}{QS:Fl->Hd->Prop}
def Ac{T:Ty}(h:WE ma ls hd λd x=>∃b,isD T x d=some b/\QE (.im (.bl b)) x):WE (BX T ma) ls hd QE:=by
 obtain⟨d,x,e,b,e2,q⟩:=h;exact⟨_,_,by simp only[BX,e,bind_some,e2,map_some],q⟩
def MN{k:Nat}{i:Int}{ns:List Int}(e1:hd[k]?=some (.lst (ns.map λx=>.im (.int x))))(c:i∈ns)(q:QE (.im .non) (hd.set k (.lst ((ns.eraseIdx (ns.idxOf i)).map λx=>.im (.int x))))):WP (EM (.mu k) [.im (.int i)] hd) QE:=by
 refine⟨_,_,?_,q⟩;show(match hd[k]? with
  |some (.lst ds)=>(Aw ds).bind λns=>open Classical in if i∈ns then some (D.im .non,hd.set k (.lst ((ns.eraseIdx (ns.idxOf i)).map λx=>.im (.int x))))else none
  | _=>none)=_
 rw[e1];simp[c]
end
def Hq:bootBuiltins "enumerate"=some (.type "enumerate"):=by decide +kernel
section
variable{K:PySem.W.Frag}
def Fc(ma:MI):MI:=λls hd=>(ma ls hd).map λp=>((p.1.1.zipIdx.map λq=>AD [.im (.int (q.2:Int)),q.1],p.1.2),p.2)
def QV{ma:MI}{ls:Ls}{hd:Hd}{QI:List D×Gd->Hd->Prop}(h:WI ma ls hd λp x=>QI (p.1.zipIdx.map λq=>AD [.im (.int (q.2:Int)),q.1],p.2) x):WI (Fc ma) ls hd QI:=by
 obtain⟨p,x,e,q⟩:=h;exact⟨_,_,by simp only[Fc,e,map_some],q⟩
end
end L2
namespace HT
open PySem PySem.Spec PyProof.Rows
section
variable{prog:Program}{w:World}{A:Around}{E:Value->Shared->Prop}{s:Shared}
def getItem_tuple_whole{t sl:Addr}{items:Array Value}{vl vu:Value}{lo hi:Option Int}{Q:Value->Shared->Prop}(ht:IsTup s.heap t items)(hs:s.heap.IsSliceOf sl vl vu .none)(pl:IsPart vl lo)(pu:IsPart vu hi)
 (hw:sIx items.size 0 lo=0/\sIx items.size items.size hi=items.size) (h:Q (.ref t) s):wpAny (model prog w) A (getItem (.ref t) (.ref sl)) Q E s:=by
 obtain⟨os,hos,hcs,hds⟩:=id hs;have hTs:s.TypeIs (.ref sl) "slice":=⟨os,hos,hcs⟩
 unfold getItem
 try with_reducible refine wpAny_holding ?_
 first|refine wpAny_bind (wpAny_pure ?_)|skip
 refine wpAny_bind (wpAny_sequenceKey ht.typeIs (by decide) ?_);refine wpAny_bind (wpAny_callSpecial?_slot (name:=Str.ofString "__getitem__") ht.typeIs PyProof.Rows.slot_tuple_getitem
  (wpAny_call_entry PyProof.Rows.slot_tuple_getitem ht.typeIs entry_tuple_getitem ?_ (args_tuple_getitem _ _)))
 show wpAny _ _ (Builtin.Tuple.tupleItemsOf (.ref t) >>= _) _ _ s;refine wpAny_bind (tupleItemsOf_ ht ?_);refine wpAny_bind (wpAny_typeOf hTs ?_);rw[if_pos (by decide)];refine wpAny_bind (DV hs pl pu ?_);have hno:(((sIx items.size 0 lo:Nat):Int)==0&&(1:Int)==1&&(sIx items.size items.size hi-sIx items.size 0 lo)==items.size)=true:=by
  rw[hw.1,hw.2];simp
 show wpAny _ _ (if(((sIx items.size 0 lo:Nat):Int)==0&&(1:Int)==1&&(sIx items.size items.size hi-sIx items.size 0 lo)==items.size)=true then _ else _) _ _ s;rw[if_pos hno];refine wpAny_bind ?_;unfold Builtin.Tuple.tupleIsExact;refine wpAny_bind (wpAny_typeOf ht.typeIs (wpAny_pure ?_));rw[if_pos (by decide)];exact wpAny_bind (wpAny_rule (wpAny_pure ⟨_,rfl,wpAny_pure h⟩))
end
end HT
namespace L2
open PySem PySem.Spec PyProof.Rows
section
variable{X:Cx}
def Oo(K:PySem.W.Frag):V->Option Int->Option Int->Hp->VK->Prop:=λx lo hi H Q=>JK K x lo hi H Q∨∃a xs,x=.ref a/\SqT K H a xs/\(HT.sIx xs.length 0 lo=0/\HT.sIx xs.length xs.length hi=xs.length)/\Q (.ref a) H
def Ql(K:PySem.W.Frag)(hK:X.K=K:=by rfl):SlR X (Oo K):=by
 subst hK;intro pins s σ H x v vl vu lo hi sl Q I rx hs pl pu h;rcases h with h|⟨a,xs,rfl,hx,hw,q⟩
 .exact Mg pins s σ H x v vl vu lo hi sl Q I rx hs pl pu h
 cases rx;obtain⟨its,r,ht,hz⟩:=I.tuple hx;have hlen:its.toArray.size=xs.length:=by rw[size_toArray];exact r.length.symm
 refine⟨"tuple",_,PyProof.Rows.slot_tuple_getitem.lookup,ht.typeIs,?_⟩;exact HT.getItem_tuple_whole ht hs pl pu (by rw[hlen];exact hw) ⟨.ref a,H,I,rfl,q⟩
end
section
variable{K:PySem.W.Frag}{ρ ρ':List Addr}{H H':Hp}{hd hd':Hd}
def Al(m:ME)(ml mh:MO1):ME:=λls hd=>(m ls hd).bind λp=>(ml ls p.2).bind λl=>(mh ls l.2).bind λh=>(A9 p.1).map λds=>(AD (BI ds l.1 h.1),h.2)
def U9{t:TE}{tl th:TO}{m:ME}{ml mh:MO1}(h:RE K t m)(hl:RO1 K tl ml)(hh:RO1 K th mh):RE K (tSl (Oo K) t tl th) (Al m ml mh):=by
 and_intros;obtain⟨⟨d1,h1⟩,e1,hm⟩:=Yp hm;obtain⟨⟨d2,h2⟩,e2,hm⟩:=Yp hm;obtain⟨⟨d3,h3⟩,e3,hm⟩:=Yp hm;obtain⟨ds,e4,e5⟩:=Yq hm;cases e5;dsimp only at e2 e3 e4;refine h ρ σ H hd ls _ d1 h1 hR hL e1 λρ1 H1 v1 x1 R1 r1=>?_;refine hl ρ1 σ H1 h1 ls _ d2 h2 R1 (hL.ext hR x1) e2 λρ2 H2 x2 R2=>?_;refine hh ρ2 σ H2 h2 ls _ d3 _ R2 (hL.ext hR (x1.trans R1 x2)) e3 λρ3 H3 x3 R3=>?_;obtain⟨a,xs,rfl,q,r⟩:=((r1.ext R1 x2).ext R2 x3).tup e4;by_cases c:HT.sIx ds.length 0 d2=0/\HT.sIx ds.length ds.length d3=ds.length
 .refine .inr ⟨a,xs,rfl,q,by rw[r.len];exact c,?_⟩;have e6:BI ds d2 d3=ds:=by unfold BI;rw[c.1,c.2];simp
  rw[e6]at hQ;exact hQ ρ3 _ _ ((x1.trans R1 x2).trans R2 x3) R3 (Az q r)
 .refine .inl ⟨a,xs,rfl,q,by rw[r.len];exact c,λp hp=>?_⟩;obtain⟨R4,x4⟩:=R3.hid (ho:=.tup (Dm xs d2 d3)) hp;exact hQ ρ3 _ _ (((x1.trans R1 x2).trans R2 x3).trans R3 x4) R4 (Az (SqT.of AL) ((Hn r).ext R3 x4))
def Ul(K:PySem.W.Frag){X:Cx}{e:Expr}{te:TE}{me:ME}{lo hi:Option Expr}{tl th:TO}{ml mh:MO1}{p2 pos:Pos}(h:QE K X e te me)(hl:QO K X lo tl ml)(hh:QO K X hi th mh)(hK:X.K=K:=by rfl):QE K X (.Subscript e (.Slice lo hi none p2) pos) (tSl (Oo K) te tl th) (Al me ml mh):=⟨Eg (Ql K hK) h.p hl.p hh.p,U9 h.r hl.r hh.r⟩
def F2{ma:ME}{ls:Ls}{QE:D->Hd->Prop}{ml mh:MO1}(h:WE ma ls hd λd x=>WO ml ls x λl y=>WO mh ls y λu z=>∃ds,A9 d=some ds/\QE (AD (BI ds l u)) z):WE (Al ma ml mh) ls hd QE:=by
 obtain⟨d,x,e1,l,y,e2,u,z,e3,ds,e4,q⟩:=h;exact⟨_,_,by simp only[Al,e1,bind_some,e2,e3,e4,map_some],q⟩
end
section
variable{X:Cx}
def TD{prog:Program}{w:World}{A:Around}{E:Value->Shared->Prop}{s:Shared}{t b:Addr}{vs ws:List Value}{Q:Value->Shared->Prop}(ht:IsTup s.heap t vs.toArray)(hb:IsTup s.heap b ws.toArray)(hv:vs=[])
 (h1:Q (.ref b) s):wpAny (model prog w) A (binaryOp .Add (.ref t) (.ref b)) Q E s:=by
 obtain⟨⟨cls,dd,data,sl⟩,ho,hc,n,hd⟩:=id ht;obtain⟨⟨cls2,dd2,data2,sl2⟩,ho2,hc2,n2,hd2⟩:=id hb;simp only at hc hd hc2 hd2;subst hc hd hc2 hd2;exact concat_meets ⟨_,ho,rfl⟩ ⟨_,ho2,rfl⟩ noFill_tuple_add seq_tuple_add PySem.F.slot_tuple_add PySem.F.entry_tuple_add (PySem.F.args_tuple_add_2 _ _)
  (tuple_addW0 t b vs.toArray ws.toArray n n2 dd dd2 sl sl2 (by simp[hv])) ⟨ho,ho2,h1⟩
def Pz(K:PySem.W.Frag):R2:=λx y H Q=>∃a b ys,x=.ref a/\y=.ref b/\SqT K H a []/\SqT K H b ys/\Q (.ref b) H
def Si(K:PySem.W.Frag)(hK:X.K=K:=by rfl):OpR X (binaryOp .Add) (Pz K):=by
 subst hK;intro pins s σ H x y v u Q I rx ry h;obtain⟨a,b,ys,rfl,rfl,ha,hb,q⟩:=h;cases rx;cases ry;obtain⟨its,r1,p1,_⟩:=I.tuple ha;obtain⟨its2,r2,p2,_⟩:=I.tuple hb;have:its=[]:=by cases r1;rfl
 exact TD p1 p2 this ⟨.ref b,H,I,rfl,q⟩
def Er:D->D->Hd->Option (D×Hd):=λd e hd=>(A9 d).bind λa=>(A9 e).bind λb=>if a=[]then some (AD b,hd)else none
def Rh{K:PySem.W.Frag}:RB K (Pz K) Er:=by
 intro ρ H hd d e v u Q z hd' hR h1 h2 hf hQ;unfold Er at hf;obtain⟨a,e1,hf⟩:=Yp hf;obtain⟨b,e2,hf⟩:=Yp hf;split at hf
 .next c=>
  cases hf;subst c;obtain⟨p,xs,rfl,q1,r1⟩:=h1.tup e1;obtain⟨p2,ys,rfl,q2,r2⟩:=h2.tup e2;have:xs=[]:=by simpa [RDs]using r1
  subst this;exact⟨p,p2,ys,rfl,rfl,q1,q2,hQ ρ H _ .refl hR (Az q2 r2)⟩
 .cases hf
end
section
variable{prog:Program}{w:World}{A:Around}{E:Value->Shared->Prop}{s:Shared}
def K8{l:Addr}{vs:List Value}{Q:List Value->Shared->Prop}(hl:IsTup s.heap l vs.toArray)
 (h:Q vs { s with heap:=(s.heap.push (seqObj "list" #[] 0)).update s.heap.objs.size (Obj.mapSeq (·++vs.toArray)) }) (hsz:vs.length<=sizeLine:=by size_fits):
 wpAny (model prog w) A (collect (.ref l)) Q E s:=by
 obtain⟨o,ho,hc,n,hd⟩:=id hl;unfold collect;refine wpAny_bind (wpAny_runValue (codeAny_builtin entry_proto_collect' ?_));show wpAny _ _ (do again (.builtin "list.__iadd__" ⟨[<- newList [],.ref l],[]⟩)) _ _ s;refine wpAny_bind (wpAny_newList (wpAny_pure ⟨Code.quiet_builtin _ (by decide +kernel),codeAny_builtin entry_list_iadd' ?_⟩));show wpAny _ _ (Builtin.List.listExtendWith (.ref s.heap.objs.size) (.ref l) (.ref s.heap.objs.size)) _ _ { s with heap:=s.heap.push (seqObj "list" #[] 0) };unfold Builtin.List.listExtendWith;have ho':(s.heap.push (seqObj "list" #[] 0)).get? l=some o:=Heap.get?_push_of_some _ ho;refine wpAny_bind (wpAny_typeOf (T:="tuple") ⟨o,ho',hc⟩ ?_);have ht:(Value.type "tuple"==Value.type "tuple")=true:=by rfl
 rw[if_pos (by rw[ht];simp)];refine wpAny_bind (listItems_at ho' hd ?_);refine wpAny_bind (listItems_at (xs:=#[]) (n:=0) (Heap.get?_push_size _ rfl) rfl ?_);rw[if_neg (by simp)];refine wpAny_bind (listUpdate_at (xs:=#[]) (n:=0) (Heap.get?_push_size _ rfl) rfl ?_ (zero_le _) (by show(#[]++vs.toArray).size<=sizeLine+1;simp only[Array.size_append,size_toArray,length_nil];omega));refine wpAny_pure ?_;show wpAny (model prog w) A (do
  let o <- load s.heap.objs.size
  match o.data with
  |.seq xs _=>pure xs.toList
  | _=>unsupported "internal:collect") Q E { s with heap:=(s.heap.push (seqObj "list" #[] 0)).update s.heap.objs.size (Obj.mapSeq (·++vs.toArray)) }
 refine wpAny_bind (wpAny_load (get?_update_seq (Heap.get?_push_size _ rfl) _) ?_);show wpAny _ _ (pure ((#[]:Array Value)++vs.toArray).toList) Q E _;rw[show((#[]:Array Value)++vs.toArray).toList=vs by simp];exact wpAny_pure h
def J3{l:Addr}{vs:List Value}{ns:List Int}{Q:Value->Shared->Prop}(hl:IsTup s.heap l vs.toArray)(hI:IntsAre vs ns)(h64:vs.length<64)
 (h:∀(out:Array Value) (ns':List Int),IntsAre out.toList ns'->ns'.Perm ns->ns'.Pairwise (·<=·)->Q (.ref (s.heap.objs.size+1)) { s with heap:=sortedAll s.heap vs out }):
 wpAny (model prog w) A (call (.builtin "sorted") [.ref l]) Q E s:=by
 refine Calls.call_function_entry kind_sorted plain_sorted entry_sorted (args_sorted1 _) ?_;unfold Builtin.«sorted»;refine wpAny_bind (m:=checkCount "sorted" 1 1 _) (wpAny_pure ?_);refine wpAny_bind (K8 hl ?_);refine wpAny_bind (wpAny_newList ?_);have hsz:((s.heap.push (seqObj "list" #[] 0)).update s.heap.objs.size (Obj.mapSeq (·++vs.toArray))).objs.size=s.heap.objs.size+1:=by
  rw[Heap.size_update,size_push']
 have hoL:(((s.heap.push (seqObj "list" #[] 0)).update s.heap.objs.size (Obj.mapSeq (·++vs.toArray))).push (seqObj "list" vs.toArray 0)).get? (s.heap.objs.size+1)=some (seqObj "list" vs.toArray 0):=by
  rw[<- hsz];exact Heap.get?_push_size _ rfl
 show wpAny _ _ _ _ _ { s with heap:=((s.heap.push (seqObj "list" #[] 0)).update s.heap.objs.size (Obj.mapSeq (·++vs.toArray))).push (seqObj "list" vs.toArray 0) };rw[hsz];refine wpAny_bind (wpAny_holding (wpAny_call_entry slot_list_sort ⟨_,hoL,rfl⟩ entry_list_sort (list_sort_tree hoL hI h64 λout ns' a1 a2 a3=>⟨_,rfl,?_⟩) (args_list_sort _)));exact wpAny_pure ⟨_,rfl,h out ns' a1 a2 a3⟩
end
section
variable(K:PySem.W.Frag){X:Cx}
def Fx:List V->Hp->VK->Prop:=λxs H Q=>∃(a:Addr) (ns:List Int),xs=[.ref a]/\SqT K H a (ns.map V.int)/\ns.length<64/\∀(p:Addr) (ns':List Int),H p=none->ns'.Perm ns->ns'.Pairwise (·<=·)->Q (.ref p) (upd H p (.lst (ns'.map V.int)))
def Jp(hK:X.K=K:=by rfl):CallR X (.builtin "sorted") (Fx K):=by
 subst hK;intro pins s σ H xs us Q I r h;obtain⟨a,ns,rfl,hq,h64,q⟩:=h;obtain⟨u,rfl,ru⟩:=BY r;cases ru;obtain⟨its,rv,p,hz⟩:=I.tuple hq;have hlen:=rv.length;rw[length_map]at hlen;refine J3 p (ints_of rv) (by omega) λout ns' a1 a2 a3=>?_;obtain⟨e,he⟩:=sortedAll_at s.heap its out;have hl':ns'.length=ns.length:=a2.length_eq;refine⟨.ref (s.heap.objs.size+1),_,I.laid (a:=s.heap.objs.size+1) (o:=.lst (ns'.map V.int)) (t':=s.toks) (λb o hb=>sortedAll_old hb) (le_succ _) ⟨?_,out.toList,e,KK a1,he⟩,rfl,q _ _ (I.hok.fresh (le_succ _)) a2 a3⟩;rw[length_map,hl'];exact le_of_lt (Hy (by omega))
end
section
variable{K:PySem.W.Frag}
def LW{t:TE}{m:MI}(h:RRw K true t m):RN K (tCB (Fx K) (BD t Bh)) (Cq m):=by
 and_intros;obtain⟨⟨⟨d1,g1⟩,h1⟩,e1,hm⟩:=Yp hm;obtain⟨ns,e2,hm⟩:=Yp hm;split at hm
 .next c=>
  cases hm;refine h ρ σ H hd ls _ d1 g1 _ hR hL e1 λρ1 H1 a x1 R1 G1 S1=>?_;obtain⟨xs,q,r⟩:=S1 ρ1 H1 _ .refl R1 G1;have e3:d1=ns.map λi=>.im (.int i):=En e2;rw[e3]at r;have:=KW r;subst this;refine⟨a,ns,rfl,q,c,λp ns' hp pm pw=>?_⟩;have:ns'=BZ ns:=EH (pm.trans (CV ns).symm) pw (F6 ns);subst this;obtain⟨R2,x2⟩:=R1.hid (ho:=.lst ((BZ ns).map V.int)) hp;exact hQ ρ1 _ p _ (x1.trans R1 x2) R2 (x1.none hR hp R1) (R1.out hp) AL DP
 .cases hm
def Lh(K:PySem.W.Frag){X:Cx}{e:Expr}{te:TE}{mi:MI}{p pos:Pos}(hm:X.mg "sorted"=none)(ha:QR K true X e te mi)(hg:Gl X "sorted":=by rfl)(he:starEach [e] X.env=[(false,eval e X.env)]:=by rfl)(hK:X.K=K:=by rfl):QN K X (.Call (.Name "sorted" p) [e] [] pos) (tCB (Fx K) (BD te Bh)) (Cq mi):=
 ⟨Eh (Jp K hK) hg hm IN (C2 ha.p CZ he) (by decide) (by decide) he rfl,LW ha.r⟩
end
end L2
namespace L2
abbrev Bb:=Bc AC Er
end L2
namespace L2
open PySem PySem.Spec PyProof.Rows
section
variable{K:PySem.W.Frag}{ρ ρ':List Addr}{H H':Hp}{hd hd':Hd}
def Ja:List D->Hd->Option (D×Hd)
 |[.im (.int i)],hd=>some (.im (.int i),hd)
 |[.im (.bl b)],hd=>some (.im (.int (if b then 1 else 0)),hd)
 |_,_=>none
def U3:RF K (λxs H Q=>(∃i,xs=[.int i]/\Q (.int i) H)∨∃k,xs=[.bl k]/\Q (.int (if k then 1 else 0)) H) Ja:=by
 intro ρ H hd ds vs Q z hd' hR h1 hf hQ;unfold Ja at hf;split at hf
 .cases hf;simp only[RDs,RD,RI]at h1;obtain⟨x,r,rfl,rfl,rfl⟩:=h1;exact .inl ⟨_,rfl,hQ ρ H _ .refl hR (by simp[RD,RI])⟩
 .cases hf;simp only[RDs,RD,RI]at h1;obtain⟨x,r,rfl,rfl,rfl⟩:=h1;exact .inr ⟨_,rfl,hQ ρ H _ .refl hR (by simp[RD,RI])⟩
 .cases hf
end
end L2
namespace HT
open PySem PyProof.Rows
def noFill_tuple_mul:fillsNumberSlot (.type "tuple") "mul"=pure false:=
 PySem.fillsNumberSlot_seq (id:="tuple.__mul__") (r:=some (.builtin "tuple.__rmul__")) F.slot_tuple_mul.lookup (by decide +kernel) F.slot_tuple_rmul.lookup (by decide +kernel)
def repeat_tuple:seqRepeat? (.type "tuple")=pure (some (.builtin "tuple.__mul__")):=by
 unfold seqRepeat?;rw[PySem.seqSlot_of (T:="tuple") (name:="__mul__") (id:="tuple.__mul__") F.slot_tuple_mul.lookup (by decide +kernel),PySem.seqSlot_of (T:="tuple") (name:="__rmul__") (id:="tuple.__rmul__") F.slot_tuple_rmul.lookup (by decide +kernel)];rfl
def int_rmul_tuple(a:Int)(t:Tok)(l:Addr)(items:Array Value)(n:Nat)(dd:Option Addr)(sl:Array (Option Value)):
 Meets (Builtin.«int.__rmul__» ⟨[.int a t,.ref l],[]⟩) (λ_ R s=>s.heap.get? l=some { cls:=.type "tuple",dict:=dd,data:=.seq items n,slots:=sl }/\R (.ok (.ret Value.notImplemented)) s):=
 .of_wp λprog w A R s h=>by obtain⟨hp,g,d,tk,os⟩:=s;obtain⟨hl,h⟩:=h;wp_walk;exact⟨_,rfl,h⟩
def tuple_mul(l:Addr)(items:Array Value)(n:Nat)(dd:Option Addr)(sl:Array (Option Value))(k:Int)(t:Tok)(h0:items.isEmpty=false)(hk:0<=k/\k<=1000)(hs:items.size*k.toNat<=100000):
 Meets (Builtin.«tuple.__mul__» ⟨[.ref l,.int k t],[]⟩) (λ_ R s=>s.heap.get? l=some { cls:=.type "tuple",dict:=dd,data:=.seq items n,slots:=sl }/\(k=1->R (.ok (.ret (.ref l))) s)/\(k≠1->R (.ok (.ret (.ref s.heap.objs.size))) { s with heap:=s.heap.push { cls:=.type "tuple",data:=.seq ((List.replicate k.toNat items).foldl (·++·) #[]) } })):=
 .of_wp λprog w A R s h=>by
  obtain⟨hp,g,d,tk,os⟩:=s;obtain⟨hl,h1,h2⟩:=h;have f1:=AutoSeq1.idx_int;have f2:=AutoSeq1.sub_tuple_tuple
  wp_walk using wpAny_loadPart' hl
  have c1:¬ (decide (k < -2^63)||decide (k>=2^63))=true:=by simp;omega
  rw[if_neg c1]
  wp_walk using wpAny_loadPart' hl
  by_cases k1:k=1
  .rw[if_pos (by simp[k1])]
   wp_walk using wpAny_loadPart' hl
   exact⟨_,rfl,h1 k1⟩
  .rw[if_neg (by simp[h0,k1])];have h2:=h2 k1;by_cases k0:k=0
   .rw[if_pos (by simp[k0])]
    wp_walk using wpAny_loadPart' hl
    subst k0;exact⟨_,rfl,h2⟩
   .have c2:¬ ((items.size:Int)*k>(2^63-1)/8):=by
     have e:(items.size:Int)*k=((items.size*k.toNat:Nat):Int):=by rw[Int.natCast_mul,Int.toNat_of_nonneg hk.1]
     rw[e];omega
    have c3:¬ Builtin.Tuple.tupleTooMany ((items.size:Int)*k)=true:=by
     have e:(items.size:Int)*k=((items.size*k.toNat:Nat):Int):=by rw[Int.natCast_mul,Int.toNat_of_nonneg hk.1]
     unfold Builtin.Tuple.tupleTooMany;rw[e,sizeLine_eq,decide_eq_true_eq];omega
    rw[if_neg (by simp[h0];omega)];dsimp only;rw[if_neg c2,if_neg c3];have hz:(List.foldl (λx1 x2=>x1++x2) #[] (List.replicate k.toNat items)).size<=sizeLine:=by
     have:∀(m:Nat) (a:Array Value),(List.foldl (λx1 x2=>x1++x2) a (List.replicate m items)).size=a.size+items.size*m:=by
      intro m
      induction m with
      |zero=>intro a;simp
      |succ m ih=>intro a;rw[replicate_succ,List.foldl_cons,ih,Array.size_append,Nat.mul_succ];omega
     rw[this,sizeLine_eq];simp;omega
    unfold Builtin.Tuple.tupleExact;refine wpAny_bind (wpAny_newObj_type ?_ hz);exact wpAny_pure ⟨_,rfl,h2⟩
end HT
namespace L2
open PySem PySem.Spec PyProof.Rows
section
variable{X:Cx}
def Le(K:PySem.W.Frag):R2:=λx y H Q=>∃l k xs,x=.ref l/\y=.int k/\SqT K H l xs/\xs≠[]/\(0<=k/\k<=1000)/\xs.length*k.toNat<=100000/\(k=1->Q (.ref l) H)/\
 (k≠1->∀p,H p=none->Q (.ref p) (upd H p (.tup (List.replicate k.toNat xs).flatten)))
def Sf(K:PySem.W.Frag)(hK:X.K=K:=by rfl):OpR X (binaryOp .Mult) (Le K):=by
 subst hK;intro pins s σ H x y v u Q I rx ry h;obtain⟨l,k,xs,rfl,rfl,hH,hne,hk,hz,q1,q2⟩:=h;cases rx;obtain⟨t,rfl⟩:=ry;obtain⟨its,r,p,_⟩:=I.tuple hH;obtain⟨⟨cls,dd,data,sl⟩,ho,hc,n,hd⟩:=id p;simp only at hc hd;subst hc hd;have ht:s.TypeIs (.ref l) "tuple":=⟨_,ho,rfl⟩
 have hn:its≠[]:=λz=>hne (r.nil_iff.mp z);have hl:its.length=xs.length:=r.length.symm;refine wpAny_binaryOp_repeat_ref (T:="tuple") (U:="int") (by decide) ht (λs'=>typeIs_int s' k t) HT.noFill_tuple_mul F.fills_int_mul F.slot_int_rmul HT.repeat_tuple F.slot_int_index.lookup
  (call_meets F.slot_int_rmul (typeIs_int s k t) F.entry_int_rmul (F.args_int_rmul_2 _ _) (HT.int_rmul_tuple k t l its.toArray n dd sl)
   ⟨ho,rfl,ht,call_meets F.slot_tuple_mul ht F.entry_tuple_mul (F.args_tuple_mul_2 _ _) (HT.tuple_mul l its.toArray n dd sl k t (by cases its with|nil=>exact absurd rfl hn|cons a r=>rfl) hk (by rw[size_toArray,hl];exact hz)) ⟨ho,λe=>?_,λe=>?_⟩⟩)
 .exact⟨.ref l,H,I,rfl,q1 e⟩
 .have f0:=II its k.toNat []
  rw[nil_append]at f0;rw[f0];refine⟨.ref s.heap.objs.size,_,I.laid (t':=s.toks) (o:=.tup (List.replicate k.toNat xs).flatten) (λb ob q=>Heap.get?_push_of_some _ q) (le_refl _) ?_,rfl,q2 e _ (I.hok.fresh (le_refl _))⟩;exact⟨by rw[T0,sizeLine_eq,Nat.mul_comm];omega,_,r.rep k.toNat,IsTupD.new _ _⟩
end
section
variable{K:PySem.W.Frag}
def Fb(ma mb:ME):ME:=λls hd=>(ma ls hd).bind λp=>(mb ls p.2).bind λq=>match p.1,q.1 with
 |.im (.tup is),.im (.int k)=>if is≠[]/\(0<=k/\k<=1000)/\is.length*k.toNat<=100000 then some (.im (.tup (List.replicate k.toNat is).flatten),q.2)else none
 |_,_=>none
def RW{ta tb:TE}{ma mb:ME}(ha:RE K ta ma)(hb:RE K tb mb):RE K (tOp (Le K) ta tb) (Fb ma mb):=by
 and_intros;obtain⟨⟨d1,h1⟩,e1,hm⟩:=Yp hm;obtain⟨⟨d2,h2⟩,e2,hm⟩:=Yp hm;dsimp only at hm;split at hm
 .next is k _=>
  split at hm
  .next c=>
   cases hm;refine ha ρ σ H hd ls _ _ h1 hR hL e1 λρ1 H1 v1 x1 R1 r1=>?_;refine hb ρ1 σ H1 h1 ls _ _ _ R1 (hL.ext hR x1) e2 λρ2 H2 v2 x2 R2 r2=>?_;simp only[RD,RI]at r2;subst r2;have r1:=r1.ext R1 x2;obtain⟨a,xs,rfl,sq,rs⟩:=r1.tup (ds:=is.map D.im) rfl;have hl:xs.length=is.length:=by have:=rs.len;simpa using this
   refine⟨a,k,xs,rfl,rfl,sq,λz=>c.1 (length_eq_zero_iff.mp (by rw[<- hl,z];rfl)),c.2.1,by rw[hl];exact c.2.2,λe=>?_,λe p hp=>?_⟩
   .subst e;refine hQ ρ2 H2 _ (x1.trans R1 x2) R2 ?_;simpa using r1
   .obtain⟨R3,x3⟩:=R2.hid (ho:=.tup (List.replicate k.toNat xs).flatten) hp;refine hQ ρ2 _ _ ((x1.trans R1 x2).trans R2 x3) R3 ?_;have e3:D.im (.tup (List.replicate k.toNat is).flatten)=AD ((List.replicate k.toNat is).flatten.map D.im):=(CJ _).symm;rw[e3];refine Az (SqT.of AL) ?_;have:=((rs.rep k.toNat).ext R2 x3)
    have e4:(List.replicate k.toNat is).flatten.map D.im=(List.replicate k.toNat (is.map D.im)).flatten:=by rw[List.map_flatten,List.map_replicate]
    rw[e4];exact this
  .cases hm
 .cases hm
def SA(K:PySem.W.Frag){X:Cx}{a b:Expr}{ta tb:TE}{ma mb:ME}{pos:Pos}(ha:QE K X a ta ma)(hb:QE K X b tb mb)(hK:X.K=K:=by rfl):QE K X (.BinOp a .Mult b pos) (tOp (Le K) ta tb) (Fb ma mb):=⟨Lo (Sf K hK) ha.p hb.p,RW ha.r hb.r⟩
def QZ{ma mb:ME}{ls:Ls}{hd:Hd}{QE:D->Hd->Prop}(h:WE ma ls hd λd x=>WE mb ls x λe y=>∃is k,d=.im (.tup is)/\e=.im (.int k)/\is≠[]/\(0<=k/\k<=1000)/\is.length*k.toNat<=100000/\QE (.im (.tup (List.replicate k.toNat is).flatten)) y):WE (Fb ma mb) ls hd QE:=by
 obtain⟨d,x,e1,e,y,e2,is,k,rfl,rfl,c1,c2,c3,q⟩:=h;exact⟨_,_,by simp only[Fb,e1,bind_some,e2];rw[if_pos ⟨c1,c2,c3⟩],q⟩
end
end L2
namespace HT
open PySem PyProof.Rows
open PySem.AutoSeq1 (wpAny_loadPart')
section
variable{prog:Program}{w:World}{A:Around}{E:Value->Shared->Prop}{s:Shared}
def Gj{it t:Addr}{i:Nat}{items:Array Value}{x:Value}{Q:Value->Shared->Prop}(hit:s.heap.IsTupleIter it t i)(ht:s.heap.IsTuple t items)(hx:items[i]?=some x)
 (hQ:∀h',h'.IsTupleIter it t (i+1)->Heap.SameBut it s.heap h'->Q x { s with heap:=h' }):wpAny (model prog w) A (Builtin.SmallTypes.nextOf (.ref it)) Q E s:=by
 obtain⟨o,ho,hc,hd⟩:=id hit;obtain⟨ol,hol,_,nl,hdl⟩:=ht;unfold Builtin.SmallTypes.nextOf;refine wpAny_bind (wpAny_callSpecial?_slot (name:=Str.ofString "__next__") hit.typeIs F.slot_tuple_iterator_next
  (wpAny_call_entry F.slot_tuple_iterator_next hit.typeIs F.entry_tuple_iterator_next ?_ (F.args_tuple_iterator_next_1 _)))
 show wpAny _ _ (field (.ref it) 0 >>= _) _ _ s;refine wpAny_bind (wpAny_field ho hd (x:=.ref t) rfl ?_);show wpAny _ _ (if(Value.ref t==Value.none)=true then _ else _) _ _ s;rw[if_neg (show ¬ ((Value.ref t==Value.none)=true)from Bool.false_ne_true)];show wpAny _ _ (field (.ref it) 1 >>= _) _ _ s;refine wpAny_bind (wpAny_field ho hd (x:=.int i 0) rfl ?_);show wpAny _ _ (seqItems? (.ref t) >>= _) _ _ s;refine wpAny_bind (wpAny_seqItems hol hdl ?_);simp only[toNat_natCast,hx];refine wpAny_bind (wpAny_setField ho hd (by simp) (wpAny_pure ⟨x,rfl,wpAny_pure (hQ _ ?_ (Heap.SameBut.update ..))⟩));exact⟨_,Heap.get?_update_self _ ho (Obj.isFreed_of_fields (Obj.data_mapFields hd _)),(Obj.cls_mapFields ..).trans hc,by rw[Obj.data_mapFields hd];simp[rawInt]⟩
def HP{it t:Addr}{i:Nat}{items:Array Value}{Q:Value->Shared->Prop}(hh:A.handled=none)(hit:s.heap.IsTupleIter it t i)(ht:s.heap.IsTuple t items)(hx:items[i]?=none)
 (hE:∀h' e,Heap.ExtBut it s.heap h'->(∃o,h'.get? e=some o/\o.cls=.type "StopIteration")->E (.ref e) { s with heap:=h' }):wpAny (model prog w) A (Builtin.SmallTypes.nextOf (.ref it)) Q E s:=by
 obtain⟨o,ho,hc,hd⟩:=id hit;obtain⟨ol,hol,_,nl,hdl⟩:=ht;unfold Builtin.SmallTypes.nextOf;refine wpAny_bind (wpAny_callSpecial?_slot (name:=Str.ofString "__next__") hit.typeIs F.slot_tuple_iterator_next
  (wpAny_call_entry F.slot_tuple_iterator_next hit.typeIs F.entry_tuple_iterator_next ?_ (F.args_tuple_iterator_next_1 _)))
 show wpAny _ _ (field (.ref it) 0 >>= _) _ _ s;refine wpAny_bind (wpAny_field ho hd (x:=.ref t) rfl ?_);show wpAny _ _ (if(Value.ref t==Value.none)=true then _ else _) _ _ s;rw[if_neg (show ¬ ((Value.ref t==Value.none)=true)from Bool.false_ne_true)];show wpAny _ _ (field (.ref it) 1 >>= _) _ _ s;refine wpAny_bind (wpAny_field ho hd (x:=.int i 0) rfl ?_);show wpAny _ _ (seqItems? (.ref t) >>= _) _ _ s;refine wpAny_bind (wpAny_seqItems hol hdl ?_);simp only[toNat_natCast,hx];refine wpAny_bind (wpAny_rule (wpAny_bind (wpAny_setField ho hd (by simp) ?_)));show wpAny _ _ (newExc (.type "StopIteration") [] >>= _) _ _ _;refine wpAny_bind ?_;simp only[newExc,newTuple];refine wpAny_bind (wpAny_newObj_type ?_ (by size_fits));refine wpAny_bind (m:=firstArgMember _ _) (wpAny_of_eq (a:=Value.none) (by first|rfl|(simp only[firstArgMember];rfl)) ?_);refine wpAny_newObj_type ?_ (by size_fits);simp only[raiseNew];refine wpAny_bind (wpAny_handled ?_)
 first|rw[show A.in1.handled=none from hh]|rw[hh]
 refine wpAny_bind (wpAny_pure (wpAny_throw ?_));exact hE _ _ (((Heap.SameBut.update ..).extBut.push _).push _) ⟨_,Heap.get?_push_size _ rfl,rfl⟩
def drawsT(hh:A.handled=none)(it t:Addr)(hne:t≠it)(items:Array Value):
 Draws prog w A it [it,t] items.size (λi v=>items[i]?=some v) (λi h=>h.IsTupleIter it t i/\h.IsTuple t items) where
 live:=λ_ _ st=>let ⟨o,ho,_⟩:=st.1;⟨o,ho⟩
 frame:=λ_ _ _ st hk=>⟨let ⟨o,ho,r⟩:=st.1;⟨o,hk it (by simp) o ho,r⟩,let ⟨o,ho,r⟩:=st.2;⟨o,hk t (by simp) o ho,r⟩⟩
 item:=λi s Q E hi st hQ=>by
  refine Gj st.1 st.2 (x:=items[i]) (by simp[hi]) λh' hit' hs'=>?_;exact hQ _ h' s.toks (by simp[hi]) ⟨hit',st.2.extBut hs'.extBut hne⟩ hs'
 done:=λs Q E st hE=>HP hh st.1 st.2 (by simp) hE
end
def No(l:Addr)(items:Array Value)(n:Nat)(dct:Option Addr)(sl:Array (Option Value)):
 Meets (Builtin.«enumerate.__new__» ⟨[.type "enumerate",.ref l],[]⟩) (λ_ R s=>s.heap.get? l=some { cls:=.type "tuple",dict:=dct,data:=.seq items n,slots:=sl } /\
  R (.ok (.ret (.ref (s.heap.push { cls:=.type "tuple_iterator",data:=.fields #[.ref l,.int 0 0] }).objs.size)))
   { s with heap:=(s.heap.push { cls:=.type "tuple_iterator",data:=.fields #[.ref l,.int 0 0] }).push { cls:=.type "enumerate",data:=.fields #[.none,.bool false,.ref s.heap.objs.size,rawInt 0,.none,.none] } }):=
 .of_wp λprog w A R s h=>by
  obtain⟨hp,g,d,tk,os⟩:=s;obtain⟨hl,h⟩:=h;have hsub:=sub_enumerate;have hL:Heap.IsTuple (Shared.heap ⟨hp,g,d,tk,os⟩) l items:=⟨_,hl,rfl,n,rfl⟩
  wp_walk using wpAny_loadPart' hl
  refine wpAny_stack_any λst=>wpAny_pure ?_;split
  .rename_i c _ _ _ _ _
   cases(c==Value.type "enumerate")
   .wp_walk using wpAny_loadPart' hl,wpAny_pyIter_tuple hL
    exact⟨_,rfl,h⟩
   .wp_walk using wpAny_loadPart' hl,wpAny_pyIter_tuple hL
    exact⟨_,rfl,h⟩
  .wp_walk using wpAny_loadPart' hl,wpAny_pyIter_tuple hL
   exact⟨_,rfl,h⟩
def call_enumT{prog:Program}{w:World}{A:Around}{E:Value->Shared->Prop}{s:Shared}{l:Addr}{items:Array Value}{Q:Value->Shared->Prop}(hL:IsTup s.heap l items)
 (h:∀h',IsEnum h' (s.heap.objs.size+1) s.heap.objs.size 0 .none->h'.IsTupleIter s.heap.objs.size l 0->h'.objs.size=s.heap.objs.size+2 ->
  (∀b o,s.heap.get? b=some o->h'.get? b=some o)->Q (.ref (s.heap.objs.size+1)) { s with heap:=h' }):
 wpAny (model prog w) A (call (.type "enumerate") [.ref l]) Q E s:=by
 obtain⟨⟨c,dct,dt,sl⟩,hl,hc,n,hd⟩:=hL
 replace hc:c=.type "tuple":=hc
 replace hd:dt=.seq items n:=hd
 subst hc hd;refine callType_new F.called_enumerate (by decide) (F.typeCall_enumerate_1 _) (F.newCall_enumerate_1 _) (λobj=>F.args_object_init_2 obj _) F.entry_enumerate_new
  (No l items n dct sl) ⟨hl,?_⟩
 have hz:(s.heap.push { cls:=.type "tuple_iterator",data:=.fields #[.ref l,.int 0 0] }).objs.size=s.heap.objs.size+1:=Heap.size_push ..;show _/\_;rw[hz];have he:IsEnum ((s.heap.push { cls:=.type "tuple_iterator",data:=.fields #[.ref l,.int 0 0] }).push
  { cls:=.type "enumerate",data:=.fields #[.none,.bool false,.ref s.heap.objs.size,rawInt 0,.none,.none] }) (s.heap.objs.size+1) s.heap.objs.size 0 .none:=by
  have:=Heap.get?_push_size (s.heap.push { cls:=.type "tuple_iterator",data:=.fields #[.ref l,.int 0 0] })
   (o:={ cls:=.type "enumerate",data:=.fields #[.none,.bool false,.ref s.heap.objs.size,rawInt 0,.none,.none] }) rfl
  rw[hz]at this;exact this
 refine⟨⟨_,he,rfl⟩,h _ he ⟨_,Heap.get?_push_of_some _ (Heap.get?_push_size _ rfl),rfl,rfl⟩ (by rw[Heap.size_push,hz]) λb o x=>Heap.get?_push_of_some _ (Heap.get?_push_of_some _ x)⟩
end HT
namespace L2
open PySem PySem.Spec PyProof.Rows
structure ETt(h:Heap)(e it l:Addr)(i:Nat):Prop where
 e:∃old,IsEnum h e it i old
 r:h.IsTupleIter it l i
def ItT(K:PySem.W.Frag)(a:Addr):It:=
 ⟨λi H=>∃xs x,SqT K H a xs/\xs[i]?=some x,
  λi H x H'=>∃p v,H p=none/\H'=upd H p (.tup [.int (i:Int),v])/\x=.ref p/\∀xs,SqT K H a xs->xs[i]?=some v,
  λi H=>∃xs,SqT K H a xs/\xs.length=i⟩
def LC{P:Program}{w:World}{K:PySem.W.Frag}{elts:List Expr}{kk:Nat}{tpos:Pos}{e it l:Addr}(ne:e≠it)(nl:l≠it)(nle:e≠l):Turn P w K (.Tuple elts kk tpos) (ItT K l) [e,it] e (λi h=>ETt h e it l i) where
 mem:=by simp
 obj:=λi h st c hc=>by
  obtain⟨⟨old,he⟩,hr⟩:=st;simp only[mem_cons,not_mem_nil,or_false]at hc;rcases hc with rfl|rfl
  .exact⟨_,he,λv z=>by cases(show Data.fields _=Data.cell v from z)⟩
  .obtain⟨o,q,_,d⟩:=hr;exact⟨o,q,λv z=>by rw[d]at z;cases z⟩
 keep:=λi h h' st k=>by
  obtain⟨⟨old,he⟩,o,q,r⟩:=st;exact⟨⟨old,k e (by simp) _ he⟩,o,k it (by simp) _ q,r⟩
 item:=by
  intro X hP hw hK hc i pins s σ H E I hf st hg;subst hP hw hK;obtain⟨xs,x,h1,hx⟩:=hg;obtain⟨its,r,pl,hz⟩:=I.tuple h1;obtain⟨u,hu,ru⟩:=r.get hx;obtain⟨⟨old,he⟩,hr⟩:=st;have hlt:i<its.toArray.size:=by
   have:=(List.getElem?_eq_some_iff.mp hu).1;simpa using this
  have hd:X.A.in1.handled=none:=I.ok.hd hc;refine wpAny_pyNext_enum_itemD (HT.drawsT hd it l nl its.toArray) he ⟨hr,pl⟩ hlt ne (by simp;exact⟨ne,nle⟩) λx' g tk hx' ho hr' ht hsz kp=>⟨_,rfl,?_⟩
  have ex:x'=u:=by
   have hx':its.toArray[i]?=some x':=hx';rw[List.getElem?_toArray,hu]at hx';exact(Option.some.inj hx').symm
  subst ex;refine wpAny_letOwnedTupleGo_enum ho λg' e' sb=>?_;have hle:e<s.heap.objs.size:=Heap.lt_size he;have kp2:∀c o,c∉[e,it]->s.heap.get? c=some o->g'.get? c=some o:=λc o nc q=>by
   simp only[mem_cons,not_mem_nil,or_false,not_or]at nc;exact sb.extBut _ _ nc.1 (kp c o nc.1 nc.2 q)
  have hT:s.heap.objs.size≠e:=ne_of_gt hle;have hpair:g'.get? s.heap.objs.size=some { cls:=.type "tuple",data:=.seq #[.int i tk,x'] }:=sb.extBut _ _ hT ht;have fresh:H s.heap.objs.size=none:=I.hok.fresh (le_refl _);have I2:Inv X pins σ (upd H s.heap.objs.size (.tup [.int (i:Int),x])) { s with heap:=g',toks:=tk+1 }:=I.turnsL (tk:=tk+1) (o:=.tup [.int (i:Int),x]) kp2 hf (le_refl _)
   (show ObjOk X.prog X.w _ g' _ (.tup [.int (i:Int),x])from⟨by show 2<=sizeLine;decide,[.int i tk,x'],.cons ⟨_,rfl⟩ (.cons ru .nil),⟨_,hpair,rfl,⟨_,rfl⟩,rfl⟩⟩)
  refine⟨.ref s.heap.objs.size,_,I2,rfl,⟨s.heap.objs.size,x,fresh,rfl,rfl,λxs' q=>by rw[I.tuple_inj q h1];exact hx⟩,⟨⟨x',?_⟩,?_⟩,λc hc=>?_⟩
  .have:=e';rw[show((i:Int)+1)=((i+1:Nat):Int) by omega]at this;exact this
  .exact hr'.1.extBut sb.extBut (Ne.symm ne)
  .have lt:c<s.heap.objs.size:=by
    simp only[mem_cons,not_mem_nil,or_false]at hc;rcases hc with rfl|rfl
    .exact hle
    .obtain⟨o,q,_⟩:=hr;exact Heap.lt_size q
   rw[AH (ne_of_lt lt)];exact(hf c hc).1
 done:=by
  intro X hP hw hK hc i pins s σ H E I hf st hg;subst hP hw hK;obtain⟨xs,h1,hend⟩:=hg;obtain⟨its,r,pl,hz⟩:=I.tuple h1;have l1':=r.length;obtain⟨⟨old,he⟩,hr⟩:=st;have hd:X.A.in1.handled=none:=I.ok.hd hc;have en:i=its.toArray.size:=by simp;omega
  subst en;refine wpAny_pyNext_enum_endD (HT.drawsT hd it l nl its.toArray) he ⟨hr,pl⟩ λg x=>⟨rfl,?_⟩
  exact I.turns (tk:=s.toks) (λc o nc q=>by
   simp only[mem_cons,not_mem_nil,or_false,not_or]at nc;exact x c o nc.2 q) hf
 self:=λ_ _ _ _ _ st h=>by
  obtain⟨⟨old,he⟩,hr⟩:=st;exact wpAny_pyIter_enum he h
def JX(K:PySem.W.Frag)(ta:TA):TI:=λσ H R=>ta σ H λvs H1=>∃a xs,vs=[.ref a]/\SqT K H1 a xs/\R (ItT K a) H1
def PH(K:PySem.W.Frag){X:Cx}{a:Expr}{ta:TA}{elts:List Expr}{kk:Nat}{tpos p pos:Pos}(hg:Gl X "enumerate")(hm:X.mg "enumerate"=none)(ha:PA X [a] ta)(hK:X.K=K:=by rfl)(hs:starEach [a] X.env=[(false,eval a X.env)]:=by rfl):
 PI X (.Tuple elts kk tpos) (.Call (.Name "enumerate" p) [a] [] pos) (JX K ta):=by
 subst hK;intro pins s σ H R I h;refine Call_ (Di I hg hm Hq (PyProof.Rows.callWith_type1 (thn (ha pos pins s σ H _ I h) λus s1 ⟨vs,H1,I1,r1,q1⟩=>?_) hs rfl));obtain⟨l,xs,e,c,q⟩:=q1;subst e;obtain⟨u,rfl,ru⟩:=r1.one;cases ru;obtain⟨its,r,pl,hz⟩:=I1.tuple c;have ll:l<s1.heap.objs.size:=by obtain⟨o,ho,_⟩:=pl;exact Heap.lt_size ho
 refine HT.call_enumT pl λg he hr hsz kp=>wpAny_pyIter_enum he ?_;refine⟨_,_,_,_,H1,rfl,I1.kept (t':=s1.toks) kp,LC (ne_of_gt (Nat.lt_succ_self _)) (ne_of_lt ll) (ne_of_gt (lt_succ_of_lt ll)),⟨⟨_,he⟩,hr⟩,λc hc=>?_,q⟩;simp only[mem_cons,not_mem_nil,or_false]at hc;have le:s1.heap.objs.size<=c:=by
  rcases hc with rfl|rfl
  .exact Nat.le_add_right _ _
  .exact le_refl _
 exact I1.fpOk le (I1.hok.fresh le)
def Oe{K:PySem.W.Frag}{ta:TE}{ma:MI}(ha:RRw K true ta ma):RIt K (JX K (BD ta Bh)) (Fc ma):=by
 intro ρ σ H hd ls Q d g hd' hR hL hm hQ;obtain⟨⟨⟨d1,g1⟩,h1⟩,e1,e2⟩:=Yq hm;cases e2;refine ha ρ σ H hd ls _ d1 g1 h1 hR hL e1 λρ1 H1 a x1 R1 G1 S1=>?_;obtain⟨xs,c1,r1⟩:=S1 ρ1 H1 _ .refl R1 G1;refine⟨a,xs,rfl,c1,hQ ρ1 H1 _ x1 R1 G1 ?_⟩;intro ρ3 H3 hd3 x3 R3 G3 i;obtain⟨xs,c1,r1⟩:=S1 ρ3 H3 _ x3 R3 G3;have l1:=r1.len;refine⟨λhi=>?_,λhi=>⟨xs,c1,?_⟩⟩
 .have hi:i<d1.length:=by simpa using hi
  have i1:d1[i]?=some (d1[i]'hi):=List.getElem?_eq_getElem _;obtain⟨x,x4,x5⟩:=r1.get i1;refine⟨⟨xs,x,c1,x4⟩,λz H4 hz=>?_⟩;obtain⟨p,v,fp,rfl,rfl,hv⟩:=hz;have ev:=hv xs c1;rw[x4]at ev;cases ev;obtain⟨R4,x6⟩:=R3.hid (ho:=.tup [.int (i:Int),x]) fp;refine⟨ρ3,AD [.im (.int (i:Int)),d1[i]'hi],x6,rfl,R4,?_,Az (SqT.of AL) (.cons (by simp[RD,RI]) (.cons (x5.ext R3 x6) .nil))⟩;simp[i1]
 .have hi:i=d1.length:=by simpa using hi
  omega
def Oz(K:PySem.W.Frag){X:Cx}{a:Expr}{ta:TE}{ma:MI}{elts:List Expr}{kk:Nat}{tpos p pos:Pos}(hm:X.mg "enumerate"=none)(ha:QR K true X a ta ma)(hg:Gl X "enumerate":=by rfl)(hK:X.K=K:=by rfl)(hs:starEach [a] X.env=[(false,eval a X.env)]:=by rfl):
 QI K X (.Tuple elts kk tpos) (.Call (.Name "enumerate" p) [a] [] pos) (JX K (BD ta Bh)) (Fc ma):=⟨PH K hg hm (C2 ha.p CZ hs) hK hs,Oe ha.r⟩
end L2
namespace HS
open PySem PyProof.Rows
open PySem.AutoSeq1 (wpAny_loadPart')
open Sem (wp)
abbrev st(t:Tok):List (Str×Value):=[(Str.ofString "start",.int 1 t)]
end HS
namespace L2
open PySem PySem.Spec PyProof.Rows
def pick_all:∀L:List Value,(List.range L.length).filterMap (λi=>L[i]?)=L
 |[]=>rfl
 |x::r=>by
  rw[length_cons,List.range_succ_eq_map,filterMap_cons];simp only[List.getElem?_cons_zero,List.filterMap_map]
  congr 1
  have:=pick_all r;simpa [Function.comp_def]using this
def Fu:∀{xs:List V} {us:List Value},Vals xs us->Vals xs.reverse us.reverse
 |_,_,.nil=>.nil
 |_,_,.cons r t=>by
  rw[reverse_cons,reverse_cons];exact Vals.append (Fu t) (.cons r .nil)
section
variable{K:PySem.W.Frag}{ρ:List Addr}{H:Hp}
def RDs.rev:∀{ds:List D} {xs:List V},RDs K ρ H ds xs->RDs K ρ H ds.reverse xs.reverse
 |[],xs,h=>by simp only[RDs]at h;subst h;simp[RDs]
 |d::ds,xs,h=>by
  simp only[RDs]at h;obtain⟨x,r,rfl,rx,h⟩:=h;rw[reverse_cons,reverse_cons];exact(RDs.rev h).app (.cons rx .nil)
variable{X:Cx}{e stp:Expr}{te ts:TE}{m:MA}{ms:ME}{pos p2:Pos}
end
def NZ{M:Model}{A:Around}{E:Value->Shared->Prop}{s:Shared}{β:Type}{n:Nat}{b:β}{f:Nat->β->Sem (ForInStep β)}{Q:β->Shared->Prop}(h:wpAny M A (forIn (List.range' 0 n) b f) Q E s):wpAny M A (forIn ([:n]:Std.Legacy.Range) b f) Q E s:=by
 rw[Std.Legacy.Range.forIn_eq_forIn_range'];simpa only[Std.Legacy.Range.size,Nat.sub_zero,Nat.add_sub_cancel,Nat.div_one]using h
def MZ(a:Addr)(its:Array Value)(k:Nat)(dd:Option Addr)(sl:Array (Option Value))(x:Value)(e:Value->Bool)(j:Nat)(hj:j<its.size)(yes:e its[j]=true)(no:∀m (hm:m<its.size),m<j->e its[m]=false):
 Meets (Builtin.«tuple.index» ⟨[.ref a,x],[]⟩) (λA R s=>s.heap.get? a=some { cls:=.type "tuple",dict:=dd,data:=.seq its k,slots:=sl }/\(∀y,y∈its->PySem.SeqAt.EqAt A.in1 s y x (e y))/\R (.ok (.ret (.int j s.toks))) { s with toks:=s.toks+1 }):=
 .of_wp λprog w A R s0 hh=>by
  obtain⟨hp,gs,dr,tk,os⟩:=s0;obtain⟨h1,h2,h3⟩:=hh
  wp_walk using AutoSeq1.wpAny_loadPart' h1,NZ
  rw[Nat.min_self];refine wpAny_forIn_list _ (λrest b s'=>b.1=none/\s'=⟨hp,gs,dr,tk,os⟩/\∃i,i<=j/\rest=List.range' i (its.size-i)) _ ?_ ?_ _ _ ⟨rfl,rfl,0,zero_le _,rfl⟩
  .rintro z rest b s' ⟨hb,rfl,i,hi,hr⟩;have lt:i<its.size:=by omega
   obtain⟨rfl,hr⟩:z=i/\rest=List.range' (i+1) (its.size-(i+1)):=by
    rw[show its.size-i=(its.size-(i+1))+1 by omega,List.range'_succ]at hr;exact List.cons.inj hr
   rw[Array.getElem?_eq_getElem lt];refine wpAny_bind (h2 _ (Array.getElem_mem lt) prog w _ _ ?_);by_cases q:z=j
   .subst q;rw[yes]
    wp_walk
    exact⟨_,rfl,h3⟩
   .rw[no z lt (by omega)]
    wp_walk
    exact⟨rfl,rfl,z+1,by omega,hr⟩
  .rintro⟨b1,b2⟩ s' ⟨hb,rfl,i,hi,hr⟩;rw[show its.size-i=(its.size-(i+1))+1 by omega,List.range'_succ]at hr;cases hr
def Kc(K:PySem.W.Frag):V->List V->Hp->VK->Prop:=λx vs H Q=>∃(a:Addr) (ns:List Int) (i:Int),x=.ref a/\vs=[.int i]/\SqT K H a (ns.map V.int)/\i∈ns/\Q (.int (ns.idxOf i:Nat)) H
def IH{i:Int}:∀(L:List Int) (m:Nat),m<L.idxOf i->L[m]?≠some i
 |[],m,h=>by simp at h
 |y::r,m,h=>by
  rw[List.idxOf_cons]at h;by_cases hy:y=i
  .simp[hy]at h
  .have hy':(y==i)=false:=by simpa using hy
   rw[hy']at h;cases m with
   |zero=>simpa using hy
   |succ m=>simpa using IH r m (by simpa using h)
def NP{X:Cx}:MtM X "tuple.index" (Kc X.K):=by
 intro pins s σ H x vs v us Q I rx rv h;obtain⟨a,ns,i,rfl,rfl,hT,hi,q⟩:=h;cases rx;obtain⟨u,rfl,ru⟩:=rv.one;obtain⟨t,rfl⟩:=ru;obtain⟨its,r,⟨⟨cl,dd,dt,sl⟩,e,c,k,hd⟩,z⟩:=I.tuple hT;simp only at c hd;subst c hd;have li:its.length=ns.length:=by rw[<- r.length];simp
 have hj:ns.idxOf i<ns.length:=List.idxOf_lt_length_iff.mpr hi;have itsI:∀(m:Nat) (hm:m<its.toArray.size),∃t,its.toArray[m]=.int (ns.getD m 0) t:=by
  intro m hm;have hm':m<ns.length:=by simpa [li]using hm
  have e1:(ns.map V.int)[m]?=some (.int (ns.getD m 0)):=by simp[hm']
  obtain⟨w,hw,rw'⟩:=r.get e1;obtain⟨t,rfl⟩:=rw';exact⟨t,(List.getElem?_eq_some_iff.mp hw).2⟩
 refine call_meets F.slot_tuple_index ⟨_,e,rfl⟩ F.entry_tuple_index (F.args_tuple_index_2 _ _)
  (MZ a its.toArray k dd sl (.int i t) (λy=>match y with|.int n _=>n==i|_=>false) (ns.idxOf i) (by rw[size_toArray,li];exact hj) ?_ ?_) ⟨e,?_,?_⟩
 .obtain⟨t',e'⟩:=itsI (ns.idxOf i) (by rw[size_toArray,li];exact hj);rw[e'];have:ns.getD (ns.idxOf i) 0=i:=by simp[hj]
  rw[this];exact beq_self_eq_true i
 .intro m hm hmk;obtain⟨t',e'⟩:=itsI m hm;rw[e'];have hm':m<ns.length:=by simpa [li]using hm
  have:=IH ns m hmk;have:ns.getD m 0≠i:=λz=>this (by rw[<- z];simp[hm']);simpa using this
 .intro y hy;obtain⟨m,hm,rfl⟩:=Array.mem_iff_getElem.mp hy;obtain⟨t',e'⟩:=itsI m hm;rw[e'];exact(PySem.MeetsSeq.EqGives.int _ _ _ _).at _ _
 .exact⟨.int (ns.idxOf i:Nat),H,I.tok _,⟨_,rfl⟩,q⟩
section
variable{K:PySem.W.Frag}
def OR(K:PySem.W.Frag)(r:V->List V->Hp->VK->Prop)(to:TE)(t:TA):TE:=λσ H Q=>to σ H λx H1=>(∃a xs,x=.ref a/\SqT K H1 a xs)/\t σ H1 λxs H2=>r x xs H2 Q
def VJ{X:Cx}{o e:Expr}{es:List Expr}{to:TE}{t:TA}{name:Str}{apos cpos:Pos}{id:String}{r:V->List V->Hp->VK->Prop}(slot:Slot "tuple" name id)(hty:typeOf (.builtin id)=pure (.type "method_descriptor"))(hm:MtM X id r)(ho:PE X o to)(ha:PA X (e::es) t)
 (hbase:attributeBase o name X.env (eval o X.env)=eval o X.env)
 (hfew:((backTo cpos (starEach (e::es) X.env)).all (λx=>!x.1)&&(backToKw cpos (keywordEach [] X.env)).all (λx=>x.1.isSome)&&decide ((e::es).length+([]:List Keyword).length+(if([]:List Keyword).isEmpty then 0 else 1)<30))=true)
 (hline:(apos.endLine==cpos.line)=true) (hs:starEach (e::es) X.env=(false,eval e X.env)::starEach es X.env) (hplain:(backTo cpos (starEach es X.env)).any (·.1)=false):
 PE X (.Call (.Attribute o name apos) (e::es) [] cpos) (OR X.K r to t):=by
 intro pins s σ H Q I h;refine wpAny_Call_method_late hbase hfew hline rfl (thn (ho pins s σ H _ I h) λv s1 ⟨x,H1,I1,r1,⟨a,xs,ex,hT⟩,q1⟩=>?_);subst ex;cases r1;obtain⟨ob,e1,e2,e3⟩:=I1.tupleD hT;refine⟨"tuple",id,PySem.F.plainAttrs_tuple,slot,hty,⟨ob,e1,e2⟩,λb eb=>by cases eb;exact⟨ob,e1,e3⟩,?_⟩;have hA:=ha cpos pins s1 σ H1 _ I1 q1;rw[hs]at hA ⊢;refine Calls.callWith_builtin (by show(false||(backTo cpos (starEach es X.env)).any (·.1))=false;rw[hplain]<;>rfl) (Calls.evalArgs_plain ?_);exact thn hA λus s2 ⟨vs,H2,I2,r2,q2⟩=>hm pins s2 σ H2 (.ref a) vs (.ref a) us Q I2 rfl r2 q2
def GD(f:D->List D->Hd->Option (D×Hd))(mo:ME)(ma:MA):ME:=λls hd=>(mo ls hd).bind λp=>match A9 p.1 with
 |some _=>(ma ls p.2).bind λq=>f p.1 q.1 q.2
 |none=>none
def UB{r:V->List V->Hp->VK->Prop}{f:D->List D->Hd->Option (D×Hd)}{to:TE}{t:TA}{mo:ME}{ma:MA}(hr:RM K r f)(ho:RE K to mo)(ha:RA K t ma):RE K (OR K r to t) (GD f mo ma):=by
 and_intros;obtain⟨⟨d1,h1⟩,e1,hm⟩:=Yp hm;dsimp only at hm;split at hm
 .next ds e=>
  obtain⟨⟨d2,h2⟩,e2,hm⟩:=Yp hm;refine ho ρ σ H hd ls _ d1 h1 hR hL e1 λρ1 H1 v x1 R1 r1=>⟨?_,?_⟩
  .obtain⟨a,xs,rfl,q,_⟩:=r1.tup e;exact⟨a,xs,rfl,q⟩
  .exact ha ρ1 σ H1 h1 ls _ d2 h2 R1 (hL.ext hR x1) e2 λρ2 H2 vs x2 R2 r2=>hr ρ2 H2 h2 d1 v d2 vs Q d hd' R2 (r1.ext R1 x2) r2 hm λρ' H' w x3 R3 r3=>hQ ρ' H' w ((x1.trans R1 x2).trans R2 x3) R3 r3
 .cases hm
open Classical in
def EO:D->List D->Hd->Option (D×Hd):=λd ds hd=>(A9 d).bind λes=>(Aw es).bind λns=>match ds with
 |[.im (.int i)]=>if i∈ns then some (.im (.int (ns.idxOf i:Nat)),hd)else none
 |_=>none
def Mq:RM K (Kc K) EO:=by
 intro ρ H hd d v ds vs Q z hd' hR h1 h2 hf hQ;obtain⟨es,e1,hf⟩:=Yp hf;obtain⟨ns,e2,hf⟩:=Yp hf;split at hf
 .split at hf
  .next c=>
   cases hf;obtain⟨a,xs,rfl,q,r⟩:=h1.tup e1;rw[En e2]at r;have ex:=r.ints;subst ex;simp only[RDs,RD,RI]at h2;obtain⟨x,r2,rfl,rfl,rfl⟩:=h2;exact⟨a,ns,_,rfl,rfl,q,c,hQ ρ H _ .refl hR (by simp[RD,RI])⟩
  .cases hf
 .cases hf
def Us(K:PySem.W.Frag){X:Cx}{e:Expr}{es:List Expr}{t:TA}{m:MA}{id:String}{r:V->List V->Hp->VK->Prop}{f:D->List D->Hd->Option (D×Hd)}{name:Str}{apos cpos:Pos}{o:Expr}{to:TE}{mo:ME}(slot:Slot "tuple" name id)(hty:typeOf (.builtin id)=pure (.type "method_descriptor"))(hm:MtM X id r)(hr:RM K r f)(ho:QE K X o to mo)(ha:QA K X (e::es) t m)
 (hbase:attributeBase o name X.env (eval o X.env)=eval o X.env:=by rfl)
 (hfew:((backTo cpos (starEach (e::es) X.env)).all (λx=>!x.1)&&(backToKw cpos (keywordEach [] X.env)).all (λx=>x.1.isSome)
  && decide ((e::es).length+([]:List Keyword).length+(if([]:List Keyword).isEmpty then 0 else 1)<30))=true:=by rfl)
 (hline:(apos.endLine==cpos.line)=true:=by rfl) (hs:starEach (e::es) X.env=(false,eval e X.env)::starEach es X.env:=by rfl) (hplain:(backTo cpos (starEach es X.env)).any (·.1)=false:=by rfl) (hK:X.K=K:=by rfl):
 QE K X (.Call (.Attribute o name apos) (e::es) [] cpos) (OR K r to t) (GD f mo m):=by
 subst hK;exact⟨VJ slot hty hm ho.p ha.p hbase hfew hline hs hplain,UB hr ho.r ha.r⟩
end
def MU{f:D->List D->Hd->Option (D×Hd)}{ma:ME}{m:MA}{ls:Ls}{hd:Hd}{QE:D->Hd->Prop}(h:WE ma ls hd λd x=>(∃l,A9 d=some l)/\WA m ls x λds y=>WP (f d ds y) QE):WE (GD f ma m) ls hd QE:=by
 obtain⟨d,x,e,⟨l,e1⟩,ds,y,e2,z,y2,e3,q⟩:=h;exact⟨z,y2,by simp only[GD,e,bind_some,e1,e2,e3],q⟩
def Ht{d:D}{es:List D}{ns:List Int}{i:Int}{hd:Hd}{QE:D->Hd->Prop}(e1:A9 d=some es)(e2:Aw es=some ns)(c:i∈ns)(q:QE (.im (.int (ns.idxOf i:Nat))) hd):WP (EO d [.im (.int i)] hd) QE:=by
 refine⟨_,_,?_,q⟩;show(A9 d).bind _=_;rw[e1];simp[e2,c]
end L2
namespace HT
open PySem PySem.Spec PyProof.Rows
section
variable{prog:Program}{w:World}{A:Around}{E:Value->Shared->Prop}{s:Shared}
def MH(n:Nat):Builtin.Slice.sliceAdjust none none (-1) (n:Int)=((n:Int)-1,-1):=by
 unfold Builtin.Slice.sliceAdjust;simp
def Ll(n:Nat):Builtin.Slice.slicePlaces ((n:Int)-1) (-1) (-1)=n:=by
 unfold Builtin.Slice.slicePlaces;simp
 try omega
def Fv{sl:Addr}{n:Nat}{t:Tok}{Q:Int×Int×Nat->Shared->Prop}(hs:s.heap.IsSliceOf sl .none .none (.int (-1) t))(h:Q ((n:Int)-1,-1,n) s):wpAny (model prog w) A (Builtin.Slice.sliceApplied (.ref sl) (pure (n:Int))) Q E s:=by
 obtain⟨os,hos,hcs,hds⟩:=id hs;unfold Builtin.Slice.sliceApplied Builtin.Slice.sliceFields;refine wpAny_bind (wpAny_bind (wpAny_field hos hds (x:=.none) rfl (wpAny_bind (wpAny_field hos hds (x:=.none) rfl (wpAny_bind (wpAny_field hos hds (x:=.int (-1) t) rfl (wpAny_pure ?_)))))));refine wpAny_bind (slicePart_int ?_);show wpAny _ _ (if((-1:Int)==0)=true then _ else _) _ _ s;rw[if_neg (by decide)];refine wpAny_bind (slicePart_none (wpAny_bind (slicePart_none (wpAny_bind (wpAny_pure ?_)))));show wpAny _ _ (match Builtin.Slice.sliceAdjust none none (-1) (n:Int)with|(lo,hi)=>pure (lo,(-1:Int),Builtin.Slice.slicePlaces lo hi (-1))) _ _ s;rw[MH n];show wpAny _ _ (pure ((n:Int)-1,(-1:Int),Builtin.Slice.slicePlaces ((n:Int)-1) (-1) (-1))) _ _ s;rw[Ll];exact wpAny_pure h
def JZ{α β:Type}{f g:α->Option β}:∀{l:List α},(∀x∈l,f x=g x)->l.filterMap f=l.filterMap g
 |[],_=>rfl
 |x::l,h=>by rw[filterMap_cons,filterMap_cons,h x mem_cons_self,JZ λy hy=>h y (mem_cons_of_mem _ hy)]
def N6(xs:Array Value):((List.range xs.size).filterMap λ(m:Nat)=>xs[((xs.size:Int)-1+(m:Int)*(-1)).toNat]?).toArray=xs.toList.reverse.toArray:=by
 congr 1
 have e:(List.range xs.size).filterMap (λ(m:Nat)=>xs[((xs.size:Int)-1+(m:Int)*(-1)).toNat]?)=(List.range xs.toList.reverse.length).filterMap λi=>xs.toList.reverse[i]? := by
  rw[List.length_reverse,Array.length_toList];refine JZ λm hm=>?_;have hm:m<xs.size:=by simpa using hm
  rw[List.getElem?_reverse (by simpa using hm)];simp only[Array.length_toList,Array.getElem?_toList]
  congr 1
  omega
 rw[e];exact L2.pick_all _
def getItem_tuple_rev{t sl:Addr}{items:Array Value}{k:Tok}{Q:Value->Shared->Prop}(ht:IsTup s.heap t items)(hs:s.heap.IsSliceOf sl .none .none (.int (-1) k))(h:Q (.ref s.heap.objs.size) { s with heap:=s.heap.push { cls:=.type "tuple",data:=.seq items.toList.reverse.toArray } })(hsz:items.size<=sizeLine):wpAny (model prog w) A (getItem (.ref t) (.ref sl)) Q E s:=by
 have hsize:sizeOk (.seq items.toList.reverse.toArray):=by
  show items.toList.reverse.toArray.size<=sizeLine;simpa using hsz
 obtain⟨os,hos,hcs,hds⟩:=id hs;have hTs:s.TypeIs (.ref sl) "slice":=⟨os,hos,hcs⟩
 unfold getItem
 try with_reducible refine wpAny_holding ?_
 first|refine wpAny_bind (wpAny_pure ?_)|skip
 refine wpAny_bind (wpAny_sequenceKey ht.typeIs (by decide) ?_);refine wpAny_bind (wpAny_callSpecial?_slot (name:=Str.ofString "__getitem__") ht.typeIs PyProof.Rows.slot_tuple_getitem
  (wpAny_call_entry PyProof.Rows.slot_tuple_getitem ht.typeIs entry_tuple_getitem ?_ (args_tuple_getitem _ _)))
 show wpAny _ _ (Builtin.Tuple.tupleItemsOf (.ref t) >>= _) _ _ s;refine wpAny_bind (tupleItemsOf_ ht ?_);refine wpAny_bind (wpAny_typeOf hTs ?_);rw[if_pos (by decide)];refine wpAny_bind (Fv hs ?_);show wpAny _ _ (if((((items.size:Int)-1)==0&&(-1:Int)==1&&items.size==items.size)=true)then _ else _) _ _ s;rw[if_neg (by simp),N6]
 first
  |exact wpAny_bind (m:=Builtin.Tuple.tupleExact _) (wpAny_newObj_type (wpAny_pure ⟨_,rfl,wpAny_pure h⟩) hsize)
  |exact wpAny_bind (m:=Builtin.Tuple.tupleExact _) (wpAny_newObj_type (wpAny_bind (wpAny_pure (wpAny_pure ⟨_,rfl,wpAny_pure h⟩))) hsize)
  |exact wpAny_bind (wpAny_bind (m:=Builtin.Tuple.tupleExact _) (wpAny_newObj_type (wpAny_pure (wpAny_pure ⟨_,rfl,wpAny_pure h⟩)) hsize))
  |exact wpAny_bind (wpAny_bind (m:=Builtin.Tuple.tupleExact _) (wpAny_newObj_type (wpAny_pure ⟨_,rfl,wpAny_pure h⟩) hsize))
end
end HT
namespace L2
open PySem PySem.Spec PyProof.Rows
section
variable{X:Cx}{e stp:Expr}{te ts:TE}{pos p2:Pos}
def LG(K:PySem.W.Frag)(te ts:TE):TE:=λσ H Q=>te σ H λx H1=>ts σ H1 λy H2=>y=.int (-1)/\∃a xs,x=.ref a/\SqT K H2 a xs/\∀p,H2 p=none->Q (.ref p) (upd H2 p (.tup xs.reverse))
def SZ(he:PE X e te)(hs:PE X stp ts):PE X (.Subscript e (.Slice none none (some stp) p2) pos) (LG X.K te ts):=by
 intro pins s σ H Q I h;refine Subscript_ (thn (he pins s σ H _ I h) λv s1 ⟨x,H1,I1,r1,q1⟩=>?_);refine wpAny_Slice ?_;rw[evalPart_none];refine wpAny_pure (wpAny_pure ?_);rw[evalPart_some];refine thn (hs pins s1 σ H1 _ I1 q1) λvs s3 ⟨y,H3,I3,r3,q3⟩=>?_;obtain⟨rfl,a,xs,rfl,hx,q⟩:=q3;obtain⟨t,rfl⟩:=r3;cases r1;have I4:Inv X pins σ H3 { s3 with heap:=s3.heap.push { cls:=.type "slice",data:=.fields #[.none,.none,.int (-1) t] } }:=I3.kept (t':=s3.toks) λb ob q=>Heap.get?_push_of_some _ q;obtain⟨its,r,ht,hz⟩:=I4.tuple hx;have hlen:=r.length;have hg:wpAny (model X.prog X.w) X.A (getItem (.ref a) (.ref s3.heap.objs.size)) (EP X pins σ Q) X.xe { s3 with heap:=s3.heap.push { cls:=.type "slice",data:=.fields #[.none,.none,.int (-1) t] } }:=by
  refine HT.getItem_tuple_rev ht (Heap.IsSliceOf.new ..) ?_ (by rw[size_toArray]<;>omega);refine⟨.ref _,_,I4.laid (t':=s3.toks) (o:=.tup xs.reverse) (λb ob q=>Heap.get?_push_of_some _ q) (le_refl _) ?_,rfl,q _ (I4.hok.fresh (le_refl _))⟩;exact⟨by rw[List.length_reverse];exact hz,its.reverse,Fu r,IsTupD.new _ _⟩
 show wpAny (model X.prog X.w) X.A (subscriptTail e (.Slice none none (some stp) p2) (.ref a) (.ref s3.heap.objs.size)) (EP X pins σ Q) X.xe { s3 with heap:=s3.heap.push { cls:=.type "slice",data:=.fields #[.none,.none,.int (-1) t] } };exact tail_any (ops:=[.ref a,.ref s3.heap.objs.size]) ht.typeIs PyProof.Rows.slot_tuple_getitem.lookup hg (by with_unfolding_all rfl)
end
section
variable{K:PySem.W.Frag}{X:Cx}{e stp:Expr}{te ts:TE}{m ms:ME}{pos p2:Pos}
def Du(m ms:ME):ME:=λls hd=>(m ls hd).bind λp=>(ms ls p.2).bind λq=>match q.1 with
 |.im (.int i)=>if i=-1 then(A9 p.1).map λds=>(AD ds.reverse,q.2)else none
 |_=>none
def RU(h:RE K te m)(hs:RE K ts ms):RE K (LG K te ts) (Du m ms):=by
 and_intros;obtain⟨⟨d1,h1⟩,e1,hm⟩:=Yp hm;obtain⟨⟨d2,h2⟩,e2,hm⟩:=Yp hm;dsimp only at e2 hm;split at hm
 .split at hm
  .next hi=>
   obtain⟨ds,e3,e4⟩:=Yq hm;cases e4;subst hi;refine h ρ σ H hd ls _ d1 h1 hR hL e1 λρ1 H1 v1 x1 R1 r1=>?_;refine hs ρ1 σ H1 h1 ls _ _ _ R1 (hL.ext hR x1) e2 λρ2 H2 v x2 R2 r2=>?_;simp only[RD,RI]at r2;obtain⟨a,xs,rfl,q,r⟩:=(r1.ext R1 x2).tup e3;refine⟨r2,a,xs,rfl,q,λp hp=>?_⟩;obtain⟨R3,x3⟩:=R2.hid (ho:=.tup xs.reverse) hp;exact hQ ρ2 _ _ ((x1.trans R1 x2).trans R2 x3) R3 (Az (SqT.of AL) ((RDs.rev r).ext R2 x3))
  .cases hm
 .cases hm
def S8(h:QE K X e te m)(hs:QE K X stp ts ms)(hK:X.K=K:=by rfl):QE K X (.Subscript e (.Slice none none (some stp) p2) pos) (LG K te ts) (Du m ms):=by
 subst hK;exact⟨SZ h.p hs.p,RU h.r hs.r⟩
def KH{ls:Ls}{hd:Hd}{Q:D->Hd->Prop}(h:WE m ls hd λd x=>WE ms ls x λi y=>i=.im (.int (-1))/\∃ds,A9 d=some ds/\Q (AD ds.reverse) y):WE (Du m ms) ls hd Q:=by
 obtain⟨d,x,e1,i,y,e2,rfl,ds,e3,q⟩:=h;exact⟨_,_,by simp only[Du,e1,e2,bind_some,if_true,e3,map_some],q⟩
end
end L2
namespace L2
open PySem PySem.Spec PyProof.Rows PySem.W
def bt_str:bootBuiltins "str"=some (.type "str"):=by decide +kernel
def UN:List V->Hp->VK->Prop:=λxs H Q=>(∃i,xs=[.int i]/\i.natAbs.log2<1920/\Q (.str (toString i)) H)∨(∃k,xs=[.bl k]/\Q (.str (if k then "True" else "False":Str)) H)∨(xs=[.non]/\Q (.str "None") H)
def Pk{X:Cx}:CallR X (.type "str") UN:=by
 intro pins s σ H xs us Q I r h;rcases h with⟨i,rfl,hi,q⟩|⟨k,rfl,q⟩|⟨rfl,q⟩
 .obtain⟨u,rfl,ru⟩:=BY r;obtain⟨t,rfl⟩:=ru;exact PySem.P.str_of_int hi ⟨.str (toString i),H,I.tok _,⟨_,rfl⟩,q⟩
 .obtain⟨u,rfl,ru⟩:=BY r;cases ru;exact PySem.P.str_of_bool ⟨.str (if k then "True" else "False":Str),H,I.tok _,⟨_,rfl⟩,q⟩
 .obtain⟨u,rfl,ru⟩:=BY r;cases ru;exact PySem.P.str_of_none ⟨.str "None",H,I.tok _,⟨_,rfl⟩,q⟩
open Classical in
def Dj:List D->Hd->Option (D×Hd)
 |[.im (.int i)],hd=>if i.natAbs.log2<1920 then some (.im (.str (toString i)),hd)else none
 |[.im (.bl k)],hd=>some (.im (.str (if k then "True" else "False":Str)),hd)
 |[.im .non],hd=>some (.im (.str "None"),hd)
 |_,_=>none
def U2{K:PySem.W.Frag}:RF K UN Dj:=by
 intro ρ H hd ds vs Q z hd' hR h1 hf hQ;unfold Dj at hf;split at hf
 .split at hf
  .next c=>
   cases hf;simp only[RDs,RD,RI]at h1;obtain⟨x,r,rfl,rfl,rfl⟩:=h1;exact .inl ⟨_,rfl,c,hQ ρ H _ .refl hR (by simp[RD,RI])⟩
  .cases hf
 .cases hf;simp only[RDs,RD,RI]at h1;obtain⟨x,r,rfl,rfl,rfl⟩:=h1;exact .inr (.inl ⟨_,rfl,hQ ρ H _ .refl hR (by simp[RD,RI])⟩)
 .cases hf;simp only[RDs,RD,RI]at h1;obtain⟨x,r,rfl,rfl,rfl⟩:=h1;exact .inr (.inr ⟨rfl,hQ ρ H _ .refl hR (by simp[RD,RI])⟩)
 .cases hf
section
variable{hd:Hd}{QE:D->Hd->Prop}
def KD{i:Int}(h:i.natAbs.log2<1920)(q:QE (.im (.str (toString i))) hd):WP (Dj [.im (.int i)] hd) QE:=⟨_,_,by simp[Dj,h],q⟩
def QL{k:Bool}(q:QE (.im (.str (if k then "True" else "False":Str))) hd):WP (Dj [.im (.bl k)] hd) QE:=⟨_,_,rfl,q⟩
end
def N0:List V->Hp->VK->Prop:=λxs H Q=>∃k,xs=[.bl k]/\Q (.str (if k then "True" else "False":Str)) H
def MB{X:Cx}:CallR X (.builtin "repr") N0:=by
 intro pins s σ H xs us Q I r h;obtain⟨k,rfl,q⟩:=h;obtain⟨u,rfl,ru⟩:=BY r;cases ru;exact PySem.P.repr_of_bool ⟨.str (if k then "True" else "False":Str),H,I.tok _,⟨_,rfl⟩,q⟩
def D2:List D->Hd->Option (D×Hd)
 |[.im (.bl k)],hd=>some (.im (.str (if k then "True" else "False":Str)),hd)
 |_,_=>none
def Oh{K:PySem.W.Frag}:RF K N0 D2:=by
 intro ρ H hd ds vs Q z hd' hR h1 hf hQ;unfold D2 at hf;split at hf
 .cases hf;simp only[RDs,RD,RI]at h1;obtain⟨x,r,rfl,rfl,rfl⟩:=h1;exact⟨_,rfl,hQ ρ H _ .refl hR (by simp[RD,RI])⟩
 .cases hf
def Iq{hd:Hd}{QE:D->Hd->Prop}{k:Bool}(q:QE (.im (.str (if k then "True" else "False":Str))) hd):WP (D2 [.im (.bl k)] hd) QE:=⟨_,_,rfl,q⟩
end L2
namespace L2
open PySem PySem.W
def tg1:Expr->List Str
 |.Name x _=>[x]
 |_=>[]
def tg2:Expr->List Str
 |.Tuple es _ _=>es.flatMap tg1
 |e=>tg1 e
def tgN:Expr->List Str
 |.Tuple es _ _=>es.flatMap tg2
 |e=>tg1 e
def frN(X:Cx)(ix:List Nat):List Str:=ix.filterMap λi=>X.N[i]?
def ndB:List Str->Bool
 |[]=>true
 |x::xs=>!xs.elem x&&ndB xs
def DZ:∀{l:List Str},ndB l=true->l.Nodup
 |[],_=>List.nodup_nil
 |x::xs,h=>by
  obtain⟨h1,h2⟩:=Bool.and_eq_true_iff.mp h;refine nodup_cons.mpr ⟨λhm=>?_,DZ h2⟩;rw[List.elem_eq_true_of_mem hm]at h1;cases h1
section
variable{K:PySem.W.Frag}{X:Cx}{elt tg iter tg' iter' e:Expr}{ifs ifs':List Expr}{scope:Scope}{pos spos py:Pos}{ix:List Nat}{wi wi':TI}{g g':TG}{tf tf':TT}{te tk tv:TE}{mi mi':MI}{n n':MG}{mf mf':MT}{me mk mv:ME}{k i:Nat}{x y:Str}
def qgA(hN:ndB X.N=true:=by kernel_rfl)(hi:X.N[i]?=some x:=by rfl)(hx:Loc X.env.scope x:=by first|exact Or.inl rfl|exact Or.inr rfl)(hf:X.fn x=true∨X.env.scope.names.lookup x=some .local:=by first|exact .inl rfl|exact .inr rfl):QG K X (.Name x pos) (Ct i) (AU i):=S7 K (DZ hN) hi hx hf
def qnA(hi:QI K X tg iter wi mi)(hg:∀s H ex,QG K (cCx X (tgN tg++frN X ix) scope s H ex) tg g n)(hf:∀s H ex,QF K (cCx X (tgN tg++frN X ix) scope s H ex) ifs tf mf)(he:∀s H ex,QE K (cCx X (tgN tg++frN X ix) scope s H ex) elt te me)
 (hc:X.calm=true:=by rfl) (S:CSc X scope (frN X ix) ix:=by exact⟨rfl,by decide +kernel,rfl,rfl,rfl,by decide +kernel⟩) (hs:∀x,foldedSetIterable iter X.env x=pure x:=by intro _;rfl) (hk:(tgN tg).length=k:=by rfl):
 QN K X (.ListComp elt [⟨tg,iter,ifs,0⟩] scope pos) (Ed k ix wi g tf te) (BU k ix mi n mf me):=by
 subst hk;exact S2 K hc S hi hg hf he hs
def XJ(hi:QI K X tg iter wi mi)(hg:∀s H ex,QG K (cCx X (tgN tg++frN X ix) scope s H ex) tg g n)(hf:∀s H ex,QF K (cCx X (tgN tg++frN X ix) scope s H ex) ifs tf mf)(he:∀s H ex,QE K (cCx X (tgN tg++frN X ix) scope s H ex) elt te me)
 (hsw:swapsWith (.ListComp elt [⟨tg,iter,ifs,0⟩] scope pos) (some (.Name y py)) spos.line X.env=pure true:=by rfl) (hN:ndB X.N=true:=by kernel_rfl) (hiN:X.N[i]?=some y:=by rfl) (hy:X.env.scope.names.lookup y=some .local:=by rfl)
 (hc:X.calm=true:=by rfl) (S:CSc X scope (frN X ix) ix:=by exact⟨rfl,by decide +kernel,rfl,rfl,rfl,by decide +kernel⟩) (hs:∀x,foldedSetIterable iter X.env x=pure x:=by intro _;rfl) (hk:(tgN tg).length=k:=by rfl):
 QS K X (.Assign [.Name y py] (.ListComp elt [⟨tg,iter,ifs,0⟩] scope pos) spos) (Dz (Ed k ix wi g tf te) (Ct i)) (AG i (AY (BU k ix mi n mf me))):=by
 subst hk;exact Rq K (DZ hN) hiN hy hc S hi hg hf he hsw hs
def qsA{pos':Pos}(he:QE K X e te me)(hs:swapsWith e (some (.Name x pos')) pos.line X.env=pure false:=by rfl)(hN:ndB X.N=true:=by kernel_rfl)(hi:X.N[i]?=some x:=by rfl)(hx:Loc X.env.scope x:=by first|exact Or.inl rfl|exact Or.inr rfl)(hf:X.fn x=true∨X.env.scope.names.lookup x=some .local:=by first|exact .inl rfl|exact .inr rfl):
 QS K X (.Assign [.Name x pos'] e pos) (Dz te (Ct i)) (AG i me):=UU K (DZ hN) hi hx he hs hf
end
end L2
namespace L2
open PySem PySem.Spec PyProof.Rows PySem.W
abbrev Tb:=Addr×Str×Nat×Nat
def Sx(ts:List Tb):Obj:={ cls:=.str "tables" 0,data:=.fields (ts.flatMap λt=>[.ref t.1,.str t.2.1 0,.int t.2.2.1 0,.int t.2.2.2 0]).toArray }
def BF(K:PySem.W.Frag)(ts:List Tb):PySem.W.Frag:=(K.filter λp=>!(ts.map (·.1)).contains p.1)++[(mainGlobals,Sx ts)]
def Mc:∀ts:List Tb,IY (ts.flatMap λt=>[Value.ref t.1,.str t.2.1 0,.int t.2.2.1 0,.int t.2.2.2 0])=ts.map λt=>(t.1,t.2.1,⟨t.2.2.1,t.2.2.2,0,0⟩)
 |[]=>rfl
 |t::r=>by
  rw[List.flatMap_cons,map_cons,<- Mc r];rfl
def Mb(K:PySem.W.Frag)(ts:List Tb):GV (BF K ts)=ts.map λt=>(t.1,t.2.1,⟨t.2.2.1,t.2.2.2,0,0⟩):=by
 unfold GV BF;rw[List.getLast?_concat];show IY _=_;rw[<- Mc ts]
def E5{L:List Addr}{a:Addr}(ha:a∉L):∀K:PySem.W.Frag,(K.filter λp=>!L.contains p.1).lookup a=K.lookup a
 |[]=>rfl
 |(b,o)::r=>by
   have ih:=E5 ha r;rw[List.filter_cons];by_cases hb:b∈L
   .have h1:(!L.contains (b,o).1)=false:=by simp[hb]
    have h2:(a==b)=false:=beq_eq_false_iff_ne.mpr λz=>ha (z ▸ hb);rw[if_neg (by rw[h1];decide),lookup_cons,h2,ih]
   .have h1:(!L.contains (b,o).1)=true:=by simp[hb]
    rw[if_pos h1,lookup_cons,lookup_cons,ih]
def FG{L:List Addr}{P:Addr}(hP:P∈L):∀K:PySem.W.Frag,(K.filter λp=>!L.contains p.1).lookup P=none
 |[]=>rfl
 |(b,o)::r=>by
   have ih:=FG hP r;rw[List.filter_cons];by_cases hb:b∈L
   .rw[if_neg (by simp[hb])];exact ih
   .have h2:(P==b)=false:=beq_eq_false_iff_ne.mpr λz=>hb (z ▸ hP);rw[if_pos (by simp[hb]),lookup_cons,h2];exact ih
section
variable{K:PySem.W.Frag}{ts:List Tb}
def FC{a:Addr}{o:Obj}(ha:a∉ts.map (·.1))(e:K.lookup a=some o):(BF K ts).lookup a=some o:=by
 unfold BF;rw[lookup_append,E5 ha,e];rfl
def Sw{h:Heap}(X:K.In h){g:Obj}(hg:K.lookup mainGlobals=some g)(hP:mainGlobals∉ts.map (·.1)):(BF K ts).In h:=λa o e=>by
 unfold BF at e;rw[lookup_append]at e;by_cases ha:a∈ts.map (·.1)
 .rw[FG ha,none_or]at e;have h2:(a==mainGlobals)=false:=beq_eq_false_iff_ne.mpr λz=>hP (z ▸ ha);rw[lookup_cons,h2]at e;cases e
 .rw[E5 ha]at e;cases k:K.lookup a with
  |some o'=>rw[k]at e;cases e;exact X _ _ k
  |none=>
   rw[k,none_or,lookup_cons]at e;by_cases hm:a=mainGlobals
   .subst hm;rw[hg]at k;cases k
   .rw[beq_eq_false_iff_ne.mpr hm]at e;cases e
def Sv(hM:mainGlobals∉ts.map (·.1)){P:Addr}(hP:P∈ts.map (·.1)):(BF K ts).lookup P=none:=by
 unfold BF;have h2:(P==mainGlobals)=false:=beq_eq_false_iff_ne.mpr λz=>hM (z ▸ hP);rw[lookup_append,FG hP,none_or,lookup_cons,h2];rfl
def Fun.mark{x qual:Str}{st:Stmt}{f:Addr}{fd:FuncData}(D:Fun K x qual st f fd){h:Heap}(X:K.In h)(hP:∀P∈ts.map (·.1),h.get? P=some (tabObj #[])):Fun (BF K ts) x qual st f fd:=by
 have neP:∀a o,K.lookup a=some o->o≠tabObj #[]->a∉ts.map (·.1):=λa o e n z=>by
  have:=X _ _ e;rw[hP a z]at this;exact n (Option.some.inj this).symm
 obtain⟨⟨oc,od,kV,doc,pm,an,cdv,ct,osl,rfl,lk,hcd⟩,kp⟩:=D;have hf:f∉ts.map (·.1):=neP f _ lk (λz=>by cases z);refine⟨⟨oc,od,kV,doc,pm,an,cdv,ct,osl,rfl,FC hf lk,?_⟩,?_⟩
 .unfold codeIn at hcd ⊢;split at hcd
  .next c0=>
   split at hcd
   .next vs sl k=>
    have hc:c0∉ts.map (·.1):=neP c0 _ k (λz=>by
     have:vs=#[]:=by injection z with _ _ z _;injection z
     rw[this]at hcd;cases hcd)
    simp only[FC hc k];exact hcd
   .cases hcd
  .cases hcd
 .unfold keepIn;simp only[FC hf lk]
end
def WW{K:PySem.W.Frag}{H:Hp}{a:Addr}{xs:List V}(hS:SqL K H a xs)(hO:∀ys,H a≠some (.lst ys)):RoL K H a xs:=by
 rcases hS with(h|h)|h
 .exact absurd h (hO xs)
 .exact .inl h
 .exact .inr h
def NT{Pg:Program}{w:World}{K:PySem.W.Frag}{mg mb:Str->Option Value}{k:Nat}{fa a:Addr}{fd:FuncData}{x:Str}{ts:List Tb}{s₁:Shared}{vs:List Value}{ns:List Int}{F:List D->Hd->Option (D×Hd)}
 (KX:K.In s₁.heap) (hns:s₁.heap.Ns mainGlobals mg) (hb:s₁.heap.Ns builtinsNs mb) (hbb:∀x:Str,x≠"__name__"->mb x=bootBuiltins x) (hlim:s₁.heap.NoLimit) (hg:s₁.gens=#[])
 (ha:s₁.heap.get? a=some { cls:=.type "list",data:=.seq vs.toArray }) (hi:IntsAre vs ns) (hl:ns.length<=sizeLine) (hr:Room k callerA)
 (hT:∀P∈ts.map (·.1),∃cc,s₁.heap.TableAt cc P #[]) (hPK:∀P∈ts.map (·.1),K.lookup P=none) (htab:GV K=ts.map λt=>(t.1,t.2.1,⟨t.2.2.1,t.2.2.2,0,0⟩))
 (Fn:∀base:Heap,K.In base->base.Ns mainGlobals mg->(∀b o,b∉ts.map (·.1)->b≠a->s₁.heap.get? b=some o->base.get? b=some o)->FnOk Pg w K mg base CX0 k fa fd [x] (spF K 1 F)) (hbind:∀(s:Shared) (u:Value),BindsTo s fd ⟨[u],[]⟩ [(x,u)])
 (hF:∃hd',F [.ro ns] []=some (.im (.bl true),hd')):
 codeAny (model Pg w) callerA (.call (.ref fa) ⟨[.ref a],[]⟩) (λr s'=>r=.ok (.ret (.bool true))/\OldK s₁.heap s'.heap/\s'.os=s₁.os/\AllBare s'.gens) s₁:=by
 have rv:=Hv hi;have lenV:=hi.length;have hP:∀P∈ts.map (·.1),s₁.heap.get? P=some (tabObj #[]):=λP h=>let ⟨cc,t⟩:=hT P h;t.2
 have haP:a∉ts.map (·.1):=λz=>by rw[hP a z]at ha;cases ha
 have core:∀H:Hp,(∀b,b∉ts.map (·.1)->H b=none∨∃o xs,H b=some (.frz o (.lst xs)))->(∀P∈ts.map (·.1),H P=some (.tbl #[]))->SqL K H a (ns.map V.int)->HOk Pg w H s₁.heap->(∀b,H b≠none->b=a∨b∈ts.map (·.1))->(H a≠none->K.lookup a=none) ->
  codeAny (model Pg w) callerA (.call (.ref fa) ⟨[.ref a],[]⟩) (λr s'=>r=.ok (.ret (.bool true))/\OldK s₁.heap s'.heap/\s'.os=s₁.os/\AllBare s'.gens) s₁:=by
  intro H hO hHP hS hok hA hK;have base_of:∀{b:Addr} {o:Obj},s₁.heap.get? b=some o->H b=none->(Eo s₁.heap H).get? b=some o:=λe n=>PZ e n;have noA:∀{b:Addr} {o:Obj} {es:Array DictEntry} {ep:Nat},s₁.heap.get? b=some o->o.data=.dict es ep->H b=none:=λ{b o es ep} e d=>by
   cases q:H b with
   |none=>rfl
   |some u=>
    rcases hA b (by rw[q];simp)with e'|e'
    .subst e';rw[ha]at e;cases e;have d':Data.seq vs.toArray _=Data.dict es ep:=d;cases d'
    .rw[hP b e']at e;cases e;cases d
  have nsK:∀{b:Addr} {m:Str->Option Value},s₁.heap.Ns b m->(Eo s₁.heap H).Ns b m:=λ{b m} ⟨o,es,ep,e,d,r⟩=>⟨o,es,ep,base_of e (noA e d),d,r⟩
  have hKb:K.In (Eo s₁.heap H):=λb o e=>base_of (KX b o e) (by
   cases q:H b with
   |none=>rfl
   |some u=>
    rcases hA b (by rw[q];simp)with e'|e'
    .subst e';rw[hK (by rw[q];simp)]at e;cases e
    .rw[hPK b e']at e;cases e)
  have hM:Mod K mg (Eo s₁.heap H):=⟨hKb,nsK hns,⟨mb,nsK hb,hbb⟩,let ⟨mc,h1,h2⟩:=hlim;⟨mc,nsK h1,h2⟩⟩
  have e0:Env0 Pg w K mg (Eo s₁.heap H) callerA [] s₁ H:=⟨rfl,hM,λb o e=>Sq e,Nat.le_of_eq (NY _ _),trivial,λb hb=>absurd (show b∈([]:List Addr)from hb) (by simp),hok,.of_eq hg⟩
  have hsp:spF K 1 F [.ref a] H (λv _=>v=.bl true) λ_ _ _=>False:=by
   obtain⟨hd',e⟩:=hF;refine⟨rfl,[],[],[.ro ns],.im (.bl true),hd',⟨rfl,List.nodup_nil,λy hy=>?_,λn o a h=>by simp at h⟩,?_,e,λρ' H' v _ _ r=>?_⟩
   .rw[htab]at hy;obtain⟨t,ht,rfl⟩:=mem_map.mp hy;exact⟨#[],hHP t.1 (mem_map.mpr ⟨t,ht,rfl⟩),.inl rfl⟩
   .simp only[RDs,RD];refine⟨_,_,rfl,⟨a,rfl,WW hS λys z=>?_⟩,rfl⟩;rcases hO a haP with q|⟨o,ys,q⟩<;>(rw[q]at z;cases z)
   .simpa only[RD,RI]using r
  refine codeAny_mono ((Fn _ hKb (nsK hns) λb o n1 n2 e=>base_of e (by
   cases q:H b with
   |none=>rfl
   |some u=>
    rcases hA b (by rw[q];simp)with e'|e'
    .exact absurd e' n2
    .exact absurd e' n1)).run callerA [] s₁ H ⟨[.ref a],[]⟩ [.ref a] [.ref a] _ _ hr e0 (hbind s₁ (.ref a)) (.cons rfl .nil) hsp) λr s' h=>?_
  cases r with
  |error e=>exact h.elim
  |ok fl=>
   cases fl with
   |next=>exact False.elim h
   |brk=>exact False.elim h
   |cont=>exact False.elim h
   |ret u=>
    obtain⟨v,H',os,bare,un,hok',r',q⟩:=h;have q':v=.bl true:=q;subst q';obtain rfl:u=Value.bool true:=r';have keep:∀b o,b∉ts.map (·.1)->s₁.heap.get? b=some o->s'.heap.get? b=some o:=λb o nb e=>by
     cases q:H b with
     |none=>exact un.keep b o e q (by intro z;exact absurd (show b∈([]:List Addr)from z) (by simp)) (by simp)
     |some u=>
      rcases hO b nb with z|⟨ob,xs,z⟩
      .rw[q]at z;cases z
      .have z2:=un.frzs b ob _ z;obtain⟨e1,_⟩:=hok b _ z;obtain⟨e2,_⟩:=hok' b _ z2;rw[e]at e1;cases e1;exact e2
    refine⟨rfl,⟨λb o e=>?_,λb o e=>?_⟩,os,bare⟩
    .by_cases nb:b∈ts.map (·.1)
     .obtain⟨cc,tb⟩:=hT b nb;obtain⟨more,hm⟩:=un.tbls b #[] (hHP b nb);have hb':s'.heap.get? b=some (tabObj (#[]++more)):=hok' b _ hm;rw[hP b nb]at e;cases e;exact .inr (.inl ⟨tb.isCodeTable,rfl,#[],more,rfl,hb'⟩)
     .exact .inl (keep b o nb e)
    .by_cases nb:b∈ts.map (·.1)
     .obtain⟨more,hm⟩:=un.tbls b #[] (hHP b nb);exact⟨_,hok' b _ hm⟩
     .exact⟨o,keep b o nb e⟩
 cases hk:K.lookup a with
 |some o=>
  have e:=KX a o hk;rw[ha]at e;cases e;refine core (λb=>if b∈ts.map (·.1)then some (.tbl #[])else none) (λb nb=>.inl (if_neg nb)) (λP hp=>if_pos hp) (.inr ⟨_,vs.toArray,_,hk,rfl,rfl,rfl,by rw[size_toArray,lenV];exact hl,by simpa using rv⟩) (λb u z=>?_) (λb z=>?_) λz=>absurd (if_neg haP) z
  .by_cases hb:b∈ts.map (·.1)
   .have z':=(if_pos hb).symm.trans z;cases z';exact hP b hb
   .have z':=(if_neg hb).symm.trans z;cases z'
  .by_cases hb:b∈ts.map (·.1)
   .exact .inr hb
   .exact absurd (if_neg hb) z
 |none=>
  refine core (λb=>if b∈ts.map (·.1)then some (.tbl #[])else if b=a then some (.frz { cls:=.type "list",data:=.seq vs.toArray } (.lst (ns.map V.int)))else none) (λb nb=>?_) (λP hp=>if_pos hp) (.inl (.inr ⟨{ cls:=.type "list",data:=.seq vs.toArray },(if_neg haP).trans (if_pos rfl)⟩)) (λb u z=>?_) (λb z=>?_) λ_=>hk
  .rw[if_neg nb];by_cases hb:b=a
   .exact .inr ⟨_,_,if_pos hb⟩
   .exact .inl (if_neg hb)
  .by_cases hp:b∈ts.map (·.1)
   .have z':=(if_pos hp).symm.trans z;cases z';exact hP b hp
   .have z:=(if_neg hp).symm.trans z;by_cases hb:b=a
    .have z':=(if_pos hb).symm.trans z;cases z';subst hb;exact⟨ha,by rw[length_map];exact hl,vs,_,rv,ha⟩
    .have z':=(if_neg hb).symm.trans z;cases z'
  .by_cases hp:b∈ts.map (·.1)
   .exact .inr hp
   .by_cases hb:b=a
    .exact .inl hb
    .exact absurd ((if_neg hp).trans (if_neg hb)) z
def walkL{l:PySem.W.OpenLaw}{n k:Nat}{q:Program}{loose:List Str}{XP:(Str->Option Value)->Heap->Prop}{YP:World->Heap->Prop}{d:DefRec}{K:Params->PySem.W.Frag}{F:List D->Hd->Option (D×Hd)}(xs:List (Str×Str×Nat×Nat))
 (hn:l.most=some n) (hn2:n<=sizeLine) (hdf:d.params.defaults=[]) (hr:Room k callerA) (hdr:∀x∈xs,∃dr,(recsOf q).find? (λe=>e.name==x.1)=some dr)
 (hF:∀ns:List Int,∃hd',F [.ro ns] []=some (.im (.bl true),hd'))
 (hY:∀(w:World) (h:Heap),YP w h->(K w.params).In h)
 (G:∀(w:World) (mg:Str->Option Value) (fa:Addr) (h:Heap) (c P:Str->Addr),(K w.params).In h->h.Ns mainGlobals mg->mg d.name=some (.ref fa) ->
  (∀x∈xs,h.get? (P x.1)=some (tabObj #[])/\CodeHd h (c x.1) (P x.1)/\∃a o fd,mg x.1=some (.ref a)/\h.get? a=some o/\o.data=.func fd/\fd.code=.ref (c x.1)) ->
  (∃g,(K w.params).lookup mainGlobals=some g)/\∃fd:FuncData,(∀(s:Shared) (u:Value),BindsTo s fd ⟨[u],[]⟩ [("_law_script",u)])/\
   ∀base:Heap,(BF (K w.params) (xs.map λx=>(P x.1,x.2))).In base->base.Ns mainGlobals mg->(∀x∈xs,CodeHd base (c x.1) (P x.1))->(∀x∈xs,base.BuiltinsAt mg (P x.1))->FnOk l.prog w (BF (K w.params) (xs.map λx=>(P x.1,x.2))) mg base CX0 k fa fd ["_law_script"] (spF (BF (K w.params) (xs.map λx=>(P x.1,x.2))) 1 F)):
 PySem.W.WalkO q loose XP YP l.row.toRowW d [] (λf vs=>PySem.call f vs):=by
 refine Att.attach_call hn hdf λw s₀ s₁ mg mb fa o pm cd doc a vs ns Gr Y ho hd hcd hmg hobj hints hlen hg=>?_;have KX:=hY w _ Y;have each:∀x:Str,∃cp:Addr×Addr,(∃y∈xs,y.1=x)->(∃cc,s₁.heap.TableAt cc cp.2 #[])/\CodeHd s₁.heap cp.1 cp.2/\∃a o fd,mg x=some (.ref a)/\s₁.heap.get? a=some o/\o.data=.func fd/\fd.code=.ref cp.1:=by
  intro x;by_cases hx:∃y∈xs,y.1=x
  .obtain⟨y,hy,rfl⟩:=hx;obtain⟨dr,hdr⟩:=hdr y hy;have hnm:dr.name=y.1:=beq_iff_eq.mp (List.find?_some (p:=λe:DefRec=>e.name==y.1) hdr);obtain⟨a',o',fd',c,P,h1,h2,h3,h4,h5,h6⟩:=Gr.T.tab dr (List.mem_of_find?_eq_some hdr);rw[hnm]at h1;exact⟨(c,P),λ_=>⟨⟨_,h6⟩,CodeHd.of h5 h6,a',o',fd',h1,h2,h3,h4⟩⟩
  .exact⟨(0,0),λh=>absurd h hx⟩
 obtain⟨cp,hcp⟩:=Classical.skolem.mp each;have hcp:∀x∈xs,(∃cc,s₁.heap.TableAt cc (cp x.1).2 #[])/\CodeHd s₁.heap (cp x.1).1 (cp x.1).2/\∃a o fd,mg x.1=some (.ref a)/\s₁.heap.get? a=some o/\o.data=.func fd/\fd.code=.ref (cp x.1).1:=λx hx=>hcp x.1 ⟨x,hx,rfl⟩;have hts:∀P∈(xs.map λx=>((cp x.1).2,x.2)).map (·.1),∃x∈xs,P=(cp x.1).2:=λP hP=>by
  obtain⟨t,ht,rfl⟩:=mem_map.mp hP;obtain⟨x,hx,rfl⟩:=mem_map.mp ht;exact⟨x,hx,rfl⟩
 have hP:∀x∈xs,s₁.heap.get? (cp x.1).2=some (tabObj #[]):=λx hx=>by
  obtain⟨⟨cc,t⟩,_⟩:=hcp x hx;exact t.2
 have hmP:mainGlobals∉(xs.map λx=>((cp x.1).2,x.2)).map (·.1):=λz=>by
  obtain⟨x,hx,ez⟩:=hts _ z;obtain⟨o,es,ep,e,dd,_⟩:=Gr.T.g;rw[ez,hP x hx]at e;cases e;cases dd
 obtain⟨⟨g,hgl⟩,fd,hb,hFn⟩:=G w mg fa _ (λx=>(cp x).1) (λx=>(cp x).2) KX Gr.T.g hmg λx hx=>⟨hP x hx,(hcp x hx).2⟩
 refine NT (ts:=xs.map λx=>((cp x.1).2,x.2)) (K:=BF (K w.params) (xs.map λx=>((cp x.1).2,x.2))) (Sw KX hgl hmP) Gr.T.g Gr.T.b Gr.T.builtins Gr.T.nolimit hg hobj hints (le_trans hlen hn2) hr (λP hp=>by obtain⟨x,hx,rfl⟩:=hts P hp;exact(hcp x hx).1) (λP hp=>Sv hmP hp) (Mb _ _) (λbase kb nb keep=>hFn base kb nb (λx hx=>?_) λx hx=>?_) hb (hF ns)
 .obtain⟨oc,vs',file,tf,flags,tg,inF,text,tt,e1,r1,r2,r3,r4,r5,r6,r7,r8,hne⟩:=(hcp x hx).2.1;have hn:(cp x.1).1∉(xs.map λx=>((cp x.1).2,x.2)).map (·.1):=λz=>by
   obtain⟨y,hy,ez⟩:=hts _ z;rw[ez,hP y hy]at e1;cases e1;cases r1
  exact⟨oc,vs',file,tf,flags,tg,inF,text,tt,keep (cp x.1).1 oc hn (λz=>by rw[z,hobj]at e1;cases e1;exact absurd (show Value.type "list"=Value.type "code" from r1) (by decide)) e1,r1,r2,r3,r4,r5,r6,r7,r8,hne⟩
 .obtain⟨bm,ob,b1,b2,b3,b4,b5,b6⟩:=Gr.T.bmain;have nP:∀y∈xs,bm≠(cp y.1).2:=λy hy z=>by rw[z,hP y hy]at b3;cases b3;cases b4
  have hn:bm∉(xs.map λx=>((cp x.1).2,x.2)).map (·.1):=λz=>by
   obtain⟨y,hy,ez⟩:=hts _ z;exact nP y hy ez
  refine⟨bm,ob,b1,b2,λz=>?_,nP x hx,keep bm ob hn (λz=>by rw[z,hobj]at b3;cases b3;exact absurd (show Value.type "list"=Value.type "module" from b4) (by decide)) b3,b4,b5,b6⟩;obtain⟨o,es,ep,e,dd,_⟩:=Gr.T.g;rw[<- z,b3]at e;cases e;rw[b6]at dd;cases dd
end L2
namespace L2
open PySem PySem.W PyProof.Rows
abbrev FD:=List D->Hd->Option (D×Hd)
structure EnK where
 P:Program
 w:World
 K:PySem.W.Frag
 mg:Str->Option Value
 base:Heap
structure Df where
 x:Str
 st:Stmt
 ps:List Str
 k:Nat
 F:FD
def Dn(E:EnK)(e:Df):Prop:=∃f fd,DefAt E.K E.mg e.x e.st f fd e.ps
def Kn(E:EnK)(e:Df):Prop:=∃f fd,DefAt E.K E.mg e.x e.st f fd e.ps/\FnOk E.P E.w E.K E.mg E.base CX0 e.k f fd e.ps (spF E.K e.ps.length e.F)/\∀ds hd z,e.F ds hd=some z->ds.length=e.ps.length
def okK{E:EnK}{x:Str}{st:Stmt}{ps N:List Str}{j k:Nat}{m:MS}{F:FD}(D:Dn E ⟨x,st,ps,k,F⟩)(S:FnScope N ps (AM st))(hF:F=mkF ps.length N.length m)(hk:k=j+1)
 (h:∀(f:Addr) (cdv:Value) (A:Around) (outer:List Env) (s:Shared) (H:Hp) (Ek:XK),Room j (A.deeper (envOfC x (AM st) s.heap.objs.size f cdv))->∃t,QSs E.K (FQ CX0 E.P E.w E.K E.mg E.base N x (AM st) f cdv A outer s H Ek).nox (BK st) t m):Kn E ⟨x,st,ps,k,F⟩:=by
 obtain⟨f,fd,D⟩:=D;subst hF;subst hk;exact⟨f,fd,D,Sn D S (h f),Su⟩
def ok0{E:EnK}{x:Str}{st:Stmt}{ps:List Str}{k k':Nat}{F:FD}(D:Dn E ⟨x,st,ps,k',F⟩):Kn E ⟨x,st,ps,k,λ_ _=>none⟩:=by
 obtain⟨f,fd,D⟩:=D;refine⟨f,fd,D,⟨λvs H Q E h=>h.1,λA outer s H args us vs Q E hr e0 hb hv h=>?_⟩,λ_ _ _ h=>nomatch h⟩;obtain⟨_,_,_,_,_,_,_,_,e,_⟩:=h;cases e
section
variable{K:PySem.W.Frag}{X:Cx}{e:Expr}{es:List Expr}{t:TA}{m:MA}{x:Str}{j k:Nat}{ps:List Str}{F:FD}{st:Stmt}{p pos:Pos}
def qcW(w:Nat)(G:Kn ⟨X.prog,X.w,X.K,X.mg,X.base⟩ ⟨x,st,ps,j,F⟩)(hr:Room k X.A)(ha:QA K X (e::es) t m)
 (hjk:j<=k:=by first|decide|omega) (hg:Gl X x:=by rfl) (hdb:(x==("__debug__":Str))=false:=by decide) (he:starEach (e::es) X.env=(false,eval e X.env)::starEach es X.env:=by rfl) (hpl:(backTo pos (starEach es X.env)).any (·.1)=false:=by rfl) (hK:X.K=K:=by rfl):
 QE K X (.Call (.Name x p) (e::es) [] pos) (Dr (spF K ps.length F) [] E0 t) (A6 w F m):=by
 subst hK;obtain⟨f,fd,D,G,l⟩:=G;exact P2 _ w G hr D ha l hjk hg hdb he hpl
def qcG(G:Kn ⟨X.prog,X.w,X.K,X.mg,X.base⟩ ⟨x,st,ps,j,F⟩)(hr:Room k X.A)(ha:QA K X (e::es) t m)
 (hjk:j<=k:=by first|decide|omega) (hg:Gl X x:=by rfl) (hdb:(x==("__debug__":Str))=false:=by decide) (he:starEach (e::es) X.env=(false,eval e X.env)::starEach es X.env:=by rfl) (hpl:(backTo pos (starEach es X.env)).any (·.1)=false:=by rfl) (hK:X.K=K:=by rfl):
 QE K X (.Call (.Name x p) (e::es) [] pos) (Dr (spF K ps.length F) [] E0 t) (Am F m):=by
 subst hK;obtain⟨f,fd,D,G,l⟩:=G;exact P3 _ G hr D ha l hjk hg hdb he hpl
variable{c P:Addr}{scope:Scope}{ix:List Nat}{params:Arguments}{body:Expr}{lpos kpos:Pos}{te tb:TE}{mi mb:ME}{fd:FuncData}{cdv:Value}{q:Str}
end
def FnAt(K:PySem.W.Frag)(n:Str)(s:Stmt)(f:Addr)(cd:Value):Prop:=∃oc kV dc pm ct od an sl,PySem.W.nsIn K mainGlobals n=some (some (.ref f))/\K.lookup f=some ⟨oc,od,.func (PySem.W.fnOf n n (C4 s) (BK s) (AM s) .none kV dc pm an cd ct),sl⟩/\PySem.W.codeIn K cd n=true/\PySem.W.keepIn K (.ref f)=true
def Fe(K:PySem.W.Frag)(e:Df):Prop:=∃f cd,FnAt K e.x e.st f cd
abbrev Xs:=List (Str×Str×Nat×Nat)
def HX(xs:Xs)(mg:Str->Option Value)(h:Heap)(c P:Str->Addr):Prop:=∀x∈xs,h.get? (P x.1)=some (tabObj #[])/\CodeHd h (c x.1) (P x.1)/\∃a o fd,mg x.1=some (.ref a)/\h.get? a=some o/\o.data=.func fd/\fd.code=.ref (c x.1)
abbrev tbs(xs:Xs)(P:Str->Addr):List Tb:=xs.map λx=>(P x.1,x.2)
abbrev enM(l:PySem.W.OpenLaw)(w:World)(K:PySem.W.Frag)(xs:Xs)(P:Str->Addr)(mg:Str->Option Value)(base:Heap):EnK:=⟨l.prog,w,BF K (tbs xs P),mg,base⟩
def Bd(e:Df):Prop:=∀(kV doc pm:Value) (an:Option Addr) (cdv ct:Value) (us:List Value),us.length=e.ps.length->bindArgs (PySem.W.fnOf e.x e.x (C4 e.st) (BK e.st) (AM e.st) .none kV doc pm an cdv ct) ⟨us,[]⟩=pure (e.ps.zip us)
section
variable{K:PySem.W.Frag}{h:Heap}{mg:Str->Option Value}{xs:Xs}{c P:Str->Addr}(X:K.In h)(G:h.Ns mainGlobals mg)(hx:HX xs mg h c P)
include hx in
theorem XT:∀P'∈(tbs xs P).map (·.1),h.get? P'=some (tabObj #[]):=λP' hp=>by
 obtain⟨t,ht,rfl⟩:=mem_map.mp hp;obtain⟨x,hxx,rfl⟩:=mem_map.mp ht;exact(hx x hxx).1
include X G hx in
theorem FnAt.def{e:Df}{f:Addr}{cd:Value}(H:FnAt K e.x e.st f cd)(b:Bd e):∃fd,DefAt (BF K (tbs xs P)) mg e.x e.st f fd e.ps/\fd.code=cd:=by
 obtain⟨oc,kV,dc,pm,ct,od,an,sl,a,l,cc,k⟩:=H;have F:=Fun.mark (ts:=tbs xs P) (Vm (st:=e.st) l cc k) X (XT hx);exact⟨_,⟨F,PySem.W.mg_of X G a,F.binds b⟩,rfl⟩
include X G hx in
theorem Fe.dn{e:Df}(H:Fe K e)(b:Bd e)(l:PySem.W.OpenLaw)(w:World)(base:Heap):Dn (enM l w K xs P mg base) e:=by
 obtain⟨f,cd,H⟩:=H;obtain⟨fd,D,_⟩:=H.def X G hx b;exact⟨f,fd,D⟩
include X G hx in
include X G hx in
end
def Zs(K:PySem.W.Frag):Prop:=∀n∈(["list","tuple","len","range","repr","sum","min","max","abs","all","any","sorted","zip","isinstance","int","bool","str","set","enumerate","reversed","dict"]:List Str),PySem.W.nsIn K mainGlobals n=some none
def Zs.blt{K:PySem.W.Frag}(Z:Zs K){h:Heap}{mg:Str->Option Value}(X:K.In h)(G:h.Ns mainGlobals mg):BltA mg:=by
 constructor<;>exact PySem.W.mg_none_of X G (Z _ (by simp))
def bd1{e:Df}(hl:e.ps.length=1:=by rfl)(h:∀(kV doc pm:Value) (an:Option Addr) (cdv ct:Value) a,bindArgs (PySem.W.fnOf e.x e.x (C4 e.st) (BK e.st) (AM e.st) .none kV doc pm an cdv ct) ⟨[a],[]⟩=pure (e.ps.zip [a]):=by intros;rfl):Bd e:=λ_ _ _ _ _ _ us hu=>match us,hu.trans hl with|[_],_=>h ..
def bd2{e:Df}(hl:e.ps.length=2:=by rfl)(h:∀(kV doc pm:Value) (an:Option Addr) (cdv ct:Value) a b,bindArgs (PySem.W.fnOf e.x e.x (C4 e.st) (BK e.st) (AM e.st) .none kV doc pm an cdv ct) ⟨[a,b],[]⟩=pure (e.ps.zip [a,b]):=by intros;rfl):Bd e:=λ_ _ _ _ _ _ us hu=>match us,hu.trans hl with|[_,_],_=>h ..
def bd3{e:Df}(hl:e.ps.length=3:=by rfl)(h:∀(kV doc pm:Value) (an:Option Addr) (cdv ct:Value) a b c,bindArgs (PySem.W.fnOf e.x e.x (C4 e.st) (BK e.st) (AM e.st) .none kV doc pm an cdv ct) ⟨[a,b,c],[]⟩=pure (e.ps.zip [a,b,c]):=by intros;rfl):Bd e:=λ_ _ _ _ _ _ us hu=>match us,hu.trans hl with|[_,_,_],_=>h ..
def Cb{N ps:List Str}{sc:Scope}(h:(decide (sc.kind=.function)&&!sc.isCoroutine&&!sc.isGenerator&&ndB N&&(N.take ps.length==ps)&&(ps.all λx=>sc.names.lookup x==some .local||sc.names.lookup x==some .cell)&&sc.names.all λy=>y.2 != .free)=true):FnScope N ps sc:=by
 simp only[Bool.and_eq_true,all_eq_true,Bool.or_eq_true,beq_iff_eq,decide_eq_true_eq,Bool.not_eq_true',bne_iff_ne]at h;obtain⟨⟨⟨⟨⟨⟨h1,h2⟩,h3⟩,h4⟩,h5⟩,h6⟩,h7⟩:=h;exact⟨h1,h2,h3,DZ h4,h5,h6,h7⟩
abbrev HG(l:PySem.W.OpenLaw)(w:World)(K:PySem.W.Frag)(xs:Xs)(mg:Str->Option Value)(c P:Str->Addr)(fa:Addr)(e:Df):Prop:=(∃g,K.lookup mainGlobals=some g)/\∃fd:FuncData,(∀(s:Shared) (v:Value),BindsTo s fd ⟨[v],[]⟩ [("_law_script",v)])/\∀base:Heap,(BF K (tbs xs P)).In base->base.Ns mainGlobals mg->(∀x∈xs,CodeHd base (c x.1) (P x.1))->(∀x∈xs,base.BuiltinsAt mg (P x.1))->FnOk l.prog w (BF K (tbs xs P)) mg base CX0 e.k fa fd ["_law_script"] (spF (BF K (tbs xs P)) 1 e.F)
def Pa{l:PySem.W.OpenLaw}{w:World}{K:PySem.W.Frag}{h:Heap}{mg:Str->Option Value}{fa:Addr}{xs:Xs}{c P:Str->Addr}{e:Df}(X:K.In h)(G:h.Ns mainGlobals mg)(hfa:mg e.x=some (.ref fa))(hx:HX xs mg h c P)(H:Fe K e)(b:Bd e)(hps:e.ps=(["_law_script"]:List Str))
 (ok:∀base:Heap,(∀x∈xs,CodeHd base (c x.1) (P x.1))->(∀x∈xs,base.BuiltinsAt mg (P x.1))->Kn (enM l w K xs P mg base) e):
 HG l w K xs mg c P fa e:=by
 obtain⟨f,cd,H⟩:=H;obtain⟨fd,D,_⟩:=H.def X G hx b;obtain⟨oc,kV,dc,pm,ct,od,an,sl,a,lk,cc,k⟩:=H;have hg:∃g,K.lookup mainGlobals=some g:=by
  cases e:K.lookup mainGlobals with
  |some g=>exact⟨g,rfl⟩
  |none=>unfold PySem.W.nsIn at a;rw[e]at a;cases a
 have e1:=hfa.symm.trans D.mg;cases e1;refine⟨hg,fd,λs v=>?_,λbase _ _ hd bl=>?_⟩
 .obtain⟨⟨oc',od',kV',dc',pm',an',cd',ct',sl',rfl,_,_⟩,_⟩:=D.fn;have:=b kV' dc' pm' an' cd' ct' [v] (by rw[hps];rfl);rw[hps]at this;exact .of_eq this
 .obtain⟨f',fd',D',F',_⟩:=ok base hd bl;have e2:=D.mg.symm.trans D'.mg;cases e2;obtain⟨⟨oc',od',kV',dc',pm',an',cd',ct',sl',h1,h2,_⟩,_⟩:=D.fn;obtain⟨⟨oc2,od2,kV2,dc2,pm2,an2,cd2,ct2,sl2,h3,h4,_⟩,_⟩:=D'.fn;have e3:=h2.symm.trans h4;cases e3;rw[hps]at F';exact F'
end L2
namespace L2
open PySem PySem.Spec PyProof.Rows
section
variable{X:Cx}
def Q0:R2:=λx y H Q=>∃a b:Str,x=.str a/\y=.str b/\a.length+b.length<=sizeLine/\Q (.str (a++b)) H
def Sj:OpR X (binaryOp .Add) Q0:=by
 intro pins s σ H x y v u Q I rx ry h;obtain⟨a,b,rfl,rfl,hl,q⟩:=h;obtain⟨t,rfl⟩:=rx;obtain⟨t',rfl⟩:=ry;exact SB.add (λt' k=>⟨.str (a++b),H,I.tok k,⟨_,rfl⟩,q⟩) hl
open Classical in
def Fh:D->D->Hd->Option (D×Hd)
 |.im (.str a),.im (.str b),hd=>if BB (a.length+b.length)then some (.im (.str (a++b)),hd)else none
 |_,_,_=>none
def Ri{K:PySem.W.Frag}:RB K Q0 Fh:=by
 intro ρ H hd d e v u Q z hd' hR h1 h2 hf hQ;unfold Fh at hf;split at hf
 .split at hf
  .next c=>
   cases hf;simp only[RD,RI]at h1 h2;subst h1 h2;exact⟨_,_,rfl,rfl,c,hQ ρ H _ .refl hR (by simp[RD,RI])⟩
  .cases hf
 .cases hf
def Eu(a:Str)(l u:Option Int):Str:=Txt.slice a l u
def On:V->Option Int->Option Int->Hp->VK->Prop:=λx lo hi H Q=>∃a:Str,x=.str a/\a.length<=sizeLine/\Q (.str (Eu a lo hi)) H
def Tf:SlR X On:=by
 intro pins s σ H x v vl vu lo hi sl Q I rx hs pl pu h;obtain⟨a,rfl,hl,q⟩:=h;obtain⟨t,rfl⟩:=rx;refine⟨"str",_,PySem.F.slot_str_getitem.lookup,typeIs_str _ _ _,?_⟩;have key:∀(l u:Option (Int×Tok)),vl=partValue l->vu=partValue u->lo=l.map (·.1)->hi=u.map (·.1)->wpAny (model X.prog X.w) X.A (getItem (.str a t) (.ref sl)) (EP X pins σ Q) X.xe s:=by
  intro l u e1 e2 e3 e4;subst e3 e4;obtain⟨o,h1,h2,h3⟩:=hs;refine wpAny_getItem_str_slice (l:=l) (u:=u) (st:=none) ⟨o,h1,h2,by rw[h3,e1,e2];rfl⟩ rfl ?_;exact post_val_or_str ⟨le_trans (Txt.slice_le a _ _) hl,λt' k=>⟨.str (Eu a _ _),H,I.tok k,⟨_,rfl⟩,q⟩⟩
 cases pl<;>cases pu
 .exact key none none rfl rfl rfl rfl
 .exact key none (some (_,_)) rfl rfl rfl rfl
 .exact key (some (_,_)) none rfl rfl rfl rfl
 .exact key (some (_,_)) (some (_,_)) rfl rfl rfl rfl
open Classical in
def GB(m:ME)(ml mh:MO1):ME:=λls hd=>(m ls hd).bind λp=>(ml ls p.2).bind λl=>(mh ls l.2).bind λh=>match p.1 with
 |.im (.str a)=>if BB a.length then some (.im (.str (Eu a l.1 h.1)),h.2)else none
 |_=>none
def U8{K:PySem.W.Frag}{t:TE}{tl th:TO}{m:ME}{ml mh:MO1}(h:RE K t m)(hl:RO1 K tl ml)(hh:RO1 K th mh):RE K (tSl On t tl th) (GB m ml mh):=by
 and_intros;obtain⟨⟨d1,h1⟩,e1,hm⟩:=Yp hm;obtain⟨⟨d2,h2⟩,e2,hm⟩:=Yp hm;obtain⟨⟨d3,h3⟩,e3,hm⟩:=Yp hm;dsimp only at e2 e3 hm;split at hm
 .split at hm
  .next c=>
   cases hm;refine h ρ σ H hd ls _ _ h1 hR hL e1 λρ1 H1 v1 x1 R1 r1=>?_;refine hl ρ1 σ H1 h1 ls _ d2 h2 R1 (hL.ext hR x1) e2 λρ2 H2 x2 R2=>?_;refine hh ρ2 σ H2 h2 ls _ d3 _ R2 (hL.ext hR (x1.trans R1 x2)) e3 λρ3 H3 x3 R3=>?_;simp only[RD,RI]at r1;subst r1;exact⟨_,rfl,c,hQ ρ3 _ _ ((x1.trans R1 x2).trans R2 x3) R3 (by simp[RD,RI])⟩
  .cases hm
 .cases hm
def Uk(K:PySem.W.Frag){e:Expr}{te:TE}{me:ME}{lo hi:Option Expr}{tl th:TO}{ml mh:MO1}{p2 pos:Pos}(h:QE K X e te me)(hl:QO K X lo tl ml)(hh:QO K X hi th mh):QE K X (.Subscript e (.Slice lo hi none p2) pos) (tSl On te tl th) (GB me ml mh):=⟨Eg Tf h.p hl.p hh.p,U8 h.r hl.r hh.r⟩
def F9(a:Str):Str:=⟨((Builtin.Str.strSliceIndices none none (-1) a.length).filterMap (a.cps[·]?)).toArray⟩
def KU(a:Str):(F9 a).length<=a.length:=by
 show((Builtin.Str.strSliceIndices none none (-1) a.length).filterMap (a.cps[·]?)).toArray.size<=_;rw[size_toArray];refine le_trans (List.length_filterMap_le _ _) ?_;unfold Builtin.Str.strSliceIndices sliceRange;simp;split<;>omega
def LH(K:PySem.W.Frag)(te ts:TE):TE:=λσ H Q=>te σ H λx H1=>ts σ H1 λy H2=>y=.int (-1)/\((∃a xs,x=.ref a/\SqT K H2 a xs/\∀p,H2 p=none->Q (.ref p) (upd H2 p (.tup xs.reverse)))∨∃a:Str,x=.str a/\a.length<=sizeLine/\Q (.str (F9 a)) H2)
def Sa{e stp:Expr}{te ts:TE}{pos p2:Pos}(he:PE X e te)(hs:PE X stp ts):PE X (.Subscript e (.Slice none none (some stp) p2) pos) (LH X.K te ts):=by
 intro pins s σ H Q I h;refine Subscript_ (thn (he pins s σ H _ I h) λv s1 ⟨x,H1,I1,r1,q1⟩=>?_);refine wpAny_Slice ?_;rw[evalPart_none];refine wpAny_pure (wpAny_pure ?_);rw[evalPart_some];refine thn (hs pins s1 σ H1 _ I1 q1) λvs s3 ⟨y,H3,I3,r3,q3⟩=>?_;obtain⟨rfl,q3⟩:=q3;obtain⟨t,rfl⟩:=r3;have I4:Inv X pins σ H3 { s3 with heap:=s3.heap.push { cls:=.type "slice",data:=.fields #[.none,.none,.int (-1) t] } }:=I3.kept (t':=s3.toks) λb ob q=>Heap.get?_push_of_some _ q;rcases q3 with⟨a,xs,rfl,hx,q⟩|⟨a,rfl,hl,q⟩
 .cases r1;obtain⟨its,r,ht,hz⟩:=I4.tuple hx;have hlen:=r.length;have hg:wpAny (model X.prog X.w) X.A (getItem (.ref a) (.ref s3.heap.objs.size)) (EP X pins σ Q) X.xe { s3 with heap:=s3.heap.push { cls:=.type "slice",data:=.fields #[.none,.none,.int (-1) t] } }:=by
   refine HT.getItem_tuple_rev ht (Heap.IsSliceOf.new ..) ?_ (by rw[size_toArray]<;>omega);refine⟨.ref _,_,I4.laid (t':=s3.toks) (o:=.tup xs.reverse) (λb ob q=>Heap.get?_push_of_some _ q) (le_refl _) ?_,rfl,q _ (I4.hok.fresh (le_refl _))⟩;exact⟨by rw[List.length_reverse];exact hz,its.reverse,Fu r,IsTupD.new _ _⟩
  show wpAny (model X.prog X.w) X.A (subscriptTail e (.Slice none none (some stp) p2) (.ref a) (.ref s3.heap.objs.size)) (EP X pins σ Q) X.xe { s3 with heap:=s3.heap.push { cls:=.type "slice",data:=.fields #[.none,.none,.int (-1) t] } };exact tail_any (ops:=[.ref a,.ref s3.heap.objs.size]) ht.typeIs PyProof.Rows.slot_tuple_getitem.lookup hg (by with_unfolding_all rfl)
 .obtain⟨t2,rfl⟩:=r1;have hg:wpAny (model X.prog X.w) X.A (getItem (.str a t2) (.ref s3.heap.objs.size)) (EP X pins σ Q) X.xe { s3 with heap:=s3.heap.push { cls:=.type "slice",data:=.fields #[.none,.none,.int (-1) t] } }:=by
   refine wpAny_getItem_str_slice (l:=none) (u:=none) (st:=some (-1,t)) ⟨_,Heap.get?_push_size _ rfl,rfl,rfl⟩ rfl ?_;refine⟨le_trans (KU a) hl,?_⟩;exact⟨.str (F9 a),H3,I4.tok _,⟨_,rfl⟩,q⟩
  show wpAny (model X.prog X.w) X.A (subscriptTail e (.Slice none none (some stp) p2) (.str a t2) (.ref s3.heap.objs.size)) (EP X pins σ Q) X.xe { s3 with heap:=s3.heap.push { cls:=.type "slice",data:=.fields #[.none,.none,.int (-1) t] } };exact tail_any (ops:=[.str a t2,.ref s3.heap.objs.size]) (typeIs_str _ _ _) PySem.F.slot_str_getitem.lookup hg (by with_unfolding_all rfl)
open Classical in
def Cc(m ms:ME):ME:=λls hd=>(m ls hd).bind λp=>(ms ls p.2).bind λq=>match q.1,p.1 with
 |.im (.int i),.im (.str a)=>if i=-1/\BB a.length then some (.im (.str (F9 a)),q.2)else none
 |.im (.int i),d=>if i=-1 then(A9 d).map λds=>(AD ds.reverse,q.2)else none
 |_,_=>none
def RV{K:PySem.W.Frag}{te ts:TE}{m ms:ME}(h:RE K te m)(hs:RE K ts ms):RE K (LH K te ts) (Cc m ms):=by
 and_intros;obtain⟨⟨d1,h1⟩,e1,hm⟩:=Yp hm;obtain⟨⟨d2,h2⟩,e2,hm⟩:=Yp hm;dsimp only at e2 hm;split at hm
 .split at hm
  .next c=>
   cases hm;obtain⟨rfl,c⟩:=c;refine h ρ σ H hd ls _ _ h1 hR hL e1 λρ1 H1 v1 x1 R1 r1=>?_;refine hs ρ1 σ H1 h1 ls _ _ _ R1 (hL.ext hR x1) e2 λρ2 H2 v x2 R2 r2=>?_;simp only[RD,RI]at r1 r2;subst r1;exact⟨r2,.inr ⟨_,rfl,c,hQ ρ2 _ _ (x1.trans R1 x2) R2 (by simp[RD,RI])⟩⟩
  .cases hm
 .split at hm
  .next hi=>
   obtain⟨ds,e3,e4⟩:=Yq hm;cases e4;subst hi;refine h ρ σ H hd ls _ d1 h1 hR hL e1 λρ1 H1 v1 x1 R1 r1=>?_;refine hs ρ1 σ H1 h1 ls _ _ _ R1 (hL.ext hR x1) e2 λρ2 H2 v x2 R2 r2=>?_;simp only[RD,RI]at r2;obtain⟨a,xs,rfl,q,r⟩:=(r1.ext R1 x2).tup e3;refine⟨r2,.inl ⟨a,xs,rfl,q,λp hp=>?_⟩⟩;obtain⟨R3,x3⟩:=R2.hid (ho:=.tup xs.reverse) hp;exact hQ ρ2 _ _ ((x1.trans R1 x2).trans R2 x3) R3 (Az (SqT.of AL) ((RDs.rev r).ext R2 x3))
  .cases hm
 .cases hm
def S9{K:PySem.W.Frag}{e stp:Expr}{te ts:TE}{m ms:ME}{pos p2:Pos}(h:QE K X e te m)(hs:QE K X stp ts ms)(hK:X.K=K:=by rfl):QE K X (.Subscript e (.Slice none none (some stp) p2) pos) (LH K te ts) (Cc m ms):=by
 subst hK;exact⟨Sa h.p hs.p,RV h.r hs.r⟩
def Om:V->List V->Hp->VK->Prop:=λx vs H Q=>∃a:Str,x=.str a/\vs=[]/\a.length<=5592405/\Q (.str (Txt.upper a)) H
def VY:MtR X "str.upper" Om:=by
 intro pins s σ H x vs v us Q I rx rv h;obtain⟨a,rfl,rfl,hl,q⟩:=h;obtain⟨t,rfl⟩:=rx;cases rv;exact SCL.upper hl λ_=>⟨.str (Txt.upper a),H,I.tok _,⟨_,rfl⟩,q⟩
def GA(m:ME):ME:=λls hd=>(m ls hd).bind λp=>match p.1 with
 |.im (.str a)=>if a.length<=5592405 then some (.im (.str (Txt.upper a)),p.2)else none
 |_=>none
def U5{K:PySem.W.Frag}{t:TE}{m:ME}(h:RE K t m):RE K (OS K "str" Om t) (GA m):=by
 and_intros;obtain⟨⟨d1,h1⟩,e1,hm⟩:=Yp hm;dsimp only at hm;split at hm
 .split at hm
  .next c=>
   cases hm;refine h ρ σ H hd ls _ _ _ hR hL e1 λρ1 H1 v1 x1 R1 r1=>?_;simp only[RD,RI]at r1;subst r1;exact⟨rfl,_,rfl,rfl,c,hQ ρ1 _ _ x1 R1 (by simp[RD,RI])⟩
  .cases hm
 .cases hm
def Ug(K:PySem.W.Frag){o:Expr}{to:TE}{mo:ME}{apos cpos:Pos}(ho:QE K X o to mo)
 (hbase:attributeBase o "upper" X.env (eval o X.env)=eval o X.env:=by rfl) (hline:(apos.endLine==cpos.line)=true:=by rfl) (hK:X.K=K:=by rfl):QE K X (.Call (.Attribute o "upper" apos) [] [] cpos) (OS K "str" Om to) (GA mo):=by
 subst hK;exact⟨VL PySem.F.plainAttrs_str PySem.F.slot_str_upper PySem.F.type_str_upper VY ho.p hbase hline,U5 ho.r⟩
end
def Cs{α:Type}:List (Option α)->Option (List α)
 |[]=>some []
 |some x::r=>(Cs r).map (x::·)
 |none::_=>none
def pyN:Nat->Hd->D->Option PyData
 |_,_,.im i=>some i.py
 |_,_,.ro ns=>some (.list (I.pys (ns.map I.int)))
 |0,_,_=>none
 |n+1,hd,.tm ds=>(Cs (ds.map (pyN n hd))).map .tuple
 |n+1,hd,.mu k=>match hd[k]? with
  |some (.lst ds)=>(Cs (ds.map (pyN n hd))).map .list
  |_=>none
section
variable{K:PySem.W.Frag}{ρ:List Addr}{H:Hp}{hd:Hd}
def GN{f:D->Option PyData}(hf:∀d v p,RD K ρ H d v->f d=some p->Rep K H p v):∀{ds:List D} {xs:List V} {ps:List PyData},RDs K ρ H ds xs->Cs (ds.map f)=some ps->BC K H ps xs
 |[],xs,ps,r,e=>by
  simp only[RDs]at r;subst r;simp[Cs]at e;subst e;simp only[BC]
 |d::ds,xs,ps,r,e=>by
  simp only[RDs]at r;obtain⟨x,r',rfl,h1,h2⟩:=r;rw[map_cons]at e;cases q:f d with
  |none=>rw[q]at e;cases e
  |some p=>
   rw[q]at e;obtain⟨ps',e1,rfl⟩:=Yq (show(Cs (ds.map f)).map (p::·)=some ps from e);simp only[BC];exact⟨x,r',rfl,hf d x p h1 q,GN hf h2 e1⟩
def EF(hR:RH K ρ H hd):∀(n:Nat) (d:D) (v:V) (p:PyData),RD K ρ H d v->pyN n hd d=some p->Rep K H p v
 |n,.im i,v,p,h,e=>Cm (hd:=hd) hR h (by cases n<;>exact e)
 |n,.ro ns,v,p,h,e=>Cm (hd:=hd) hR h (by cases n<;>exact e)
 |0,.tm ds,v,p,h,e=>by cases e
 |0,.mu k,v,p,h,e=>by cases e
 |n+1,.tm ds,v,p,h,e=>by
  simp only[RD]at h;obtain⟨a,xs,rfl,q,r⟩:=h;obtain⟨ps,e1,rfl⟩:=Yq (show(Cs (ds.map (pyN n hd))).map PyData.tuple=some p from e);simp only[Rep];exact⟨a,xs,rfl,q,GN (λd v p=>EF hR n d v p) r e1⟩
 |n+1,.mu k,v,p,h,e=>by
  simp only[pyN]at e;simp only[RD]at h;obtain⟨a,hn,rfl⟩:=h;split at e
  .next ds q=>
   obtain⟨ps,e1,rfl⟩:=Yq e;obtain⟨xs,e2,e3⟩:=hR.lst hn q;simp only[Rep];exact⟨a,xs,rfl,SqL.of e2,GN (λd v p=>EF hR n d v p) e3 e1⟩
  .cases e
end
def Hf(neg:Bool):D->D->Hd->Option (D×Hd):=λd e hd=>match pyN 30 hd d,pyN 30 hd e with
 |some x,some y=>if x.canLay0=true/\y.canLay0=true/\min x.depth y.depth<=60 then some (.im (.bl (if neg then !PyData.eqv x y else PyData.eqv x y)),hd)else none
 |_,_=>none
def UJ{K:PySem.W.Frag}:RB K (Lf K) (Hf true):=by
 intro ρ H hd d e v u Q z hd' hR h1 h2 hf hQ;unfold Hf at hf;split at hf
 .next e1 e2=>
  split at hf
  .next c=>cases hf;exact⟨_,_,EF hR _ _ _ _ h1 e1,EF hR _ _ _ _ h2 e2,c.1,c.2.1,c.2.2,hQ ρ H _ .refl hR (by simp[RD,RI])⟩
  .cases hf
 .cases hf
open Classical in
def D1:List D->Hd->Option (D×Hd)
 |[d],hd=>match pyN 30 hd d with
  |some p=>if Gi p then some (.im (.str p.shown),hd)else none
  |none=>none
 |_,_=>none
def Og{K:PySem.W.Frag}:RF K (Ld K) D1:=by
 intro ρ H hd ds vs Q z hd' hR h1 hf hQ;unfold D1 at hf;split at hf
 .split at hf
  .next p e=>
   split at hf
   .next c=>
    cases hf;simp only[RDs]at h1;obtain⟨x,r,rfl,rx,rfl⟩:=h1;exact⟨x,p,rfl,EF hR _ _ _ _ rx e,c.1,c.2.1,c.2.2.1,c.2.2.2.1,c.2.2.2.2,hQ ρ H _ .refl hR (by simp[RD,RI])⟩
   .cases hf
  .cases hf
 .cases hf
section
variable{hd:Hd}{QE:D->Hd->Prop}{ls:Ls}{ma mb:ME}
def QQ{a b:Str}(h:a.length+b.length<=1000000)(q:QE (.im (.str (a++b))) hd):WP (Fh (.im (.str a)) (.im (.str b)) hd) QE:=⟨_,_,if_pos (AR h),q⟩
def TX{ml mh:MO1}(h:WE ma ls hd λd x=>WO ml ls x λl y=>WO mh ls y λu z=>∃a:Str,d=.im (.str a)/\a.length<=1000000/\QE (.im (.str (Eu a l u))) z):WE (GB ma ml mh) ls hd QE:=by
 obtain⟨d,x,e1,l,y,e2,u,z,e3,a,rfl,c,q⟩:=h;exact⟨_,_,by simp only[GB,e1,bind_some,e2,e3,AR c,if_true],q⟩
def QX(h:WE ma ls hd λd x=>WE mb ls x λi y=>i=.im (.int (-1))/\∃a:Str,d=.im (.str a)/\a.length<=1000000/\QE (.im (.str (F9 a))) y):WE (Cc ma mb) ls hd QE:=by
 obtain⟨d,x,e1,i,y,e2,rfl,a,rfl,c,q⟩:=h;exact⟨_,_,by simp only[Cc,e1,bind_some,e2,AR c,and_self,if_true],q⟩
def QY(h:WE ma ls hd λd x=>WE mb ls x λi y=>i=.im (.int (-1))/\∃ds,A9 d=some ds/\QE (AD ds.reverse) y):WE (Cc ma mb) ls hd QE:=by
 obtain⟨d,x,e1,i,y,e2,rfl,ds,e3,q⟩:=h;refine⟨_,_,?_,q⟩;unfold Cc;rw[e1,bind_some];dsimp only;rw[e2,bind_some];cases d with
 |im i=>cases i with
  |tup is=>exact(if_pos rfl).trans (by rw[e3];rfl)
  |_=>cases e3
 |tm es=>exact(if_pos rfl).trans (by rw[e3];rfl)
 |mu k=>cases e3
 |ro ns=>cases e3
def TW(h:WE ma ls hd λd x=>∃a:Str,d=.im (.str a)/\a.length<=1000000/\QE (.im (.str (Txt.upper a))) x):WE (GA ma) ls hd QE:=by
 obtain⟨d,x,e1,a,rfl,c,q⟩:=h;exact⟨_,_,by simp only[GA,e1,bind_some];rw[if_pos (by omega)],q⟩
def TU{neg:Bool}{d e:D}{x y:PyData}(h1:pyN 30 hd d=some x)(h2:pyN 30 hd e=some y)(c:x.canLay0=true/\y.canLay0=true/\min x.depth y.depth<=60)(q:QE (.im (.bl (if neg then !PyData.eqv x y else PyData.eqv x y))) hd):WP (Hf neg d e hd) QE:=⟨_,_,by unfold Hf;rw[h1,h2];dsimp only;rw[if_pos c],q⟩
def Ip{d:D}{p:PyData}(h1:pyN 30 hd d=some p)(c:Gi p)(q:QE (.im (.str p.shown)) hd):WP (D1 [d] hd) QE:=⟨_,_,by show(match pyN 30 hd d with|some p=>_|none=>_)=_;rw[h1];exact if_pos c,q⟩
end
def Fz(mo mi:ME)(x:D)(ls:Ls)(hd:Hd):Option Hd:=(mo ls hd).bind λq=>(mi ls q.2).bind λr=>match q.1,r.1 with
 | .mu n,.im (.int i)=>(match r.2[n]? with
  |some (.lst ds)=>(ixN ds.length i).map λj=>r.2.set n (.lst (ds.set j x))
  | _=>none)
 |_,_=>none
def HW(mv mo mi mo2 mi2:ME):MS:=λls hd=>(mv ls hd).bind λp=>match A9 p.1 with
 |some [x,y]=>(Fz mo mi x ls p.2).bind λh1=>(Fz mo2 mi2 y ls h1).map λh2=>(.nx ls,h2)
 |_=>none
section
variable{K:PySem.W.Frag}{X:Cx}
def Q1{to ti:TE}{mo mi:ME}(ho:RE K to mo)(hi:RE K ti mi){ρ:List Addr}{σ:St}{H:Hp}{hd h1:Hd}{ls:Ls}{x:D}{v:V}(hR:RH K ρ H hd)(hL:RL K ρ H ls σ)(r:RD K ρ H x v)(e:Fz mo mi x ls hd=some h1){Q:St->Hp->Prop}
 (hQ:∀ρ' H',Ext ρ H ρ' H'->RH K ρ' H' h1->Q σ H'):Hc to ti FZ v σ H Q:=by
 obtain⟨⟨d2,h2⟩,e2,e⟩:=Yp e;obtain⟨⟨d3,h3⟩,e3,e⟩:=Yp e;dsimp only at e3 e;split at e
 .split at e
  .next q=>
   obtain⟨j,e4,rfl⟩:=Yq e;refine ho ρ σ H hd ls _ _ h2 hR hL e2 λρ2 H2 v2 x2 R2 r2=>?_;refine hi ρ2 σ H2 h2 ls _ _ _ R2 (hL.ext hR x2) e3 λρ3 H3 v3 x3 R3 r3=>?_;have r2:=r2.ext R2 x3;simp only[RD]at r2;obtain⟨a,hn,rfl⟩:=r2;simp only[RD,RI]at r3;subst r3;obtain⟨xs,l1,l2⟩:=R3.lst hn q;obtain⟨R4,x4⟩:=R3.put hn (o:=.lst _) (ho:=.lst (xs.set j v)) ⟨_,rfl,l2.set j ((r.ext hR x2).ext R2 x3)⟩;exact⟨a,xs,_,j,rfl,rfl,l1,by rw[l2.len];exact e4,hQ ρ3 _ ((x2.trans R2 x3).trans R3 x4) R4⟩
  .cases e
 .cases e
def Tn{tv to ti to2 ti2:TE}{mv mo mi mo2 mi2:ME}(hv:RE K tv mv)(ho:RE K to mo)(hi:RE K ti mi)(ho2:RE K to2 mo2)(hi2:RE K ti2 mi2):RS K (Dz tv (Hb K 2 (Ep (Hc to ti FZ) (Ep (Hc to2 ti2 FZ) JY)))) (HW mv mo mi mo2 mi2):=by
 intro ρ σ H hd0 ls E f hd' hR hL hm hQ;obtain⟨⟨d1,h1⟩,e1,hm⟩:=Yp hm;dsimp only at hm;split at hm
 .next x y ev=>
  obtain⟨h2,e2,hm⟩:=Yp hm;obtain⟨h3,e3,hm⟩:=Yq hm;cases hm;refine hv ρ σ H hd0 ls _ d1 h1 hR hL e1 λρ1 H1 v1 x1 R1 r1=>?_;obtain⟨a,xs,rfl,q,r⟩:=r1.tup ev;simp only[RDs]at r;obtain⟨u,r',rfl,ru,w,r'',rfl,rw',rfl⟩:=r;refine⟨a,_,rfl,q,rfl,u,_,rfl,?_⟩;refine Q1 ho hi R1 (hL.ext hR x1) ru e2 λρ2 H2 x2 R2=>?_;refine⟨w,_,rfl,?_⟩;refine Q1 ho2 hi2 R2 ((hL.ext hR x1).ext R1 x2) (rw'.ext R1 x2) e3 λρ3 H3 x3 R3=>⟨rfl,?_⟩
  exact hQ ρ3 _ ((x1.trans R1 x2).trans R2 x3) R3 σ (((hL.ext hR x1).ext R1 x2).ext R2 x3)
 .cases hm
def UT{value o i o2 i2:Expr}{k:Nat}{p1 p2 p3 pos:Pos}{tv to ti to2 ti2:TE}{mv mo mi mo2 mi2:ME}(hv:QE K X value tv mv)(ho:QE K X o to mo)(hi:QE K X i ti mi)(ho2:QE K X o2 to2 mo2)(hi2:QE K X i2 ti2 mi2)(hK:X.K=K:=by rfl)(hc:X.calm=true:=by rfl)
 (hs:swapsWithSole [.Tuple [.Subscript o i p1,.Subscript o2 i2 p2] k p3] value pos.line X.env=pure false:=by rfl) (hw:swappedStores [.Tuple [.Subscript o i p1,.Subscript o2 i2 p2] k p3] value X.env=pure none:=by rfl)
 (h1:(assignEach [.Tuple [.Subscript o i p1,.Subscript o2 i2 p2] k p3] X.env).map (·.2)=[assign (.Tuple [.Subscript o i p1,.Subscript o2 i2 p2] k p3) X.env]:=by rfl)
 (h2:(assignEach [.Subscript o i p1,.Subscript o2 i2 p2] X.env).map (·.2)=assign (.Subscript o i p1) X.env::(assignEach [.Subscript o2 i2 p2] X.env).map (·.2):=by rfl) (h3:(assignEach [.Subscript o2 i2 p2] X.env).map (·.2)=assign (.Subscript o2 i2 p2) X.env::(assignEach [] X.env).map (·.2):=by rfl)
 (hn:(assignEach [.Subscript o i p1,.Subscript o2 i2 p2] X.env).length=2:=by rfl) (hst:(assignEach [.Subscript o i p1,.Subscript o2 i2 p2] X.env).findIdx? (·.1)=none:=by rfl)
 (ha:∀v,assign (.Subscript o i p1) X.env v=(do
  let ov <- holding [v] (eval o X.env)
  let iv <- holding [v,ov] (eval i X.env)
  standAt p1
  holding [v,ov,iv] (setItem ov iv v)
  release [v,ov,iv] []):=by intro _;rfl)
 (ha2:∀v,assign (.Subscript o2 i2 p2) X.env v=(do
  let ov <- holding [v] (eval o2 X.env)
  let iv <- holding [v,ov] (eval i2 X.env)
  standAt p2
  holding [v,ov,iv] (setItem ov iv v)
  release [v,ov,iv] []):=by intro _;rfl):
 QS K X (.Assign [.Tuple [.Subscript o i p1,.Subscript o2 i2 p2] k p3] value pos) (Dz tv (Hb K 2 (Ep (Hc to ti FZ) (Ep (Hc to2 ti2 FZ) JY)))) (HW mv mo mi mo2 mi2):=by
 subst hK;exact⟨V5 hv.p (N9 hc (G4 (NA ho.p hi.p J8 ha) (G4 (NA ho2.p hi2.p J8 ha2) Kf h3) h2) hn hst) hs hw h1,Tn hv.r ho.r hi.r ho2.r hi2.r⟩
end
def TM{mv mo mi mo2 mi2:ME}{ls:Ls}{hd:Hd}{QS:Fl->Hd->Prop}(h:WE mv ls hd λd x=>∃u w,A9 d=some [u,w]/\WE mo ls x λq y=>WE mi ls y λr z=>∃n i j ds,q=.mu n/\r=.im (.int i)/\z[n]?=some (.lst ds)/\ixN ds.length i=some j /\
 WE mo2 ls (z.set n (.lst (ds.set j u))) λq y=>WE mi2 ls y λr z=>∃n i j ds,q=.mu n/\r=.im (.int i)/\z[n]?=some (.lst ds)/\ixN ds.length i=some j/\QS (.nx ls) (z.set n (.lst (ds.set j w)))):WS (HW mv mo mi mo2 mi2) ls hd QS:=by
 obtain⟨d,x,e1,u,w,e2,q,y,e3,r,z,e4,n,i,j,ds,rfl,rfl,e5,e6,q2,y2,e7,r2,z2,e8,n2,i2,j2,ds2,rfl,rfl,e9,e10,qq⟩:=h;refine⟨_,_,?_,qq⟩;have p1:Fz mo mi u ls x=some (z.set n (.lst (ds.set j u))):=by
  unfold Fz;rw[e3,bind_some];dsimp only;rw[e4,bind_some];dsimp only;rw[e5];dsimp only;rw[e6];rfl
 have p2:Fz mo2 mi2 w ls (z.set n (.lst (ds.set j u)))=some (z2.set n2 (.lst (ds2.set j2 w))):=by
  unfold Fz;rw[e7,bind_some];dsimp only;rw[e8,bind_some];dsimp only;rw[e9];dsimp only;rw[e10];rfl
 unfold HW;rw[e1,bind_some];dsimp only;rw[e2];dsimp only;rw[p1,bind_some,p2];rfl
end L2
namespace Rw
open PySem L2 Bd
def pairs_im(ps:List (Int×Int)):(ps.map FB).map D.im=ps.map Af:=by rw[map_map];rfl
end Rw
namespace An
open PySem L2 Bd
inductive Tv where
 |non|bl (b:Bool)|int (i:Int)|str (x:Str)|tup (l:List Tv)|lst (l:List Tv)
mutual
def Is(n:Nat)(hd:Hd):Tv->D->Prop
 |.non,d=>d=.im .non
 |.bl b,d=>d=.im (.bl b)
 |.int i,d=>d=.im (.int i)
 |.str x,d=>d=.im (.str x)
 |.tup ts,d=>∃ds,d=AD ds/\Iss n hd ts ds
 |.lst ts,d=>∃k ds,d=.mu k/\2<=k/\k<n/\hd[k]?=some (.lst ds)/\Iss n hd ts ds
def Iss(n:Nat)(hd:Hd):List Tv->List D->Prop
 |[],ds=>ds=[]
 |t::ts,ds=>∃d r,ds=d::r/\Is n hd t d/\Iss n hd ts r
end
section
variable{n n':Nat}{hd hd':Hd}
mutual
def Is.mono(hn:n<=n')(hk:∀k,2<=k->k<n->hd'[k]?=hd[k]?):∀{t:Tv} {d:D},Is n hd t d->Is n' hd' t d
 |.non,d,h=>by simpa only[Is]using h
 |.bl b,d,h=>by simpa only[Is]using h
 |.int i,d,h=>by simpa only[Is]using h
 |.str x,d,h=>by simpa only[Is]using h
 |.tup ts,d,h=>by
  simp only[Is]at h ⊢;obtain⟨ds,e,q⟩:=h;exact⟨ds,e,Iss.mono hn hk q⟩
 |.lst ts,d,h=>by
  simp only[Is]at h ⊢;obtain⟨k,ds,e,k2,kn,e2,q⟩:=h;exact⟨k,ds,e,k2,lt_of_lt_of_le kn hn,(hk k k2 kn).trans e2,Iss.mono hn hk q⟩
def Iss.mono(hn:n<=n')(hk:∀k,2<=k->k<n->hd'[k]?=hd[k]?):∀{ts:List Tv} {ds:List D},Iss n hd ts ds->Iss n' hd' ts ds
 |[],ds,h=>by simpa only[Iss]using h
 |t::ts,ds,h=>by
  simp only[Iss]at h ⊢;obtain⟨d,r,e,q,z⟩:=h;exact⟨d,r,e,Is.mono hn hk q,Iss.mono hn hk z⟩
end
def Iss.len:∀{ts:List Tv} {ds:List D},Iss n hd ts ds->ds.length=ts.length
 |[],ds,h=>by simp only[Iss]at h;subst h;rfl
 |t::ts,ds,h=>by
  simp only[Iss]at h;obtain⟨d,r,rfl,q,z⟩:=h;simp[Iss.len z]
def Iss.app:∀{ts us:List Tv} {ds es:List D},Iss n hd ts ds->Iss n hd us es->Iss n hd (ts++us) (ds++es)
 |[],us,ds,es,h,h'=>by simp only[Iss]at h;subst h;simpa using h'
 |t::ts,us,ds,es,h,h'=>by
  simp only[Iss]at h;obtain⟨d,r,rfl,q,z⟩:=h;rw[cons_append,cons_append];simp only[Iss];exact⟨d,r++es,rfl,q,z.app h'⟩
def Iss.nil:Iss n hd [] []:=by simp only[Iss]
def Iss.cons{t:Tv}{ts:List Tv}{d:D}{ds:List D}(h:Is n hd t d)(r:Iss n hd ts ds):Iss n hd (t::ts) (d::ds):=by simp only[Iss];exact⟨d,ds,rfl,h,r⟩
def Iss.one{t:Tv}{d:D}(h:Is n hd t d):Iss n hd [t] [d]:=.cons h .nil
def Iss.drop:∀(k:Nat) {ts:List Tv} {ds:List D},Iss n hd ts ds->Iss n hd (ts.drop k) (ds.drop k)
 |0,ts,ds,h=>by simpa using h
 |k+1,[],ds,h=>by simp only[Iss]at h;subst h;simpa using Iss.nil
 |k+1,t::ts,ds,h=>by
  simp only[Iss]at h;obtain⟨d,r,rfl,q,z⟩:=h;simpa using Iss.drop k z
def Iss.take:∀(k:Nat) {ts:List Tv} {ds:List D},Iss n hd ts ds->Iss n hd (ts.take k) (ds.take k)
 |0,ts,ds,h=>by simpa using Iss.nil
 |k+1,[],ds,h=>by simp only[Iss]at h;subst h;simpa using Iss.nil
 |k+1,t::ts,ds,h=>by
  simp only[Iss]at h;obtain⟨d,r,rfl,q,z⟩:=h;simpa using Iss.cons q (Iss.take k z)
def Iss.rev:∀{ts:List Tv} {ds:List D},Iss n hd ts ds->Iss n hd ts.reverse ds.reverse
 |[],ds,h=>by simp only[Iss]at h;subst h;simpa using Iss.nil
 |t::ts,ds,h=>by
  simp only[Iss]at h;obtain⟨d,r,rfl,q,z⟩:=h;rw[reverse_cons,reverse_cons];exact z.rev.app (.one q)
def Iss.get:∀{ts:List Tv} {ds:List D} {k:Nat} {t:Tv},Iss n hd ts ds->ts[k]?=some t->∃d,ds[k]?=some d/\Is n hd t d
 |[],ds,k,t,h,e=>by simp at e
 |u::ts,ds,0,t,h,e=>by
  simp only[Iss]at h;obtain⟨d,r,rfl,q,z⟩:=h;simp at e;subst e;exact⟨d,rfl,q⟩
 |u::ts,ds,k+1,t,h,e=>by
  simp only[Iss]at h;obtain⟨d,r,rfl,q,z⟩:=h;exact Iss.get (k:=k) z (by simpa using e)
def Iss.tup{ts:List Tv}{ds:List D}(h:Iss n hd ts ds):Is n hd (.tup ts) (AD ds):=by simp only[Is];exact⟨ds,rfl,h⟩
def Is.view{ts:List Tv}{d:D}(h:Is n hd (.tup ts) d):∃ds,A9 d=some ds/\Iss n hd ts ds:=by
 simp only[Is]at h;obtain⟨ds,rfl,q⟩:=h;exact⟨ds,A8 ds,q⟩
def ty(T:Ty):Tv->Bool
 |.non=>false
 |.bl _=>decide (T=.int∨T=.bool)
 |.int _=>decide (T=.int)
 |.str _=>decide (T=.str)
 |.tup _=>decide (T=.tuple)
 |.lst _=>decide (T=.list)
def Is.isD{t:Tv}{d:D}(T:Ty)(h:Is n hd t d):isD T hd d=some (ty T t):=by
 cases t with
 |non=>simp only[Is]at h;subst h;rfl
 |bl b=>simp only[Is]at h;subst h;rfl
 |int b=>simp only[Is]at h;subst h;rfl
 |str b=>simp only[Is]at h;subst h;rfl
 |tup ts=>
  simp only[Is]at h;obtain⟨ds,rfl,q⟩:=h;unfold AD;cases Ap ds<;>rfl
 |lst ts=>
  simp only[Is]at h;obtain⟨k,ds,rfl,_,_,e,_⟩:=h;simp[L2.isD,e,ty]
mutual
def pyT:Tv->PyData
 |.non=>.none
 |.bl b=>.bool b
 |.int i=>.int i
 |.str x=>.str x
 |.tup ts=>.tuple (E1 ts)
 |.lst ts=>.list (E1 ts)
def E1:List Tv->List PyData
 |[]=>[]
 |t::ts=>pyT t::E1 ts
end
mutual
def Is.py:∀{t:Tv} {i:I},Is n hd t (.im i)->i.py=pyT t
 |.non,i,h=>by simp only[Is]at h;cases h;rfl
 |.bl b,i,h=>by simp only[Is]at h;cases h;rfl
 |.int b,i,h=>by simp only[Is]at h;cases h;rfl
 |.str b,i,h=>by simp only[Is]at h;cases h;rfl
 |.tup ts,i,h=>by
  simp only[Is]at h;obtain⟨ds,e,q⟩:=h;unfold AD at e;cases z:Ap ds with
  |none=>rw[z]at e;cases e
  |some is=>
   rw[z]at e;cases e;rw[CM z]at q;rw[I.py,pyT,Iss.pys q]
 |.lst ts,i,h=>by simp only[Is]at h;obtain⟨k,ds,e,_⟩:=h;cases e
def Iss.pys:∀{ts:List Tv} {is:List I},Iss n hd ts (is.map D.im)->I.pys is=E1 ts
 |[],is,h=>by
  simp only[Iss]at h;have:is=[]:=by simpa using h
  subst this;rfl
 |t::ts,is,h=>by
  simp only[Iss]at h;obtain⟨d,r,e,q,z⟩:=h;cases is with
  |nil=>cases e
  |cons i is=>
   rw[map_cons]at e;obtain⟨rfl,rfl⟩:=List.cons.inj e;rw[I.pys,E1,Is.py q,Iss.pys z]
end
mutual
def dep:Tv->Nat
 |.non=>0
 |.bl _=>0
 |.int _=>0
 |.str _=>0
 |.tup ts=>Aq ts+1
 |.lst ts=>Aq ts+1
def Aq:List Tv->Nat
 |[]=>0
 |t::ts=>max (dep t) (Aq ts)
end
def CW(m:Nat)(i:I):pyN m hd (.im i)=some i.py:=by cases m<;>rfl
mutual
def Is.pyN:∀{t:Tv} {d:D} {m:Nat},Is n hd t d->dep t<=m->pyN m hd d=some (pyT t)
 |.non,d,m,h,hm=>by simp only[Is]at h;subst h;exact CW m _
 |.bl b,d,m,h,hm=>by simp only[Is]at h;subst h;exact CW m _
 |.int i,d,m,h,hm=>by simp only[Is]at h;subst h;exact CW m _
 |.str x,d,m,h,hm=>by simp only[Is]at h;subst h;exact CW m _
 |.tup ts,d,m,h,hm=>by
  have h0:=h;simp only[Is]at h;obtain⟨ds,e,q⟩:=h;cases m with
  |zero=>simp[dep]at hm
  |succ m=>
   unfold AD at e;cases z:Ap ds with
   |some is=>rw[z]at e;subst e;rw[CW,Is.py h0]
   |none=>
    rw[z]at e;subst e;show(Cs (ds.map (L2.pyN m hd))).map PyData.tuple=_;rw[Iss.pyN q (by simp[dep]at hm;omega),pyT];rfl
 |.lst ts,d,m,h,hm=>by
  simp only[Is]at h;obtain⟨k,ds,rfl,_,_,e,q⟩:=h;cases m with
  |zero=>simp[dep]at hm
  |succ m=>
   show(match hd[k]? with|some (.lst ds)=>(Cs (ds.map (L2.pyN m hd))).map PyData.list|_=>none)=_;rw[e];show(Cs (ds.map (L2.pyN m hd))).map PyData.list=_;rw[Iss.pyN q (by simp[dep]at hm;omega),pyT];rfl
def Iss.pyN:∀{ts:List Tv} {ds:List D} {m:Nat},Iss n hd ts ds->Aq ts<=m->Cs (ds.map (L2.pyN m hd))=some (E1 ts)
 |[],ds,m,h,hm=>by simp only[Iss]at h;subst h;rfl
 |t::ts,ds,m,h,hm=>by
  simp only[Iss]at h;obtain⟨d,r,rfl,q,z⟩:=h;simp only[Aq]at hm;rw[map_cons,Is.pyN q (by omega)];show(Cs (r.map (L2.pyN m hd))).map (pyT t::·)=_;rw[Iss.pyN z (by omega),E1];rfl
end
mutual
def Gq(m:Nat):Tv->Prop
 |.non=>True
 |.bl _=>True
 |.int i=>i.natAbs<=m
 |.str x=>∀c∈x.cps.toList,c<128
 |.tup ts=>Gqs m ts
 |.lst ts=>Gqs m ts
def Gqs(m:Nat):List Tv->Prop
 |[]=>True
 |t::ts=>Gq m t/\Gqs m ts
end
mutual
def wt:Tv->Nat
 |.non=>1
 |.bl _=>1
 |.int i=>i.natAbs.log2+2
 |.str x=>x.length+1
 |.tup ts=>wts ts+1
 |.lst ts=>wts ts+1
def wts:List Tv->Nat
 |[]=>0
 |t::ts=>wt t+wts ts
end
def gds_iff{m:Nat}:∀{ts:List Tv},Gqs m ts↔∀t∈ts,Gq m t
 |[]=>by simp[Gqs]
 |t::ts=>by simp[Gqs,gds_iff]
def Bg:∀(ts us:List Tv),wts (ts++us)=wts ts+wts us
 |[],us=>by simp[wts]
 |t::ts,us=>by simp[wts,Bg ts us];omega
def GL:∀(ts us:List Tv),Aq (ts++us)=max (Aq ts) (Aq us)
 |[],us=>by simp[Aq]
 |t::ts,us=>by simp only[cons_append,Aq,GL ts us];omega
def ES{t:Tv}:∀{ts:List Tv},t∈ts->dep t<=Aq ts
 |u::ts,h=>by
  simp only[Aq];rcases mem_cons.mp h with rfl|h
  .omega
  .have:=ES h;omega
def ER{ts:List Tv}{k:Nat}(h:∀t∈ts,dep t<=k):Aq ts<=k:=by
 induction ts with
 |nil=>simp[Aq]
 |cons t ts ih=>
  simp only[Aq];have h1:=h t (by simp);have h2:=ih λu hu=>h u (by simp[hu]);omega
def HD:∀(ts:List Tv),ts.length<=wts ts
 |[]=>by simp[wts]
 |t::ts=>by
  have:1<=wt t:=by cases t<;>simp[wt]
  have:=HD ts;simp[wts];omega
def O6{ts us:List Tv}(h:ts.Perm us):wts ts=wts us:=by
 induction h with
 |nil=>rfl
 |cons x _ ih=>simp[wts,ih]
 |swap x y l=>simp[wts];omega
 |trans _ _ a b=>rw[a,b]
mutual
def Gq.mono{m m':Nat}(h:m<=m'):∀{t:Tv},Gq m t->Gq m' t
 |.non,q=>trivial
 |.bl _,q=>trivial
 |.int i,q=>by simp only[Gq]at q ⊢;omega
 |.str x,q=>by simpa only[Gq]using q
 |.tup ts,q=>by simp only[Gq]at q ⊢;exact Gqs.mono h q
 |.lst ts,q=>by simp only[Gq]at q ⊢;exact Gqs.mono h q
def Gqs.mono{m m':Nat}(h:m<=m'):∀{ts:List Tv},Gqs m ts->Gqs m' ts
 |[],q=>trivial
 |t::ts,q=>by simp only[Gqs]at q ⊢;exact⟨Gq.mono h q.1,Gqs.mono h q.2⟩
end
structure OkV(w dp:Nat)(p:PyData):Prop where
 sh:p.showable=true
 lay:p.canLay0=true
 it:p.intsShort 90=true
 dp:p.depth<=dp
 wt:p.weight+1<=w
structure OkVs(w dp:Nat)(p:List PyData):Prop where
 sh:PyData.showableAll p=true
 lay:PyData.canLayAll0 p=true
 it:PyData.intsShortAll 90 p=true
 dp:PyData.depthAll p<=dp
 wt:PyData.weightAll p<=w
def OkV.tup{w dp:Nat}{p:List PyData}(h:OkVs w dp p):OkV (w+1) (dp+1) (.tuple p):=by
 refine⟨?_,?_,?_,?_,?_⟩
 .rw[PyData.showable];exact h.sh
 .rw[PyData.canLay0];exact h.lay
 .rw[PyData.intsShort];exact h.it
 .rw[PyData.depth];have:=h.dp;omega
 .rw[PyData.weight];have:=h.wt;omega
def OkV.lst{w dp:Nat}{p:List PyData}(h:OkVs w dp p):OkV (w+1) (dp+1) (.list p):=by
 refine⟨?_,?_,?_,?_,?_⟩
 .rw[PyData.showable];exact h.sh
 .rw[PyData.canLay0];exact h.lay
 .rw[PyData.intsShort];exact h.it
 .rw[PyData.depth];have:=h.dp;omega
 .rw[PyData.weight];have:=h.wt;omega
def OkVs.nil{w dp:Nat}:OkVs w dp []:=⟨by simp[PyData.showableAll],by simp[PyData.canLayAll0],by simp[PyData.intsShortAll],by simp[PyData.depthAll],by simp[PyData.weightAll]⟩
def OkVs.cons{w w' dp:Nat}{d:PyData}{ds:List PyData}(h:OkV w dp d)(t:OkVs w' dp ds):OkVs (w+w') dp (d::ds):=by
 refine⟨by simp[PyData.showableAll,h.sh,t.sh],by simp[PyData.canLayAll0,h.lay,t.lay],by simp[PyData.intsShortAll,h.it,t.it],?_,?_⟩
 .simp only[PyData.depthAll];exact Nat.max_le.mpr ⟨h.dp,t.dp⟩
 .simp only[PyData.weightAll];have:=h.wt;have:=t.wt;omega
def OkV.mono{w w' dp dp':Nat}{d:PyData}(h:OkV w dp d)(a:w<=w')(b:dp<=dp'):OkV w' dp' d:=⟨h.sh,h.lay,h.it,le_trans h.dp b,le_trans h.wt a⟩
def OkVs.mono{w w' dp dp':Nat}{d:List PyData}(h:OkVs w dp d)(a:w<=w')(b:dp<=dp'):OkVs w' dp' d:=⟨h.sh,h.lay,h.it,le_trans h.dp b,le_trans h.wt a⟩
mutual
def J7:∀{p:PyData},p.intsShort 13=true->p.intsShort 90=true
 |.none,h=>by simp[PyData.intsShort]
 |.bool _,h=>by simp[PyData.intsShort]
 |.str _,h=>by simp[PyData.intsShort]
 |.dict _,h=>by simp[PyData.intsShort]
 |.int i,h=>by
  simp only[PyData.intsShort,decide_eq_true_eq]at h ⊢;omega
 |.list xs,h=>by simp only[PyData.intsShort]at h ⊢;exact F7 h
 |.tuple xs,h=>by simp only[PyData.intsShort]at h ⊢;exact F7 h
def F7:∀{p:List PyData},PyData.intsShortAll 13 p=true->PyData.intsShortAll 90 p=true
 |[],h=>by simp[PyData.intsShortAll]
 |x::xs,h=>by
  simp only[PyData.intsShortAll,Bool.and_eq_true]at h ⊢;exact⟨J7 h.1,F7 h.2⟩
end
def OkV.of{w dp:Nat}{p:PyData}(h:OkP w dp p):OkV (w+1) dp p:=⟨h.sh,h.lay,J7 h.it,h.dp,by have:=h.wt;omega⟩
def OkV.repr{w dp:Nat}{p:PyData}(h:OkV w dp p)(hd:PyProof.Rows.isDisplay p=true)(h1:dp<=30)(h2:w<=100000):Gi p:=by
 refine⟨h.sh,PyData.hasDict_of_canLay p h.lay,hd,le_trans h.dp h1,?_⟩;have:=PyData.shown_le 90 (by decide) p (PyData.leavesShort_of_canLay0 90 p h.lay h.it);have hw:=h.wt;rw[sizeLine_eq];omega
mutual
def Gq.ok{m:Nat}(hm:m<=10^70):∀{t:Tv},Gq m t->OkV (wt t) (dep t) (pyT t)
 |.non,q=>⟨by simp[pyT,PyData.showable],by simp[pyT,PyData.canLay0],by simp[pyT,PyData.intsShort],by simp[pyT,PyData.depth],by simp[pyT,PyData.weight,wt]⟩
 |.bl _,q=>⟨by simp[pyT,PyData.showable],by simp[pyT,PyData.canLay0],by simp[pyT,PyData.intsShort],by simp[pyT,PyData.depth],by simp[pyT,PyData.weight,wt]⟩
 |.int i,q=>by
  simp only[Gq]at q;have h1:i.natAbs<10^71:=lt_of_le_of_lt (le_trans q hm) (by decide);have h0:i.natAbs<2^240:=lt_of_lt_of_le h1 (by decide);have lg:i.natAbs.log2<240:=by
   by_cases z:i.natAbs=0
   .rw[z];decide
   .exact(log2_lt z).mpr h0
  refine⟨?_,by simp[pyT,PyData.canLay0],?_,by simp[pyT,PyData.depth],?_⟩
  .simp only[pyT,PyData.showable];exact decide_eq_true (by omega)
  .simp only[pyT,PyData.intsShort,PyData.shown];refine decide_eq_true ?_;have h2:=int_text_length_le10 (a:=i) (k:=71) (by decide) h1;rw[PySem.ofString_length];omega
  .simp only[pyT,PyData.weight,wt];split<;>omega
 |.str x,q=>by
  simp only[Gq]at q;refine⟨by simp[pyT,PyData.showable],?_,by simp[pyT,PyData.intsShort],by simp[pyT,PyData.depth],by simp only[pyT,PyData.weight,wt];exact le_refl _⟩;simp only[pyT,PyData.canLay0,PyData.strOk];rw[Array.all_eq_true'];intro c hc;have:=q c (by simpa using hc);simp;omega
 |.tup ts,q=>by
  simp only[Gq]at q;rw[pyT,wt,dep];exact .tup (Gqs.ok hm q)
 |.lst ts,q=>by
  simp only[Gq]at q;rw[pyT,wt,dep];exact .lst (Gqs.ok hm q)
def Gqs.ok{m:Nat}(hm:m<=10^70):∀{ts:List Tv},Gqs m ts->OkVs (wts ts) (Aq ts) (E1 ts)
 |[],q=>.nil
 |t::ts,q=>by
  simp only[Gqs]at q;rw[E1,wts,Aq];exact .cons ((Gq.ok hm q.1).mono (le_refl _) (by omega)) ((Gqs.ok hm q.2).mono (le_refl _) (by omega))
end
end
end An
namespace An
open PySem L2 Bd
section
variable{n n':Nat}{hd hd':Hd}
mutual
def ofI:I->Tv
 |.non=>.non
 |.bl b=>.bl b
 |.int i=>.int i
 |.str x=>.str x
 |.tup l=>.tup (Lr l)
def Lr:List I->List Tv
 |[]=>[]
 |i::l=>ofI i::Lr l
end
mutual
def AO:∀(i:I),Is n hd (ofI i) (.im i)
 |.non=>by simp only[ofI,Is]
 |.bl _=>by simp only[ofI,Is]
 |.int _=>by simp only[ofI,Is]
 |.str _=>by simp only[ofI,Is]
 |.tup l=>by
  simp only[ofI,Is];exact⟨l.map D.im,(CJ l).symm,NW l⟩
def NW:∀(l:List I),Iss n hd (Lr l) (l.map D.im)
 |[]=>Iss.nil
 |i::l=>by rw[Lr,map_cons];exact .cons (AO i) (NW l)
end
def tl:Tv->Nat
 |.tup l=>l.length
 |.lst l=>l.length
 |_=>0
structure Bo(m w dp l:Nat)(t:Tv):Prop where
 gd:Gq m t
 wt:wt t<=w
 dp:dep t<=dp
 tl:tl t<=l
def Bo.mono{m w dp l m' w' dp' l':Nat}{t:Tv}(h:Bo m w dp l t)(h1:m<=m')(h2:w<=w')(h3:dp<=dp')(h4:l<=l'):Bo m' w' dp' l' t:=⟨h.gd.mono h1,le_trans h.wt h2,le_trans h.dp h3,le_trans h.tl h4⟩
def FU{m w dp l:Nat}{ts:List Tv}(h1:∀t∈ts,Gq m t)(h2:wts ts+1<=w)(h3:Aq ts+1<=dp)(h4:ts.length<=l):Bo m w dp l (.tup ts):=⟨by simp only[Gq];exact gds_iff.mpr h1,by simpa only[An.wt]using h2,by simpa only[dep]using h3,by simpa only[An.tl]using h4⟩
def Jt{m w dp l:Nat}{ts:List Tv}(h1:∀t∈ts,Gq m t)(h2:wts ts+1<=w)(h3:Aq ts+1<=dp)(h4:ts.length<=l):Bo m w dp l (.lst ts):=⟨by simp only[Gq];exact gds_iff.mpr h1,by simpa only[An.wt]using h2,by simpa only[dep]using h3,by simpa only[An.tl]using h4⟩
def Do{m w dp l:Nat}{i:Int}(h1:i.natAbs<=m)(h2:i.natAbs.log2+2<=w):Bo m w dp l (.int i):=⟨by simpa only[Gq]using h1,by simpa only[An.wt]using h2,by simp[dep],by simp[An.tl]⟩
def D5{m w dp l:Nat}{x:Str}(h1:∀c∈x.cps.toList,c<128)(h2:x.length+1<=w):Bo m w dp l (.str x):=⟨by simpa only[Gq]using h1,by simpa only[An.wt]using h2,by simp[dep],by simp[An.tl]⟩
def Il{m w dp l:Nat}{b:Bool}(h2:1<=w):Bo m w dp l (.bl b):=⟨trivial,by simpa only[An.wt]using h2,by simp[dep],by simp[An.tl]⟩
def O0{m w dp l:Nat}(h2:1<=w):Bo m w dp l .non:=⟨trivial,by simpa only[An.wt]using h2,by simp[dep],by simp[An.tl]⟩
def Bo.tup{m w dp l:Nat}{ts:List Tv}(h:Bo m w dp l (.tup ts)):(∀t∈ts,Gq m t)/\wts ts+1<=w/\Aq ts+1<=dp/\ts.length<=l:=by
 have h1:=h.gd;have h2:=h.wt;have h3:=h.dp;have h4:=h.tl;simp only[Gq]at h1;simp only[An.wt]at h2;simp only[dep]at h3;simp only[An.tl]at h4;exact⟨gds_iff.mp h1,h2,h3,h4⟩
def QC{ts:List Tv}{ds:List D}{r:Int}(h:Iss n hd ts ds)(h0:0<=r)(h1:r<ts.length):∃d t,atI ds r=some d/\t∈ts/\Is n hd t d:=by
 obtain⟨k,rfl⟩:∃k:Nat,r=(k:Int):=⟨r.toNat,by omega⟩
 have hk:k<ts.length:=by omega
 obtain⟨d,e,q⟩:=h.get (List.getElem?_eq_getElem hk);exact⟨d,_,D8 rfl e,List.getElem_mem hk,q⟩
def sIx_nat(l d k:Nat):HT.sIx l d (some (k:Int))=min k l:=by
 unfold HT.sIx;have h:¬ ((k:Int)<0):=by omega
 simp[h]
def Ji(xs:List D)(k:Nat):BI xs none (some (k:Int))=xs.take k:=by
 unfold BI;rw[sIx_nat,show HT.sIx xs.length 0 none=0 from rfl,List.drop_zero,Nat.sub_zero,<- List.take_eq_take_min]
def Jj(xs:List D)(k:Nat):BI xs (some (k:Int)) none=xs.drop k:=by
 unfold BI;rw[sIx_nat,show HT.sIx xs.length xs.length none=xs.length from rfl,take_of_length_le (by simp)];by_cases h:k<=xs.length
 .rw[Nat.min_eq_left h]
 .rw[Nat.min_eq_right (by omega),List.drop_of_length_le (le_refl _),List.drop_of_length_le (by omega)]
def TC(xs:List D)(k j:Nat)(hj:j=k+2):BI xs (some (k:Int)) (some (j:Int))=(xs.drop k).take 2:=by
 subst hj;unfold BI;rw[sIx_nat,sIx_nat];by_cases h:k<=xs.length
 .rw[Nat.min_eq_left h];by_cases h2:k+2<=xs.length
  .rw[Nat.min_eq_left h2,show k+2-k=2 by omega]
  .rw[Nat.min_eq_right (by omega),take_of_length_le (by simp),take_of_length_le (by simp;omega)]
 .rw[List.drop_of_length_le (show xs.length<=min k xs.length by omega),List.drop_of_length_le (show xs.length<=k by omega)];simp
end
section
variable{hd:Hd}{QE:D->Hd->Prop}{d e:D}{xs ys:List D}
def O5(h:A9 d=some xs):Hh d e hd=none:=by
 cases d with
 |im i=>cases i with
  |tup is=>rfl
  |_=>cases h
 |tm _=>rfl
 |mu _=>cases h
 |ro _=>cases h
def Cj(h1:A9 d=some xs)(h2:A9 e=some ys)(hn:xs≠[])(hl:xs.length+ys.length<=1000000)(q:QE (AD (xs++ys)) hd):WP (AC d e hd) QE:=by
 refine⟨_,_,?_,q⟩;show Bc Hh DI d e hd=_;unfold Bc;rw[O5 h1];show DI d e hd=_;unfold DI;rw[h1,bind_some,h2,bind_some,if_pos ⟨hn,AR hl⟩]
def CO(h1:A9 d=some xs)(h2:A9 e=some ys)(hl:xs.length+ys.length<=1000000)(q:QE (AD (xs++ys)) hd):WP (Bb d e hd) QE:=by
 by_cases hn:xs=[]
 .subst hn;refine⟨_,_,?_,q⟩;show Bc AC Er d e hd=_;unfold Bc;have:AC d e hd=none:=by
   show Bc Hh DI d e hd=_;unfold Bc;rw[O5 h1];show DI d e hd=_;unfold DI;rw[h1,bind_some,h2,bind_some,if_neg (λc=>c.1 rfl)]
  rw[this];show Er d e hd=_;unfold Er;rw[h1,bind_some,h2,bind_some,if_pos rfl];rfl
 .obtain⟨z,x,e1,q1⟩:=Cj (hd:=hd) (QE:=QE) h1 h2 hn hl q;refine⟨z,x,?_,q1⟩;show Bc AC Er d e hd=_;unfold Bc;rw[e1]
def KF{k:Nat}(hk:k<=1000)(q:QE (.im (.int ((10:Int)^k))) hd):WP (GG (.im (.int 10)) (.im (.int (k:Int))) hd) QE:=by
 have:Ic 10 (k:Int):=⟨by omega,by omega,by decide⟩
 exact⟨_,_,by simp[this],q⟩
end
end An
namespace An
open PySem L2 Bd
abbrev Asc(x:Str):Prop:=∀c∈x.cps.toList,c<128
def TK{x y:Str}(h:Asc x)(k:Asc y):Asc (x++y):=by
 intro c hc;have:c∈(x.cps++y.cps).toList:=hc;rw[Array.toList_append,mem_append]at this;rcases this with q|q
 .exact h c q
 .exact k c q
def T1(x y:Str):(x++y).length=x.length+y.length:=by
 show(x.cps++y.cps).size=_;simp;rfl
def O2{x:Str}(h:Asc x)(L:List Nat):Asc ⟨(L.filterMap (x.cps[·]?)).toArray⟩:=by
 intro c hc;simp only[mem_filterMap]at hc;obtain⟨k,_,e⟩:=hc;exact h c (by simpa using Array.mem_of_getElem? e)
def TH{x:Str}(h:Asc x):Asc (F9 x):=O2 h _
def TJ{x:Str}(h:Asc x)(l u:Option Int):Asc (Eu x l u):=by
 unfold Eu Txt.slice;split
 .exact h
 .exact O2 h _
def W1(x:Str)(l u:Option Int):(Eu x l u).length<=x.length:=Txt.slice_le x l u
def W7{x:Str}(h:Asc x):Asc (Txt.upper x)/\(Txt.upper x).length=x.length:=by
 rw[PyProof.Rows.upper_ascii h];refine⟨λc hc=>?_,by show(x.cps.map _).size=_;rw[Array.size_map];rfl⟩;simp only[Array.toList_map,mem_map]at hc;obtain⟨b,hb,rfl⟩:=hc;have key:∀b,b<128->PyProof.Rows.up1 b<128:=by decide +kernel
 exact key b (h b hb)
def Kz(i:Int):Asc (Str.ofString (toString i)):=by
 intro c hc;refine Classical.byContradiction λz=>?_;exact PyProof.Rows.int_text_free' c ⟨by omega,by omega⟩ i hc
def Kj{i:Int}(h:i.natAbs<10^71):(Str.ofString (toString i)).length<=72:=by
 have h2:=int_text_length_le10 (a:=i) (k:=71) (by decide) h;rw[PySem.ofString_length];exact h2
section
variable{ls:Ls}{hd:Hd}{QE:D->Hd->Prop}{d:D}{ds:List D}{i j k:Nat}
def IZ(h1:ls[i]?=some (some d))(hv:A9 d=some ds)(h2:ls[j]?=some (some (.im (.int (k:Int)))))(q:QE (AD (ds.take k)) hd):WE (Al (A1 i) AI (AN (A1 j))) ls hd QE:=
 F2 (A3 h1 (Eb (C0 (A3 h2 ⟨_,rfl,ds,hv,by rw[Ji];exact q⟩))))
def LS(h1:ls[i]?=some (some d))(hv:A9 d=some ds)(h2:ls[j]?=some (some (.im (.int (k:Int)))))(q:QE (AD (ds.drop k)) hd):WE (Al (A1 i) (AN (A1 j)) AI) ls hd QE:=
 F2 (A3 h1 (C0 (A3 h2 ⟨_,rfl,Eb ⟨ds,hv,by rw[Jj];exact q⟩⟩)))
def Mh(h1:ls[i]?=some (some d))(hv:A9 d=some ds)(h2:ls[j]?=some (some (.im (.int (k:Int)))))(q:QE (AD (ds.take (k+1))) hd):WE (Al (A1 i) AI (AN (mOp AC (A1 j) (mC (.int 1))))) ls hd QE:=
 F2 (A3 h1 (Eb (C0 (AK (A3 h2 (AF (Cw ⟨_,rfl,ds,hv,by rw[show((k:Int)+1)=((k+1:Nat):Int) by omega,Ji];exact q⟩)))))))
def J5{c:Nat}(h1:ls[i]?=some (some d))(hv:A9 d=some ds)(h2:ls[j]?=some (some (.im (.int (k:Int)))))(q:QE (AD (ds.drop (k+c))) hd):WE (Al (A1 i) (AN (mOp AC (A1 j) (mC (.int (c:Int))))) AI) ls hd QE:=
 F2 (A3 h1 (C0 (AK (A3 h2 (AF (Cw ⟨_,rfl,Eb ⟨ds,hv,by rw[show((k:Int)+(c:Int))=((k+c:Nat):Int) by omega,Jj];exact q⟩⟩))))))
def Te(h1:ls[i]?=some (some d))(hv:A9 d=some ds)(h2:ls[j]?=some (some (.im (.int (k:Int)))))(q:QE (AD ((ds.drop k).take 2)) hd):WE (Al (A1 i) (AN (A1 j)) (AN (mOp AC (A1 j) (mC (.int 2))))) ls hd QE:=
 F2 (A3 h1 (C0 (A3 h2 ⟨_,rfl,C0 (AK (A3 h2 (AF (Cw ⟨_,rfl,ds,hv,by rw[show((k:Int)+2)=((k+2:Nat):Int) by omega,TC _ _ _ rfl];exact q⟩))))⟩)))
end
def CN(ts:List Tv)(k:Nat):wts (ts.take k)+wts (ts.drop k)=wts ts:=by rw[<- Bg,List.take_append_drop]
def KB(ts:List Tv):wts ts.reverse=wts ts:=O6 (List.reverse_perm ts)
def EU{m w dp l:Nat}{ts us:List Tv}(hm:10^50<=m)(h:Bo m w dp l (.tup ts))(hs:∀u∈us,u∈ts∨Bo (10^50) 200 2 2 u)(hw:wts us<=2*wts ts+200)(hl:us.length<=ts.length+1):Bo (m+1) (2*w+400) (dp+4) (max l 2+1) (.tup us)/\Bo (m+1) (2*w+400) (dp+4) (max l 2+1) (.lst us):=by
 obtain⟨h1,h2,h3,h4⟩:=h.tup;have g:∀t∈us,Gq (m+1) t:=λt ht=>by
  rcases hs t ht with q|q
  .exact(h1 t q).mono (by omega)
  .exact q.gd.mono (by omega)
 have p:Aq us+1<=dp+4:=by
  refine Nat.succ_le_succ (le_trans (ER (k:=dp+3) λt ht=>?_) (by omega));rcases hs t ht with q|q
  .have:=ES q;omega
  .have:=q.dp;omega
 exact⟨FU g (by omega) p (by omega),Jt g (by omega) p (by omega)⟩
def PV(n:Nat):(n+1).log2<=n.log2+1:=by
 by_cases z:n=0
 .subst z;decide
 .have h1:=Nat.lt_log2_self (n:=n);refine Nat.le_of_lt_succ ((log2_lt (by omega)).mpr ?_);rw[Nat.pow_succ];have:2^(n.log2+1)>=n+1:=h1;omega
def Em{a b:Nat}(h:a<=b):a.log2<=b.log2:=by
 by_cases z:a=0
 .subst z;rw[show Nat.log2 0=0 from by decide];exact zero_le _
 .refine Nat.le_of_lt_succ ((log2_lt z).mpr (lt_of_le_of_lt h ?_));exact Nat.lt_log2_self
end An
namespace L2
open PySem PySem.W PyProof.Rows
def feE{K:PySem.W.Frag}{e:Df}{n:Str}{s:Stmt}(h:Ea.Fe K n s)(hn:e.x=n:=by rfl)(hs:e.st=s:=by rfl):Fe K e:=by subst hn;subst hs;exact h
def zsE{K:PySem.W.Frag}(h:Ea.Zs K):Zs K:=h
end L2
namespace T09
open PySem L2
abbrev Fo:Stmt:=top 1
def JB:FnScope ["thing"] ["thing"] (AM Fo):=Cb (by kernel_rfl)
@[reducible] def K5:MS:=(AX (El (BX .int (A1 0)) (DE (BX .bool (A1 0)))))
def CB:FD:=mkF 1 1 K5
abbrev E9:Df:=⟨"is_number",Fo,["thing"],1,CB⟩
abbrev GZ:Stmt:=top 3
def K1:FnScope ["works","wishes","thing"] ["works","wishes","thing"] (AM GZ):=Cb (by kernel_rfl)
@[reducible] def Lv:MS:=(A7 (B8 (mOr (GC (Br (BX .tuple (A1 2)))) (GC (Br (D7 GF (BU 1 [] (CL (A1 2)) (AU 0) E2 (Am CB (A0 (A1 0) A4)))))))
 (AX (mC (.bl false)))
 Au)
 (A7 (B8 (AJ (DH true (Cq (CL (A1 2))) (Dd (A0 (mCB (f1 true BH) (A0 (A1 0) A4)) A4))))
  (AX (mC (.bl false)))
  Au)
 (AX (D7 GF (BU 2 [2] (CL (A1 1)) (G8 2 (Ca (AU 0) (Ca (AU 1) G9))) E2 (mOp gLt (GD EO (A1 2) (A0 (A1 0) A4)) (GD EO (A1 2) (A0 (A1 1) A4))))))))
def Ci:FD:=mkF 3 3 Lv
abbrev Et:Df:=⟨"is_order",GZ,["works","wishes","thing"],2,Ci⟩
abbrev Mk:Stmt:=top 5
def Qo:FnScope ["_law_script"] ["_law_script"] (AM Mk):=Cb (by kernel_rfl)
@[reducible] def Yn:MS:=(AX (Gn [((mC (.str "cells")),(AY (EL (FF (A1 0) AI (AN (mC (.int 63))))))),((mC (.str "next")),(mC (.int 0))),((mC (.str "left")),(mC (.int 0))),((mC (.str "turn")),(mC (.int 0)))]))
def F_tape:FD:=mkF 1 1 Yn
abbrev Jd:Df:=⟨"_law_tape",Mk,["_law_script"],1,F_tape⟩
abbrev Ml:Stmt:=top 6
def Qp:FnScope ["_law_tape_here","_law_many","_law_found","_law_cells","_law_at","_law_turn","_law_cell","_law_mixed"] ["_law_tape_here","_law_many"] (AM Ml):=Cb (by kernel_rfl)
@[reducible] def Yo:MS:=(A7 (Bn (A1 0) (mC (.str "turn")) (mOp AC (mOp B3 (A1 0) (mC (.str "turn"))) (mC (.int 1))))
 (A7 (B8 (AJ (mOp gGt (mOp B3 (A1 0) (mC (.str "left"))) (mC (.int 0))))
  (A7 (AG 2 (mOp BR (mOp B3 (A1 0) (mC (.str "left"))) (A1 1)))
 (A7 (Bn (A1 0) (mC (.str "left")) (mOp Dv (mOp B3 (A1 0) (mC (.str "left"))) (A1 1)))
 (AX (A1 2))))
  Au)
 (A7 (Gm 3 4 5 (A0 (mOp B3 (A1 0) (mC (.str "cells"))) (A0 (mOp B3 (A1 0) (mC (.str "next"))) (A0 (mOp B3 (A1 0) (mC (.str "turn"))) A4))))
 (A7 (AG 6 (mIf (AJ (Cd true (A1 3) (AV A4))) (mOp gIx (A1 3) (mOp BR (A1 4) (mCB (f1 true BH) (A0 (A1 3) A4)))) (mC (.int 23))))
 (A7 (Bn (A1 0) (mC (.str "next")) (mOp AC (A1 4) (mC (.int 1))))
 (A7 (B8 (Dg (AJ (mOp gGe (A1 6) (mOp GG (mC (.int 10)) (mC (.int 18))))) (AJ (mOp gLt (A1 4) (mCB (f1 true BH) (A0 (A1 3) A4)))))
  (A7 (Bn (A1 0) (mC (.str "left")) (mOp Dv (A1 6) (A1 1)))
 (AX (mOp BR (A1 6) (A1 1))))
  Au)
 (A7 (AG 7 (mOp BR (mOp AC (mOp AC (mOp BR (A1 6) (mC (.int 2147483587))) (mOp Cf (mC (.int 104729)) (A1 5))) (mC (.int 17))) (mC (.int 2147483629))))
 (A7 (AG 7 (mOp BR (mOp AC (mOp Cf (A1 7) (A1 7)) (mOp Cf (mC (.int 48271)) (A1 5))) (mC (.int 2147483647))))
 (A7 (AG 7 (mOp BR (mOp AC (mOp AC (mOp Cf (A1 7) (A1 7)) (mOp Cf (mC (.int 7919)) (A1 7))) (A1 5)) (mC (.int 2147483629))))
 (AX (mOp BR (mOp Dv (A1 7) (mC (.int 128))) (A1 1))))))))))))
def F_pick:FD:=mkF 2 8 Yo
abbrev C8:Df:=⟨"_law_pick",Ml,["_law_tape_here","_law_many"],1,F_pick⟩
abbrev Hz:Stmt:=top 7
def LU:FnScope ["_law_tape_here","_law_some"] ["_law_tape_here"] (AM Hz):=Cb (by kernel_rfl)
@[reducible] def NR:MS:=(A7 (AG 1 (AY (AV (A0 (mC .non) (A0 (mC (.bl true)) (A0 (mC (.bl false)) (A0 (mC (.str "")) (A0 (mC (.str "late")) (A0 (mC (.str "0")) (A0 (AS A4) (A0 (AY (AV A4)) (A0 (AS (A0 (mC (.int 0)) A4)) (A0 (AY (AV (A0 (mC (.int 2)) A4))) (A0 (CK (mC (.int 1))) (A0 (mC (.int 0)) (A0 (mC (.int 1)) (A0 (mC (.int 3)) (A0 (mOp GG (mC (.int 10)) (mC (.int 50))) (A0 (AS (A0 (AS A4) A4)) (A0 (AS (A0 (mC (.int 0)) (A0 (mC (.int 1)) A4))) (A0 (AS (A0 (mC (.str "ends")) (A0 (mC (.int 2)) A4))) A4)))))))))))))))))))))
 (AX (mOp gIx (A1 1) (A6 2 F_pick (A0 (A1 0) (A0 (mC (.int 18)) A4))))))
def Dy:FD:=mkF 1 2 NR
abbrev FP:Df:=⟨"_law_strange",Hz,["_law_tape_here"],2,Dy⟩
abbrev JD:Stmt:=top 8
def Qs:FnScope ["_law_tape_here","_law_thing","_law_deep","_law_at","_law_way","_law_odd","_law_some"] ["_law_tape_here","_law_thing","_law_deep"] (AM JD):=Cb (by kernel_rfl)
@[reducible] def NS(EY:FD):MS:=(A7 (B8 (Dg (Br (BX .tuple (A1 1))) (Dg (AJ (mOp (Hf true) (A1 1) (AS A4))) (Dg (AJ (mOp gGt (A1 2) (mC (.int 0)))) (AJ (mOp gGt (A6 2 F_pick (A0 (A1 0) (A0 (mC (.int 5)) A4))) (mC (.int 0)))))))
 (A7 (AG 3 (A6 2 F_pick (A0 (A1 0) (A0 (mCB (f1 true BH) (A0 (A1 1) A4)) A4))))
 (AX (mOp AC (mOp Bb (Al (A1 1) AI (AN (A1 3))) (AS (A0 (Am EY (A0 (A1 0) (A0 (mOp gIx (A1 1) (A1 3)) (A0 (mOp Bp (A1 2) (mC (.int 1))) A4)))) A4))) (Al (A1 1) (AN (mOp AC (A1 3) (mC (.int 1)))) AI))))
  Au)
 (A7 (AG 4 (A6 2 F_pick (A0 (A1 0) (A0 (mC (.int 7)) A4))))
 (A7 (AG 5 (Am Dy (A0 (A1 0) A4)))
 (A7 (B8 (Br (BX .tuple (A1 1)))
  (A7 (AG 3 (A6 2 F_pick (A0 (A1 0) (A0 (mOp AC (mCB (f1 true BH) (A0 (A1 1) A4)) (mC (.int 1))) A4))))
 (A7 (AG 6 (AY (AV (A0 (AY (DF (A1 1))) (A0 (mOp AC (mOp Bb (Al (A1 1) AI (AN (A1 3))) (AS (A0 (A1 5) A4))) (Al (A1 1) (AN (A1 3)) AI)) (A0 (mOp Bb (Al (A1 1) AI (AN (A1 3))) (Al (A1 1) (AN (mOp AC (A1 3) (mC (.int 1)))) AI)) (A0 (mOp Bb (Al (A1 1) AI (AN (mOp AC (A1 3) (mC (.int 1))))) (Al (A1 1) (AN (A1 3)) AI)) A4)))))))
 (AX (B7 (E4 (A1 6) (AY (AV (A0 (mOp Bb (mOp Bb (Al (A1 1) AI (AN (A1 3))) (Du (Al (A1 1) (AN (A1 3)) (AN (mOp AC (A1 3) (mC (.int 2))))) (CK (mC (.int 1))))) (Al (A1 1) (AN (mOp AC (A1 3) (mC (.int 2)))) AI)) (A0 (Cc (A1 1) (CK (mC (.int 1)))) (A0 (A1 5) A4)))))) (A1 4)))))
  Au)
 (A7 (B8 (Br (BX .bool (A1 1)))
  (AX (B7 (AV (A0 (DE (A1 1)) (A0 (mCB Ja (A0 (A1 1) A4)) (A0 (mCB Dj (A0 (A1 1) A4)) (A0 (AS (A0 (A1 1) A4)) (A0 (mC .non) (A0 (AY (AV (A0 (A1 1) A4))) (A0 (A1 5) A4)))))))) (A1 4)))
  Au)
 (A7 (B8 (Br (BX .int (A1 1)))
  (AX (B7 (AV (A0 (mOp AC (A1 1) (mC (.int 1))) (A0 (mOp Bp (A1 1) (mC (.int 1))) (A0 (mOp Bp (mC (.int 0)) (A1 1)) (A0 (mOp gEq (A1 1) (mC (.int 1))) (A0 (mCB Dj (A0 (A1 1) A4)) (A0 (AS (A0 (A1 1) A4)) (A0 (A1 5) A4)))))))) (A1 4)))
  Au)
 (A7 (B8 (Br (BX .str (A1 1)))
  (AX (B7 (AV (A0 (mOp Fh (A1 1) (mC (.str "s"))) (A0 (GB (A1 1) AI (AN (CK (mC (.int 1))))) (A0 (GA (A1 1)) (A0 (Cc (A1 1) (CK (mC (.int 1)))) (A0 (AS (A0 (A1 1) A4)) (A0 (mC (.str "steps")) (A0 (A1 5) A4)))))))) (A1 4)))
  Au)
 (AX (A1 5)))))))))
def FV:Nat->FD
 |0=>λ_ _=>none
 |n+1=>mkF 3 7 (NS (FV n))
abbrev EY:FD:=FV 4
abbrev Jg:Df:=⟨"_law_bent",JD,["_law_tape_here","_law_thing","_law_deep"],6,EY⟩
abbrev F8:Stmt:=top 9
def IV:FnScope ["_law_thing"] ["_law_thing"] (AM F8):=Cb (by kernel_rfl)
@[reducible] def JT:MS:=(AX (El (BX .int (A1 0)) (DE (BX .bool (A1 0)))))
def Dp:FD:=mkF 1 1 JT
abbrev Dl:Df:=⟨"_law_is_number",F8,["_law_thing"],1,Dp⟩
abbrev Mn:Stmt:=top 10
def Qr:FnScope ["_law_tape_here","_law_way","_law_due","_law_weight","_law_start","_law_told","_law_rows","_law_k"] ["_law_tape_here","_law_way"] (AM Mn):=Cb (by kernel_rfl)
@[reducible] def Yj:MS:=(A7 (AG 2 (mIf (AJ (mOp gEq (A6 2 F_pick (A0 (A1 0) (A0 (mC (.int 4)) A4))) (mC (.int 0)))) (mOp Bp (A6 2 F_pick (A0 (A1 0) (A0 (mC (.int 500)) A4))) (mC (.int 99))) (mOp Bp (A6 2 F_pick (A0 (A1 0) (A0 (mC (.int 40)) A4))) (mC (.int 5)))))
 (A7 (AG 3 (A6 2 F_pick (A0 (A1 0) (A0 (mC (.int 10)) A4))))
 (A7 (B8 (AJ (mOp gLt (A1 1) (mC (.int 4))))
  (AX (B7 (AV (A0 (AS (A0 (mC (.str "late")) (A0 (A1 2) A4))) (A0 (AS (A0 (mC (.str "tardy")) (A0 (A1 2) (A0 (A1 3) A4)))) (A0 (AS (A0 (mC (.str "miss")) (A0 (A1 2) (A0 (A1 3) A4)))) (A0 (AS (A0 (mC (.str "ends")) (A0 (A1 3) A4))) A4))))) (A1 1)))
  Au)
 (A7 (Ej [4,5] (A0 (mCB Es (A0 (A1 2) (A0 (mC (.int 200)) A4))) (A0 (mC (.int 0)) A4)))
 (A7 (AG 6 (AY (AV A4)))
 (A7 (BG (Bl (A0 (mOp AC (mC (.int 1)) (A6 2 F_pick (A0 (A1 0) (A0 (mC (.int 5)) A4)))) A4)) (AU 7)
  (A7 (AG 4 (mOp AC (mOp AC (A1 4) (mC (.int 1))) (A6 2 F_pick (A0 (A1 0) (A0 (mC (.int 40)) A4)))))
 (A7 (AG 5 (mOp AC (A1 5) (A6 2 F_pick (A0 (A1 0) (A0 (mC (.int 20)) A4)))))
 (BM (mMt Aj (A1 6) (A0 (AS (A0 (A1 4) (A0 (A1 5) A4))) A4))))))
 (AX (AS (A0 (mC (.str "steps")) (A0 (mCB (f1 true BN) (A0 (A1 6) A4)) A4))))))))))
def HR:FD:=mkF 2 8 Yj
abbrev Jf:Df:=⟨"_law_cost",Mn,["_law_tape_here","_law_way"],2,HR⟩
abbrev KO:Stmt:=top 11
def OX:FnScope ["_law_tape_here","_law_many","_law_alike","_law_begin","_law_wide","_law_found","_law_k","_law_coming"] ["_law_tape_here","_law_many","_law_alike"] (AM KO):=Cb (by kernel_rfl)
@[reducible] def Ym:MS:=(A7 (AG 3 (mOp Cf (A6 2 F_pick (A0 (A1 0) (A0 (mC (.int 61)) A4))) (A6 2 F_pick (A0 (A1 0) (A0 (mC (.int 2)) A4)))))
 (A7 (AG 4 (B7 (AV (A0 (mC (.int 3)) (A0 (mC (.int 20)) A4))) (A6 2 F_pick (A0 (A1 0) (A0 (mC (.int 2)) A4)))))
 (A7 (AG 5 (AY (AV A4)))
 (A7 (BG (Bl (A0 (A1 1) A4)) (AU 6)
  (A7 (AG 7 (mIf (Br (A1 2)) (A1 3) (A6 2 F_pick (A0 (A1 0) (A0 (B7 (AV (A0 (mC (.int 8)) (A0 (mC (.int 61)) A4))) (A6 2 F_pick (A0 (A1 0) (A0 (mC (.int 2)) A4)))) A4)))))
 (BM (mMt Aj (A1 5) (A0 (AS (A0 (mOp AC (mC (.int 1)) (A6 2 F_pick (A0 (A1 0) (A0 (A1 4) A4)))) (A0 (A1 7) (A0 (A6 2 HR (A0 (A1 0) (A0 (A6 2 F_pick (A0 (A1 0) (A0 (mC (.int 5)) A4))) A4))) A4)))) A4)))))
 (AX (mCB (f1 true BN) (A0 (A1 5) A4)))))))
def F_works:FD:=mkF 3 8 Ym
abbrev Hj:Df:=⟨"_law_works",KO,["_law_tape_here","_law_many","_law_alike"],3,F_works⟩
abbrev JC:Stmt:=top 12
def Mj:FnScope ["_law_tape_here","_law_many","_law_left","_law_seq","_law_k","_law_dense","_law_found","_law_i","_law_j"] ["_law_tape_here","_law_many"] (AM JC):=Cb (by kernel_rfl)
@[reducible] def Yk:MS:=(A7 (AG 2 (AY (Dd (A0 (A1 1) A4))))
 (A7 (AG 3 (AY (AV A4)))
 (A7 (BG (Bl (A0 (A1 1) A4)) (AU 4)
  (BM (mMt Aj (A1 3) (A0 (mMt EN (A1 2) (A0 (A6 2 F_pick (A0 (A1 0) (A0 (mCB (f1 true BH) (A0 (A1 2) A4)) A4))) A4)) A4))))
 (A7 (AG 5 (B7 (AV (A0 (mC (.int 2)) (A0 (mC (.int 3)) (A0 (mC (.int 6)) A4)))) (A6 2 F_pick (A0 (A1 0) (A0 (mC (.int 3)) A4)))))
 (A7 (AG 6 (AY (AV A4)))
 (A7 (BG (Bl (A0 (A1 1) A4)) (AU 7)
  (BG (DG (A0 (mOp AC (A1 7) (mC (.int 1))) (A0 (A1 1) A4))) (AU 8)
  (B8 (AJ (mOp gEq (A6 2 F_pick (A0 (A1 0) (A0 (A1 5) A4))) (mC (.int 0))))
  (BM (mMt Aj (A1 6) (A0 (AS (A0 (mOp gIx (A1 3) (A1 7)) (A0 (mOp gIx (A1 3) (A1 8)) A4))) A4)))
  Au)))
 (AX (D7 BN (FF (AY (Cp (De (A1 6)))) AI (AN (mC (.int 16))))))))))))
def F_wishes:FD:=mkF 2 9 Yk
abbrev GJ:Df:=⟨"_law_wishes",JC,["_law_tape_here","_law_many"],2,F_wishes⟩
abbrev KP:Stmt:=top 13
def OY:FnScope ["_law_tape_here","_law_many","_law_wishes_here","_law_left","_law_found","_law_k","_law_some","_law_one"] ["_law_tape_here","_law_many","_law_wishes_here"] (AM KP):=Cb (by kernel_rfl)
@[reducible] def Sy:MS:=(A7 (AG 3 (AY (Dd (A0 (A1 1) A4))))
 (A7 (AG 4 (AY (AV A4)))
 (A7 (BG (Bl (A0 (A1 1) A4)) (AU 5)
  (FE (A7 (AG 6 (AY (BU 1 [2,3] (De (A1 3)) (AU 0) (AJ (DH false (BU 2 [0,2] (CL (A1 1)) (G8 2 (Ca (AU 0) (Ca (AU 1) G9))) (Dg (AJ (mOp gEq (A1 1) (A1 2))) (AJ (mOp (gIn false) (A1 0) (A1 3)))) (A1 0)) (AV A4))) (A1 0))))
 (A7 (AG 7 (mOp gIx (A1 6) (A6 2 F_pick (A0 (A1 0) (A0 (mCB (f1 true BH) (A0 (A1 6) A4)) A4)))))
 (A7 (BM (mMt EM (A1 3) (A0 (A1 7) A4)))
 (BM (mMt Aj (A1 4) (A0 (A1 7) A4))))))))
 (AX (mCB (f1 true BN) (A0 (A1 4) A4))))))
def EX:FD:=mkF 3 8 Sy
abbrev Hk:Df:=⟨"_law_order",KP,["_law_tape_here","_law_many","_law_wishes_here"],2,EX⟩
abbrev Fm:Stmt:=top 14
def JA:FnScope ["_law_many","_law_wishes_here","_law_thing","_law_places","_law_place","_law_one"] ["_law_many","_law_wishes_here","_law_thing"] (AM Fm):=Cb (by kernel_rfl)
@[reducible] def K4:MS:=(A7 (B8 (mOr (GC (Br (BX .tuple (A1 2)))) (mOr (AJ (mOp gNe (mCB (f1 true BH) (A0 (A1 2) A4)) (A1 0))) (AJ (E3 false (mC (.bl false)) (BU 1 [] (CL (A1 2)) (AU 0) E2 (Am Dp (A0 (A1 0) A4)))))))
 (AX (mC (.bl false)))
 Au)
 (A7 (AG 3 Ie)
 (A7 (BG (Fc (CL (A1 2))) (G8 2 (Ca (AU 4) (Ca (AU 5) G9)))
  (Bn (A1 3) (A1 5) (A1 4)))
 (A7 (B8 (AJ (E3 false (mC (.bl false)) (BU 1 [3] (Bl (A0 (A1 0) A4)) (AU 0) E2 (mOp (Hg false) (A1 0) (A1 1)))))
  (AX (mC (.bl false)))
  Au)
 (AX (E3 true (mC (.bl false)) (BU 2 [3] (CL (A1 1)) (G8 2 (Ca (AU 0) (Ca (AU 1) G9))) E2 (mOp gLt (mOp B3 (A1 2) (A1 0)) (mOp B3 (A1 2) (A1 1))))))))))
def CA:FD:=mkF 3 6 K4
abbrev E8:Df:=⟨"_law_is_order",Fm,["_law_many","_law_wishes_here","_law_thing"],2,CA⟩
abbrev Mm:Stmt:=top 15
def Qq:FnScope ["_law_tape_here","_law_many","_law_order_here","_law_at","_law_spot","_law_changed","_law_found","_law_one"] ["_law_tape_here","_law_many","_law_order_here"] (AM Mm):=Cb (by kernel_rfl)
@[reducible] def Va:MS:=(A7 (Ej [3,4] (A0 (A6 2 F_pick (A0 (A1 0) (A0 (A1 1) A4))) (A0 (A6 2 F_pick (A0 (A1 0) (A0 (A1 1) A4))) A4)))
 (A7 (AG 5 (AY (DF (A1 2))))
 (A7 (HW (AS (A0 (mOp gIx (A1 5) (A1 4)) (A0 (mOp gIx (A1 5) (A1 3)) A4))) (A1 5) (A1 3) (A1 5) (A1 4))
 (A7 (AG 6 (AY (AV (A0 (mCB (f1 true BN) (A0 (A1 5) A4)) (A0 (Du (A1 2) (CK (mC (.int 1)))) (A0 (mOp Bb (Dc (A1 2) AI (AN (A1 3))) (Dc (A1 2) (AN (mOp AC (A1 3) (mC (.int 1)))) AI)) (A0 (mOp AC (Al (A1 2) AI (AN (mOp AC (A1 3) (mC (.int 1))))) (Al (A1 2) (AN (A1 3)) AI)) (A0 (AY (DF (A1 2))) A4))))))))
 (A7 (BG (GE (AV (A0 (mOp gIx (A1 2) (A1 4)) (A0 (A1 1) (A0 (CK (mC (.int 1))) (A0 (mC .non) (A0 (mCB Dj (A0 (mOp gIx (A1 2) (A1 3)) A4)) (A0 (mOp gEq (mOp gIx (A1 2) (A1 3)) (mC (.int 1))) (A0 (mOp gEq (mOp gIx (A1 2) (A1 3)) (mC (.int 0))) (A0 (AS (A0 (mOp gIx (A1 2) (A1 3)) A4)) (A0 (mOp GG (mC (.int 10)) (mC (.int 60))) A4))))))))))) (AU 7)
  (BM (mMt Aj (A1 6) (A0 (mOp AC (mOp Bb (Dc (A1 2) AI (AN (A1 3))) (AS (A0 (A1 7) A4))) (Dc (A1 2) (AN (mOp AC (A1 3) (mC (.int 1)))) AI)) A4))))
 (AX (AY (E4 (A1 6) (AY (AV (A0 (AS (A0 (A1 2) A4)) (A0 (mOp AC (A1 2) (AS (A0 (A1 1) A4))) (A0 (mOp AC (A1 2) (AS (A0 (A1 2) A4))) (A0 (Fb (A1 2) (mC (.int 2))) (A0 (AS A4) A4)))))))))))))))
def FW:FD:=mkF 3 8 Va
abbrev Je:Df:=⟨"_law_near",Mm,["_law_tape_here","_law_many","_law_order_here"],2,FW⟩
abbrev Pu:Stmt:=top 16
def Tg:FnScope ["_law_script","_law_tape_here","_law_k","_law_many","_law_works_here","_law_wishes_here","_law_order_here","_law_other","_law_bent_here","_law_things","_law_thing","_law_kept","_law_due","_law_turn"] ["_law_script"] (AM Pu):=Cb (by kernel_rfl)
@[reducible] def Wu:MS:=(A7 (AG 1 (Am F_tape (A0 (A1 0) A4)))
 (A7 (BG (Bl (A0 (mC (.int 4)) A4)) (AU 2)
  (A7 (AG 3 (mOp AC (mC (.int 1)) (A6 2 F_pick (A0 (A1 1) (A0 (mC (.int 8)) A4)))))
 (A7 (AG 4 (A6 2 F_works (A0 (A1 1) (A0 (A1 3) (A0 (mOp gEq (mOp BR (A1 2) (mC (.int 2))) (mC (.int 0))) A4)))))
 (A7 (AG 5 (A6 2 F_wishes (A0 (A1 1) (A0 (A1 3) A4))))
 (A7 (AG 6 (A6 2 EX (A0 (A1 1) (A0 (A1 3) (A0 (A1 5) A4)))))
 (A7 (AG 7 (A6 2 EX (A0 (A1 1) (A0 (A1 3) (A0 (AS A4) A4)))))
 (A7 (AG 8 (Am EY (A0 (A1 1) (A0 (A1 6) (A0 (mC (.int 2)) A4)))))
 (A7 (AG 9 (AY (AV (A0 (A1 6) (A0 (A1 7) (A0 (A1 8) (A0 (Am EY (A0 (A1 1) (A0 (A1 8) (A0 (mC (.int 2)) A4)))) (A0 (Am EY (A0 (A1 1) (A0 (A1 7) (A0 (mC (.int 2)) A4)))) (A0 (mC .non) (A0 (mC (.int 0)) (A0 (mC (.str "")) (A0 (AS A4) (A0 (AS (A0 (mC (.int 0)) A4)) (A0 (AY (AV (A0 (mC (.int 0)) A4))) A4))))))))))))))
 (BG (GE (E4 (AY (E4 (A1 9) (Am FW (A0 (A1 1) (A0 (A1 3) (A0 (A1 6) A4)))))) (Am FW (A0 (A1 1) (A0 (A1 3) (A0 (A1 7) A4)))))) (AU 10)
  (A7 (AG 11 (mCB D1 (A0 (AS (A0 (A1 4) (A0 (A1 5) (A0 (A1 10) A4)))) A4)))
 (A7 (AG 12 (Am CA (A0 (A1 3) (A0 (A1 5) (A0 (A1 10) A4)))))
 (BG (Bl (A0 (mC (.int 2)) A4)) (AU 13)
  (B8 (mOr (AJ (mOp gNe (mCB D2 (A0 (Am Ci (A0 (A1 4) (A0 (A1 5) (A0 (A1 10) A4)))) A4)) (mCB D2 (A0 (A1 12) A4)))) (AJ (mOp gNe (mCB D1 (A0 (AS (A0 (A1 4) (A0 (A1 5) (A0 (A1 10) A4)))) A4)) (A1 11))))
  (AX (mC (.bl false)))
  Au)))))))))))))
 (AX (mC (.bl true)))))
def Yl:FD:=mkF 1 14 Wu
abbrev M7:Df:=⟨"law",Pu,["_law_script"],7,Yl⟩
set_option maxHeartbeats 0 in
def oks{E:EnK}(B:BltA E.mg):(Dn E E9->Kn E E9)/\
 (Dn E Et->Kn E E9->Kn E Et)/\
 (Dn E Jd->Kn E Jd)/\
 (Dn E C8->Kn E C8)/\
 (Dn E FP->Kn E C8->Kn E FP)/\
 (Dn E Jg->Kn E C8->Kn E FP->Kn E Jg)/\
 (Dn E Dl->Kn E Dl)/\
 (Dn E Jf->Kn E C8->Kn E Jf)/\
 (Dn E Hj->Kn E C8->Kn E Jf->Kn E Hj)/\
 (Dn E GJ->Kn E C8->Kn E GJ)/\
 (Dn E Hk->Kn E C8->Kn E Hk)/\
 (Dn E E8->Kn E Dl->Kn E E8)/\
 (Dn E Je->Kn E C8->Kn E Je)/\
 (Dn E M7->Kn E Et->Kn E Jd->Kn E C8->Kn E Jg->Kn E Hj->Kn E GJ->Kn E Hk->Kn E E8->Kn E Je->Kn E M7):=by
 refine⟨λD=>okK D JB rfl rfl λ_ _ _ _ _ _ _ hr=>?_,
  λD _=>okK D K1 rfl rfl λ_ _ _ _ _ _ _ hr=>?_,
  λD=>okK D Qo rfl rfl λ_ _ _ _ _ _ _ hr=>?_,
  λD=>okK D Qp rfl rfl λ_ _ _ _ _ _ _ hr=>?_,
  λD _=>okK D LU rfl rfl λ_ _ _ _ _ _ _ hr=>?_,
  λD _ _=>Nat.rec (motive:=λn=>Kn E ⟨"_law_bent",JD,["_law_tape_here","_law_thing","_law_deep"],n+2,FV n⟩) (ok0 D) (λn ih=>okK (j:=n+2) D Qs rfl (by omega) λ_ _ _ _ _ _ _ hr=>?_) 4,
  λD=>okK D IV rfl rfl λ_ _ _ _ _ _ _ hr=>?_,
  λD _=>okK D Qr rfl rfl λ_ _ _ _ _ _ _ hr=>?_,
  λD _ _=>okK D OX rfl rfl λ_ _ _ _ _ _ _ hr=>?_,
  λD _=>okK D Mj rfl rfl λ_ _ _ _ _ _ _ hr=>?_,
  λD _=>okK D OY rfl rfl λ_ _ _ _ _ _ _ hr=>?_,
  λD _=>okK D JA rfl rfl λ_ _ _ _ _ _ _ hr=>?_,
  λD _=>okK D Qq rfl rfl λ_ _ _ _ _ _ _ hr=>?_,
  λD _ _ _ _ _ _ _ _ _=>okK D Tg rfl rfl λ_ _ _ _ _ _ _ hr=>?_⟩
 all_goals (refine' ⟨_,_⟩;rotate_left;repeat' (first
  |((with_reducible show QE _ _ _ _ _);first|exact qv _ _|(first|exact Uu _|exact Ui _|exact Wi _|exact Up _)|((with_reducible show QE _ _ _ _ (mOp _ _ _));first|((with_reducible show QE _ _ _ _ (mOp gIx _ _));refine' Wf _ _ _)|((with_reducible show QE _ _ _ _ (mOp B3 _ _));refine' SF _ (M2 hr) _ _)|((with_reducible show QE _ _ _ _ (mOp AC _ _));refine' Ds _ ((NH).or (JR _)) (DN Mz KY) _ _)|((with_reducible show QE _ _ _ _ (mOp Bp _ _));refine' Ds _ VO UF _ _)|((with_reducible show QE _ _ _ _ (mOp Cf _ _));refine' Ds _ VR UK _ _)|((with_reducible show QE _ _ _ _ (mOp BR _ _));refine' Ds _ VS UL _ _)|((with_reducible show QE _ _ _ _ (mOp Dv _ _));refine' Ds _ Sg Rg _ _)|((with_reducible show QE _ _ _ _ (mOp GG _ _));refine' Ds _ VP UG _ _)|((with_reducible show QE _ _ _ _ (mOp Fh _ _));refine' Ds _ Sj Ri _ _)|((with_reducible show QE _ _ _ _ (mOp Bb _ _));refine' Ds _ (((NH).or (JR _)).or (Si _)) (DN (DN Mz KY) Rh) _ _)|((with_reducible show QE _ _ _ _ (mOp gLt _ _));refine' N4 _ Q4 Py _ _)|((with_reducible show QE _ _ _ _ (mOp gEq _ _));refine' N4 _ ((Q5).or (HN _ hr.units)) (DN Mx My) _ _)|((with_reducible show QE _ _ _ _ (mOp (Hg false) _ _));refine' Uv _ (M2 hr) _ _))|refine' Uh _ _|((with_reducible show QE _ _ _ _ (AY _));refine' Uq _ _)|refine' Ur _ _|((with_reducible show QE _ _ _ _ (A6 _ _ _));first|refine' qcW _ (by assumption) hr _|refine' qcW _ (by assumption) (hr.in1.deeper _) _)|((with_reducible show QE _ _ _ _ (Am _ _));refine' qcG (by assumption) hr _)|((with_reducible show QE _ _ _ _ (D7 _ _));first|((with_reducible show QE _ _ _ _ (D7 GF _));refine' Wh _ (IM _ rfl) Ms B.all L2.bt_all _)|((with_reducible show QE _ _ _ _ (D7 BN _));refine' Wg _ (Fs _) JG B.tuple L2.bt_tuple _))|((with_reducible show QE _ _ _ _ (mCB _ _));first|((with_reducible show QE _ _ _ _ (mCB (f1 _ GF) _));refine' Gg _ (IM _ rfl) (Oi Ms) B.all L2.bt_all _)|((with_reducible show QE _ _ _ _ (mCB (f1 _ BH) _));refine' Gg _ (Ny _) (Oi U1) B.len L2.bt_len _)|((with_reducible show QE _ _ _ _ (mCB Es _));refine' Gg _ (Nx rfl) RQ B.min L2.bt_min _)|((with_reducible show QE _ _ _ _ (mCB D2 _));refine' Gg _ MB Oh B.repr L2.bt_repr _)|((with_reducible show QE _ _ _ _ (mCB D1 _));refine' Gg _ (K9 _ hr.gd hr.units) Og B.repr L2.bt_repr _)|((with_reducible show QE _ _ _ _ (mCB (f1 _ BN) _));refine' Lk _ (Fs _) (Oi JG) B.tuple L2.bt_tuple _)|((with_reducible show QE _ _ _ _ (mCB Dj _));refine' Lk _ Pk U2 B.str L2.bt_str _)|((with_reducible show QE _ _ _ _ (mCB Ja _));refine' Lk _ Nz U3 B.int L2.bt_int _))|((with_reducible show QE _ _ _ _ (B7 _ _));refine' Ut _ _ _)|((with_reducible show QE _ _ _ _ (Dc _ _ _));refine' Uj _ _ _ _)|((with_reducible show QE _ _ _ _ (Al _ _ _));refine' Ul _ _ _ _)|((with_reducible show QE _ _ _ _ (Du _ _));refine' S8 _ _)|((with_reducible show QE _ _ _ _ (Cc _ _));refine' S9 _ _)|((with_reducible show QE _ _ _ _ (GB _ _ _));refine' Uk _ _ _ _)|((with_reducible show QE _ _ _ _ (GA _));refine' Ug _ _)|((with_reducible show QE _ _ _ _ (Fb _ _));refine' SA _ _ _)|refine' P1 _ _ _ _|((with_reducible show QE _ _ _ _ (mMt _ _ _));first|((with_reducible show QE _ _ _ _ (mMt Aj _ _));refine' Lj _ PySem.F.slot_list_append PySem.F.type_list_append ID Mr _ _)|((with_reducible show QE _ _ _ _ (mMt EN _ _));refine' Lj _ PySem.F.slot_list_pop PySem.F.type_list_pop PR Od _ _)|((with_reducible show QE _ _ _ _ (mMt EM _ _));refine' Lj _ PySem.F.slot_list_remove PySem.F.type_list_remove NO Mp _ _))|((with_reducible show QE _ _ _ _ (GD EO _ _));refine' Us _ PySem.F.slot_tuple_index PySem.F.type_tuple_index NP Mq _ _)|exact SD _|refine' SE _ _|((with_reducible show QE _ _ _ _ (BX _ _));first|((with_reducible show QE _ _ _ _ (BX .int _));refine' Gf _ .int B.isinstance B.int _)|((with_reducible show QE _ _ _ _ (BX .bool _));refine' Gf _ .bool B.isinstance B.bool _)|((with_reducible show QE _ _ _ _ (BX .str _));refine' Gf _ .str B.isinstance B.str _)|((with_reducible show QE _ _ _ _ (BX .tuple _));refine' Gf _ .tuple B.isinstance B.tuple _))|((with_reducible show QE _ _ _ _ (E3 _ _ _));refine' SC _ (ND _) _ _)|((with_reducible show QE _ _ _ _ (El _ _));refine' Uw _ _ _)|((with_reducible show QE _ _ _ _ (DE _));refine' Uo _ _)|refine' Um _ _)
  |refine' SG _ _ _|exact Ux _
  |((with_reducible show QT _ _ _ _ _);first|((with_reducible show QT _ _ _ _ (AJ (mOp _ _ _)));first|((with_reducible show QT _ _ _ _ (AJ (mOp gLt _ _)));refine' DY _ Q4 Py _ _)|((with_reducible show QT _ _ _ _ (AJ (mOp gGt _ _)));refine' DY _ Wr Wb _ _)|((with_reducible show QT _ _ _ _ (AJ (mOp gGe _ _)));refine' DY _ Ws Wc _ _)|((with_reducible show QT _ _ _ _ (AJ (mOp gEq _ _)));refine' DY _ ((Q5).or (HN _ hr.units)) (DN Mx My) _ _)|((with_reducible show QT _ _ _ _ (AJ (mOp gNe _ _)));refine' DY _ ((Wq).or (HM _ hr.units)) (DN UH UI) _ _)|((with_reducible show QT _ _ _ _ (AJ (mOp (gIn false) _ _)));refine' DY _ (NG _) Wa _ _)|((with_reducible show QT _ _ _ _ (AJ (mOp (Hf true) _ _)));refine' DY _ (HM _ hr.units) UJ _ _))|refine' US _ _|((with_reducible show QT _ _ _ _ (Br _));refine' Ou _ _)|((with_reducible show QT _ _ _ _ (Dg _ _));refine' QW.toT _)|((with_reducible show QT _ _ _ _ (mOr _ _));refine' QW.toT _)|((with_reducible show QT _ _ _ _ (AJ (Cd _ _ _)));refine' Rn _ (NE _ hr.units) _ _)|((with_reducible show QT _ _ _ _ (AJ (DH _ _ _)));first|refine' Ke _ (VT _ hr.units) _ _|refine' Ke _ (NE _ hr.units) _ _)|((with_reducible show QT _ _ _ _ (AJ (E3 _ _ _)));refine' Rm _ (NG _) _ _))
  |refine' Rl _ _|refine' UQ _ _|refine' UR _ _ _|refine' Wd _ _ _
  |((with_reducible show QN _ _ _ _ _);first|refine' UZ _ _|((with_reducible show QN _ _ _ _ (BU _ _ _ _ _ _));refine' qnA _ (λ_ _ _=>_) (λ_ _ _=>_) (λ_ _ _=>_))|((with_reducible show QN _ _ _ _ (E4 _ _));refine' Ua _ _ _)|((with_reducible show QN _ _ _ _ (FF _ _ _));refine' UY _ _ _ _)|((with_reducible show QN _ _ _ _ (Cp _));refine' Li _ B.sorted _)|((with_reducible show QN _ _ _ _ (Cq _));(refine' Lh _ B.sorted _;rotate_left;refine' JM _ _))|((with_reducible show QN _ _ _ _ (Dd _));refine' Ox _ B.list B.range _)|((with_reducible show QN _ _ _ _ (EL _));refine' Oy _ B.list _)|((with_reducible show QN _ _ _ _ (DF _));refine' S0 _ B.list _))
  |((with_reducible show QI _ _ _ _ _ _);first|((with_reducible show QI _ _ _ _ _ (Bl _));refine' S4 _ B.range _)|((with_reducible show QI _ _ _ _ _ (DG _));refine' S3 _ B.range _)|((with_reducible show QI _ _ _ _ _ (CL _));refine' Ub _ _)|((with_reducible show QI _ _ _ _ _ (De _));refine' S5 _ _)|((with_reducible show QI _ _ _ _ _ (GE _));refine' Uc _ _)|((with_reducible show QI _ _ _ _ _ (Fc _));refine' Oz _ B.enumerate (JM _ _)))
  |((with_reducible show QR _ _ _ _ _ _);first|((with_reducible show QR _ _ _ _ _ (De _));refine' Rv _ _)|((with_reducible show QR _ _ _ _ _ (CL _));refine' JM _ _))
  |exact qgA
  |refine' Ud _ rfl _
  |exact S6 _|refine' P0 _ _ _
  |exact Uf _|refine' Ue _ _
  |exact Rz _|refine' Ry _ _
  |exact Rx _|refine' Ow _ _ _ _
  |((with_reducible show QSs _ _ _ _ _);first|((with_reducible show QSs _ _ _ _ (A7 _ _));refine' Ov _ _ _)|((with_reducible show QSs _ _ _ _ (FE _));refine' N3 _ _)|(first|exact Rp _|refine' Ro _ _))
  | ((with_reducible show QS _ _ _ _ _);first|((with_reducible show QS _ _ _ _ (AG _ (AY (BU _ _ _ _ _ _))));first|refine' XJ _ (λ_ _ _=>_) (λ_ _ _=>_) (λ_ _ _=>_)|refine' qsA _)|((with_reducible show QS _ _ _ _ (AG _ _));refine' qsA _)|refine' We _ _ _ _|refine' UV _ _|refine' UX _ rfl _ _ _|refine' Rt _ _|((with_reducible show QS _ _ _ _ (Bn _ _ _));refine' Ru _ (M2 hr) _ _ _)|refine' UW _ rfl (DZ (by kernel_rfl)) rfl rfl (by decide) rfl rfl _|refine' Rs _ rfl (DZ (by kernel_rfl)) rfl rfl rfl rfl rfl rfl _|exact Rr _|((with_reducible show QS _ _ _ _ (HW _ _ _ _ _));refine' UT _ _ _ _ _))))
open Bd
def Vq:F_pick=Bd.F_pick:=rfl
def Vp:F_tape=Bd.F_tape:=rfl
def Pb:F_wishes=Bd.F_wishes:=rfl
def T6:F_works=Bd.F_works:=rfl
def T(_:Nat)(a b:MO):Prop:=∃τ:Tp,tp τ=[a,b]
def tap:Tap T F_pick where
 cl:=by
  rintro k a b ⟨τ,e⟩;have:=GU τ;rw[e]at this;simpa using this
 le:=λh _=>h
 pick:=by
  rintro k a b many ⟨τ,e⟩ h0 h1;obtain⟨r,τ',d⟩:=draw τ many h0 h1;refine⟨r,.lst (τ'.cells.map λi=>.im (.int i)),.dic (Ao τ'),d.lo,d.hi,?_,τ',rfl⟩;rw[<- e,Vq];exact d.eq
abbrev wI(ps:List (Int×Int)):I:=.tup (ps.map FB)
def OA{neg:Bool}{ml:MA}{ls:Ls}{hd:Hd}{QE:D->Hd->Prop}(h:WA ml ls hd λds x=>∃ns:List Int,ds=intD ns/\QE (.im (.bl (if neg then !decide (ns=[])else decide (ns=[])))) x):WE (DH neg ml (AV A4)) ls hd QE:=by
 obtain⟨ds,x,e,ns,rfl,q⟩:=h;refine⟨_,x,?_,q⟩;unfold DH;rw[e];simp[C5,CH,I.pys,Cr]
def OB{neg:Bool}{ma:ME}{ls:Ls}{hd:Hd}{QE:D->Hd->Prop}(h:WE ma ls hd λd x=>∃ns:List Int,pyD x d=some (.list (ns.map PyData.int))/\QE (.im (.bl (if neg then !decide (ns=[])else decide (ns=[])))) x):WE (Cd neg ma (AV A4)) ls hd QE:=by
 obtain⟨d,x,e,ns,e2,q⟩:=h;refine⟨_,x,?_,q⟩;unfold Cd;rw[e];simp[e2,I.pys,Cr]
def HQ(ks:List Nat):(ks.map λk:Nat=>I.int (k:Int)).map D.im=AB ks:=by simp[AB]
def HU(ks:List Nat):AD (AB ks)=.im (BS ks):=by rw[<- HQ,CJ]
def Sr(L:List Nat):AB L=intD (L.map λk:Nat=>(k:Int)):=by simp[AB,intD]
def XU(p:Nat->Prop)[DecidablePred p](L:List Nat):(L.filterMap λa=>if p a then some (D.im (.int (a:Int)))else none)=AB (L.filter λa=>decide (p a)):=by
 induction L with
 |nil=>rfl
 |cons x r ih=>
  rw[filterMap_cons,List.filter_cons];by_cases h:p x
  .simp[h,ih,AB]
  .simp[h,ih,AB]
def Kv(w:Nat)(ks:List Nat):Av w (AB ks)=true:=by rw[Sr];exact IL w _
structure Wsh(n:Nat)(ps:List (Int×Int)):Prop where
 len:ps.length<=16
 al:∃seq:List Nat,seq.Perm (List.range n)/\Along seq ps
def Wsh.nats{n:Nat}{ps:List (Int×Int)}(h:Wsh n ps):∀p∈ps,∃a b:Nat,p=((a:Int),(b:Int))/\a<n/\b<n:=λp hp=>by
 obtain⟨seq,pm,al⟩:=h.al;obtain⟨i,j,a,b,_,e1,e2,e⟩:=al p hp;exact⟨a,b,e,by simpa using pm.mem_iff.mp (mem_of_getElem? e1),by simpa using pm.mem_iff.mp (mem_of_getElem? e2)⟩
def O8{n:Nat}(hn:n<=8):∀a b,T 0 a b->WF F_wishes [.mu 1,.im (.int (n:Int))] [a,b] λd x=>∃i a' b' g,d=.im i/\(∃ps,i=wI ps/\Wsh n ps)/\T 0 a' b'/\x=a'::b'::g:=by
 rintro a b ⟨τ,e⟩;obtain⟨seq,ps,τ',g,pm,al,l,_,q⟩:=K0 τ n hn;rw[Pb,<- e];exact WP.eq q ⟨_,_,_,g,rfl,⟨ps,rfl,l,seq,pm,al⟩,⟨τ',rfl⟩,rfl⟩
def QU{n:Nat}(hn:n<=8)(al:Bool):∀a b,T 0 a b->WF F_works [.mu 1,.im (.int (n:Int)),.im (.bl al)] [a,b] λd x=>∃i a' b' g,d=.im i/\(∃ws,i=Be ws/\ws.length=n/\∀w∈ws,w.ok)/\T 0 a' b'/\x=a'::b'::g:=by
 rintro a b ⟨τ,e⟩;obtain⟨ws,τ',⟨l,ok,_⟩,q⟩:=L8 τ (n:Int) al (by omega) (by omega);obtain⟨g,q⟩:=q.eq;rw[T6,<- e];exact WP.eq q ⟨_,_,_,g,rfl,⟨ws,rfl,by simpa using l,ok⟩,⟨τ',rfl⟩,rfl⟩
def JU:∀{seq L:List Nat},(∀x∈L,x∈seq)->L≠[]->∃(x j:Nat),x∈L/\seq[j]?=some x/\∀(y i:Nat),y∈L->seq[i]?=some y->j<=i
 |[],L,hs,hne=>by
  obtain⟨x,hx⟩:=List.exists_mem_of_ne_nil L hne;simpa using hs x hx
 |s::r,L,hs,hne=>by
  by_cases h:s∈L
  .exact⟨s,0,h,rfl,λy i _ _=>by omega⟩
  .have hs':∀x∈L,x∈r:=λx hx=>by
    rcases mem_cons.mp (hs x hx)with rfl|q
    .exact absurd hx h
    .exact q
   obtain⟨x,j,hx,e,m⟩:=JU hs' hne;refine⟨x,j+1,hx,by simpa using e,λy i hy he=>?_⟩;cases i with
   |zero=>simp at he;subst he;exact absurd hy h
   |succ i=>have:=m y i hy (by simpa using he);omega
local macro_rules | `(tactic| nofun) => `(tactic| repeat (first | (with_reducible refine AA ?_; try dsimp only [set_cons_zero, set_cons_succ, map_cons, map_nil, cons_append, nil_append, List.replicate, Nat.reduceSub, Int.reduceToNat]) | (with_reducible first | refine OE ?_ | refine AE ?_ | refine Ar ?_ | refine Ak ?_ | refine KC ?_ | refine AZ ?_ | refine Ab ?_ | refine MM ?_ | refine QJ ?_ | refine EC ?_ | refine A3 (d := _) rfl ?_ | refine AF ?_ | refine AK ?_ | refine Ag ?_ | refine B6 ?_ | refine Iv ?_ | refine MV ?_ | refine C1 ?_ | refine Pp ?_ | refine B5 ?_ | refine KI ?_ | refine Ay ?_ | refine EB ?_ | refine GP ?_ | refine EZ ?_ | refine Ez ?_ | refine A5 ?_ | refine A2 ?_ | refine B9 ?_ | refine DL ?_ | refine L9 ?_ | refine WJ ?_ | refine Ft ?_ | refine O9 ?_ | refine XD ?_ | refine Cw ?_ | refine GQ ?_ | refine L3 ?_ | refine WG ?_ | refine L7 ?_ | refine WH ?_ | refine F0 ?_ | refine MP ?_ | refine TR ?_ | refine Ir ?_ | refine QP ?_ | refine QM ?_ | refine ⟨_, rfl, ?_⟩) | refine By rfl (MF _ _) ?_ | refine By rfl (MD _ _ _) ?_ | refine By rfl (W6 _ _ _ _) ?_ | refine ⟨_, _, _, _, rfl, rfl, rfl, rfl, ?_⟩ | refine ⟨⟨_, rfl⟩, ?_⟩ | refine ⟨FM, ?_⟩ | refine ⟨FL, ?_⟩ | refine ⟨Vo, ?_⟩ | refine ⟨Vn, ?_⟩ | refine ⟨Cg, ?_⟩ | refine ⟨B4, ?_⟩ | (with_reducible first | refine OB ?_)))
def W8(ps:List (Int×Int))(ks:List Nat):Prop:=∀(a b j:Nat),((a:Int),(b:Int))∈ps->ks[j]?=some b->∃i,i<j/\ks[i]?=some a
abbrev cs(L:List Nat):List Int:=L.map λk:Nat=>(k:Int)
def Jl(L:List Nat)(x:Nat):((x:Int)∈cs L)↔x∈L:=by
 constructor
 .intro h;obtain⟨k,hk,e⟩:=mem_map.mp h;have:k=x:=by omega
  rw[<- this];exact hk
 .intro h;exact mem_map.mpr ⟨x,h,rfl⟩
def Ph(L:List Nat):AB L=intD (cs L):=by simp[AB,intD,cs]
def Jm(x:Nat):∀L:List Nat,(cs L).eraseIdx ((cs L).idxOf (x:Int))=cs (L.erase x)
 |[]=>rfl
 |y::r=>by
  simp only[cs,map_cons];rw[List.idxOf_cons];by_cases h:y=x
  .subst h;simp
  .have h1:((y:Int)==(x:Int))=false:=by simp;omega
   have h2:(y==x)=false:=by simpa using h
   rw[h1,List.erase_cons,h2];simp only[cond_false,List.eraseIdx_cons_succ,Bool.false_eq_true,if_false,map_cons];have:=Jm x r;simp only[cs]at this;rw[this]
def Ce(ps:List (Int×Int))(L:List Nat)(b:Nat):List Int:=ps.filterMap λp=>if p.2=(b:Int)/\p.1∈cs L then some p.1 else none
def inWay_nil{ps:List (Int×Int)}{L:List Nat}{b:Nat}:Ce ps L b=[]↔∀a:Nat,((a:Int),(b:Int))∈ps->a∉L:=by
 constructor
 .intro h a ha hm;have:(a:Int)∈Ce ps L b:=by
   unfold Ce;refine mem_filterMap.mpr ⟨_,ha,?_⟩;rw[if_pos ⟨rfl,(Jl L a).mpr hm⟩]
  rw[h]at this;simp at this
 .intro h;refine List.eq_nil_iff_forall_not_mem.mpr λy hy=>?_;unfold Ce at hy;obtain⟨p,hp,e⟩:=mem_filterMap.mp hy;split at e
  .next c=>
   obtain⟨k,hk,e2⟩:=mem_map.mp c.2;refine h k ?_ hk;rw[show((k:Int),(b:Int))=p from by rw[<- c.1];exact Prod.ext e2 rfl];exact hp
  .cases e
def Kh{n:Nat}(hn:n<=8){seq:List Nat}{ps:List (Int×Int)}(hs:seq.Perm (List.range n))(al:Along seq ps)(hl:ps.length<=16):∀a b,T 0 a b->WF EX [.mu 1,.im (.int (n:Int)),.im (wI ps)] [a,b] λd x=>∃i a' b' g,d=.im i/\(∃ks,i=BS ks/\ks.Perm (List.range n)/\W8 ps ks)/\T 0 a' b'/\x=a'::b'::g:=by
 intro a b hT;unfold EX;refine Dq rfl ?_
 nofun
 refine KJ (k:=(n:Int)) (by simp) (Fw (by omega) (by omega)) ?_;rw[toNat_natCast,DB]
 nofun
 refine⟨CP (by omega) (by omega),?_⟩;refine Cy (λr ls hd=>∃(F L:List Nat) (j:Nat) (a b:MO) (z5 z6 z7:Option D),r=AQ (j:Int) (n-j)/\F.length=j/\(F++L).Perm (List.range n)/\W8 ps F/\ls=[some (.mu 1),some (.im (.int (n:Int))),some (.im (wI ps)),some (.mu 2),some (.mu 3),z5,z6,z7]/\hd=[a,b,.lst (AB L),.lst (AB F)]/\T 0 a b) ?_ ?_ ?_
 .exact⟨[],List.range n,0,a,b,none,none,none,by simp,rfl,by simp,λa b j _ h=>by simp at h,rfl,rfl,hT⟩
 .rintro d r ls hd ⟨F,L,j,a,b,z5,z6,z7,er,hF,pm,rs,rfl,rfl,hT⟩;obtain⟨m,hm⟩:∃m,n-j=m+1:=by
   cases q:n-j with
   |zero=>rw[q]at er;cases er
   |succ m=>exact⟨m,rfl⟩
  rw[hm,AQ]at er;obtain⟨rfl,rfl⟩:=List.cons.inj er;have ej:((j:Int)+1)=((j+1:Nat):Int):=by omega
  have em:m=n-(j+1):=by omega
  have pl:=pm.length_eq;simp only[length_append,List.length_range]at pl;have Ln:L≠[]:=by intro h;rw[h]at pl;simp at pl;omega
  refine⟨_,rfl,?_⟩;dsimp only[set_cons_zero,set_cons_succ];refine O7 ?_
  nofun
  refine⟨_,_,rfl,rfl,AR (by simp;omega),?_⟩;refine ED (λk:Nat=>D.im (.int (k:Int))) (λx=>if Ce ps L x=[]then some (.im (.int (x:Int)))else none) (λ_ ls=>∃x,ls=[some x,some (.im (wI ps)),some (.mu 2)]) _ (by intro p hp;simp at hp;subst hp;rfl) ?_ ?_
  .rintro x hx ls hls;refine⟨[some (.im (.int (x:Int))),some (.im (wI ps)),some (.mu 2)],by rcases hls with rfl|⟨_,x,rfl⟩<;>rfl,⟨_,rfl⟩,?_⟩;refine Ay (OA ?_)
   nofun
   refine⟨AR (by simp;omega),?_⟩;rw[Rw.pairs_im];refine ED (λp:Int×Int=>Af p) (λp=>if p.2=(x:Int)/\p.1∈cs L then some (.im (.int p.1))else none) (λ_ ls=>∃x1 x2,ls=[some x1,some x2,some (.im (.int (x:Int))),some (.mu 2)]) _ (Aa _) ?_ ?_
   .rintro p hp ls hls;refine⟨[some (.im (.int p.1)),some (.im (.int p.2)),some (.im (.int (x:Int))),some (.mu 2)],by rcases hls with rfl|⟨_,x,y,rfl⟩<;>rfl,⟨_,_,rfl⟩,?_⟩
    nofun
    by_cases h1:p.2=(x:Int)
    .rw[if_pos (by simpa using h1)]
     nofun
     refine TQ (xs:=cs L) (by rw[LP,Go,<- Ph];rfl) ?_
     nofun
     refine⟨rfl,?_⟩;by_cases h2:p.1∈cs L
     .rw[if_pos (by simpa using h2)];exact⟨_,if_pos ⟨h1,h2⟩,A3 rfl ⟨rfl,rfl⟩⟩
     .rw[if_neg (by simpa using h2)];exact if_neg λh=>h2 h.2
    .rw[if_neg (by simpa using h1)];refine⟨rfl,?_⟩;rw[if_neg Bool.false_ne_true];exact if_neg λh=>h1 h.1
   have e1:(ps.filterMap λp=>if p.2=(x:Int)/\p.1∈cs L then some (D.im (.int p.1))else none)=intD (Ce ps L x):=by
    unfold Ce intD;rw[List.map_filterMap]
    congr 1
    funext p
    split<;>rfl
   rw[e1];refine⟨_,rfl,_,rfl,rfl,?_⟩;by_cases h:Ce ps L x=[]
   .rw[if_pos (by simpa using h)];exact⟨_,if_pos h,A3 rfl ⟨rfl,rfl⟩⟩
   .rw[if_neg (by simpa using h)];exact if_neg h
  rw[XU (λx=>Ce ps L x=[])];obtain⟨C,hC⟩:∃C,C=L.filter λa=>decide (Ce ps L a=[]):=⟨_,rfl⟩
  rw[<- hC];have Cn:C≠[]:=by
   obtain⟨x,jx,hx,ex,mx⟩:=JU (seq:=seq) (L:=L) (λx hx=>hs.mem_iff.mpr (pm.mem_iff.mp (mem_append_right _ hx))) Ln;have:x∈C:=by
    rw[hC,mem_filter];refine⟨hx,?_⟩;simp only[decide_eq_true_eq];refine inWay_nil.mpr λa ha hm=>?_;obtain⟨i',j',a',b',hij,ea,eb,e⟩:=al _ ha;have ea':a=a':=by have:=congrArg Prod.fst e;simp at this;omega
    have eb':x=b':=by have:=congrArg Prod.snd e;simp at this;omega
    subst ea' eb';have h1:=mx a i' hm ea;have nd:seq.Nodup:=hs.nodup_iff.mpr List.nodup_range;have h2:jx=j':=by
     have l1:=(List.getElem?_eq_some_iff.mp ex).1;exact(List.getElem?_inj l1 nd).mp (by rw[ex,eb])
    omega
   intro h;rw[h]at this;simp at this
  have Cl:0<C.length:=List.length_pos_iff.mpr Cn;have Cl2:C.length<=L.length:=by rw[hC];exact List.length_filter_le _ _
  nofun
  refine tap.draw (n:=0) (many:=(C.length:Int)) (rest:=[.lst (AB L),.lst (AB F),.lst (AB C)]) hT (by simp[BH]) (by omega) (by omega) λr1 a b hT pr1 qr1=>?_;obtain⟨u,hu⟩:∃u:Nat,r1=(u:Int):=⟨r1.toNat,by omega⟩
  subst hu;have hu:u<C.length:=by omega
  refine By (ds:=AB C) rfl (D8 rfl (x:=.im (.int (C[u]:Int))) (by simp[AB,hu])) ?_;generalize hx:C[u]=x;have hxC:x∈C:=hx ▸ List.getElem_mem hu;have hxL:x∈L:=by rw[hC]at hxC;exact(mem_filter.mp hxC).1
  have hxW:Ce ps L x=[]:=by rw[hC]at hxC;simpa using (mem_filter.mp hxC).2
  nofun
  refine MN (ns:=cs L) (by rw[show(cs L).map (λx=>D.im (.int x))=AB L from(Ph L).symm];rfl) ((Jl L x).mpr hxL) ?_;rw[Jm,show(cs (L.erase x)).map (λx=>D.im (.int x))=AB (L.erase x)from(Ph _).symm]
  nofun
  refine MQ (ds:=AB F) rfl (Bu (by simp;omega)) ?_;have ca:=tap.cl hT;refine⟨?_,_,rfl,Aa _,F++[x],L.erase x,j+1,a,b,_,_,_,by rw[ej,em],by simp[hF],?_,?_,rfl,?_,hT⟩
  .have c1:=GM (show 2<=4 by omega) ca.1;have c2:=GM (show 2<=4 by omega) ca.2;have c3:=Kv 4 (L.erase x);have c4:Av 4 (AB F++[D.im (.int (x:Int))])=true:=by have:=Kv 4 (F++[x]);simpa [AB]using this
   show(clO 4 a&&(clO 4 b&&(Av 4 (AB (L.erase x))&&(Av 4 (AB F++[D.im (.int (x:Int))])&&true))))=true;rw[c1,c2,c3,c4];rfl
  .have:=(List.perm_cons_erase hxL).symm;rw[append_assoc];exact((List.Perm.refl F).append this).trans pm
  .intro p q k hp hk;by_cases hkF:k<F.length
   .rw[List.getElem?_append_left hkF]at hk;obtain⟨i,hi,e⟩:=rs p q k hp hk;exact⟨i,hi,by rw[List.getElem?_append_left (by omega)];exact e⟩
   .have hk':k=F.length:=by
     have:=(List.getElem?_eq_some_iff.mp hk).1;simp at this;omega
    subst hk';rw[List.getElem?_append_right (by omega)]at hk;simp at hk;subst hk;have nL:=inWay_nil.mp hxW p hp;obtain⟨i',j',a',b',hij,ea,eb,e⟩:=al _ hp;have ea':p=a':=by have:=congrArg Prod.fst e;simp at this;omega
    subst ea';have pin:p∈F++L:=pm.mem_iff.mpr (hs.mem_iff.mp (mem_of_getElem? ea));have pF:p∈F:=by
     rcases mem_append.mp pin with h|h
     .exact h
     .exact absurd h nL
    obtain⟨i,hi,e⟩:=List.mem_iff_getElem.mp pF;exact⟨i,hi,by rw[List.getElem?_append_left hi,List.getElem?_eq_getElem hi,e]⟩
  .simp[AB]
 .rintro ls hd ⟨F,L,j,a,b,z5,z6,z7,er,hF,pm,rs,rfl,rfl,hT⟩;have hj:n-j=0:=by
   cases q:n-j with
   |zero=>rfl
   |succ m=>rw[q]at er;cases er
  have pl:=pm.length_eq;simp only[length_append,List.length_range]at pl;have hL:L=[]:=length_eq_zero_iff.mp (by omega);subst hL;simp only[append_nil]at pm
  nofun
  refine GR rfl rfl ?_;rw[HU];exact⟨_,a,b,_,rfl,⟨F,rfl,pm,rs⟩,hT,rfl⟩
open An
def Dw{m:MA}{ls:Ls}{hd:Hd}{QE:D->Hd->Prop}(h:WA m ls hd λds x=>∃(a b:MO) (rest:Hd) (many:Int),x=a::b::rest/\ds=[.mu 1,.im (.int many)]/\T 0 a b/\0<many/\many<1073741824/\∀r a' b',T 0 a' b'->0<=r->r<many->QE (.im (.int r)) (a'::b'::rest)):WE (A6 2 F_pick m) ls hd QE:=by
 obtain⟨ds,x,e,a,b,rest,many,rfl,rfl,hT,h0,h1,q⟩:=h;exact tap.draw (n:=0) hT e h0 h1 λr a' b' hT' p1 p2=>q r a' b' hT' p1 p2
def GT{ma mb:ME}{ls:Ls}{hd:Hd}{QA:List D->Hd->Prop}(h:WE ma ls hd λd x=>WE mb ls x λe y=>∃i j xs ys,d=.mu i/\e=.mu j/\y[i]?=some (.lst xs)/\y[j]?=some (.lst ys)/\BB (xs.length+ys.length)/\QA (xs++ys) y):WA (E4 ma mb) ls hd QA:=by
 obtain⟨d,x,e1,e,y,e2,i,j,xs,ys,rfl,rfl,e3,e4,c,q⟩:=h;exact⟨_,_,by simp only[E4,e1,bind_some,e2,e3,e4,c,if_true],q⟩
def keep{a b a' b':MO}{g g':Hd}{t:Tv}{d:D}{n:Nat}(hn:n<=(a::b::g).length)(h:Is n (a::b::g) t d):Is n (a'::b'::(g++g')) t d:=h.mono (le_refl _) λk k2 kn=>by
 obtain⟨j,rfl⟩:∃j,k=j+2:=⟨k-2,by omega⟩
 simp only[List.getElem?_cons_succ];simp at hn;rw[List.getElem?_append_left (by omega)]
def keeps{a b a' b':MO}{g g':Hd}{t:List Tv}{d:List D}{n:Nat}(hn:n<=(a::b::g).length)(h:Iss n (a::b::g) t d):Iss n (a'::b'::(g++g')) t d:=h.mono (le_refl _) λk k2 kn=>by
 obtain⟨j,rfl⟩:∃j,k=j+2:=⟨k-2,by omega⟩
 simp only[List.getElem?_cons_succ];simp at hn;rw[List.getElem?_append_left (by omega)]
def Md{a b:MO}{g:Hd}(hT:T 0 a b):WF Dy [.mu 1] (a::b::g) λd x=>∃a' b' g' t,x=a'::b'::(g++g')/\T 0 a' b'/\Is x.length x t d/\Bo (10^50) 200 2 2 t:=by
 unfold Dy;refine Dq rfl ?_;refine AE (Ar (B6 (B9 ?_)));refine A2 (AF (A2 (AF (A2 (AF (A2 (AF (A2 (AF (A2 (AF ?_)))))))))));refine A2 (Ag (A5 ⟨Cg,?_⟩));refine A2 (B6 (B9 (A5 ⟨Cg,?_⟩)));refine A2 (Ag (A2 (AF (A5 ⟨B4,?_⟩))));refine A2 (B6 (B9 (A2 (AF (A5 ⟨B4,?_⟩)))));refine A2 (DS (AF ⟨_,rfl,?_⟩));refine A2 (AF (A2 (AF (A2 (AF ?_)))));refine A2 (AK (AF (AF (KF (k:=50) (by decide) ?_))));refine A2 (Ag (A2 (Ag (A5 ⟨Cg,A5 ⟨B4,?_⟩⟩))));refine A2 (Ag (A2 (AF (A2 (AF (A5 ⟨FM,?_⟩))))));refine A2 (Ag (A2 (AF (A2 (AF (A5 ⟨FM,A5 ⟨AR (by simp),AA ?_⟩⟩))))));generalize hds:[D.im .non,_,_,_,_,_,_,_,_,_,_,_,_,_,_,_,_,_]=ds;refine Ak (AK (A3 rfl (Dw (A2 (A3 rfl (A2 (AF (A5 ⟨a,b,g++[.lst [],.lst [.im (.int 2)],.lst ds],18,by simp,rfl,hT,by decide,by decide,λr a b hT p q=>?_⟩))))))));have hl:(a::b::g++[MO.lst []]).length=g.length+3:=by simp
 have key:∀h:Hd,h=a::b::(g++[.lst [],.lst [.im (.int 2)],.lst ds])->Iss h.length h ([.non,.bl true,.bl false,.str "",.str "late",.str "0",.tup [],.lst [],.tup [.int 0],.lst [.int 2],.int (-1),.int 0,.int 1,.int 3,.int (10^50),.tup [.tup []],.tup [.int 0,.int 1],.tup [.str "ends",.int 2]]:List Tv) ds:=by
  rintro h rfl;subst hds;refine .cons (AO .non) (.cons (AO (.bl true)) (.cons (AO (.bl false)) (.cons (AO (.str "")) (.cons (AO (.str "late")) (.cons (AO (.str "0")) (.cons (AO (.tup [])) ?_))))));refine .cons ?_ (.cons (AO (.tup [.int 0])) (.cons ?_ (.cons (AO (.int (-1))) (.cons (AO (.int 0)) (.cons (AO (.int 1)) (.cons (AO (.int 3)) (.cons (AO (.int (10^50))) (.cons (AO (.tup [.tup []])) (.cons (AO (.tup [.int 0,.int 1])) (.one (AO (.tup [.str "ends",.int 2]))))))))))))
  .simp only[Is];exact⟨g.length+2,[],by simp,by omega,by simp,by simp,Iss.nil⟩
  .simp only[Is];exact⟨g.length+3,[.im (.int 2)],by simp,by omega,by simp,by simp,.one (AO (.int 2))⟩
 obtain⟨d,t,e1,e2,e3⟩:=QC (key _ rfl) p q;refine By (ds:=ds) (by rw[LP,Go];simp) e1 ⟨a,b,_,t,rfl,hT,e3,?_⟩;have all:∀t∈([.non,.bl true,.bl false,.str "",.str "late",.str "0",.tup [],.lst [],.tup [.int 0],.lst [.int 2],.int (-1),.int 0,.int 1,.int 3,.int (10^50),.tup [.tup []],.tup [.int 0,.int 1],.tup [.str "ends",.int 2]]:List Tv),Bo (10^50) 200 2 2 t:=by
  intro t ht;simp only[mem_cons,not_mem_nil,or_false]at ht;rcases ht with rfl|rfl|rfl|rfl|rfl|rfl|rfl|rfl|rfl|rfl|rfl|rfl|rfl|rfl|rfl|rfl|rfl|rfl
  all_goals refine⟨?_,?_,?_,?_⟩
  all_goals (simp only[Gq,Gqs,An.wt,wts,dep,Aq,An.tl]<;>decide +kernel)
 exact all t e2
def PB(m w dp l:Nat)(g:Hd)(d:D)(x:Hd):Prop:=∃a' b' g' t,x=a'::b'::(g++g')/\T 0 a' b'/\Is x.length x t d/\Bo (m+1) (2*w+400) (dp+4) (max l 2+1) t
def D6{hd:Hd}{d:D}{ds:List D}(h:A9 d=some ds):Ad hd d=some ds:=by unfold Ad;rw[h]
def Ig{m:MA}{ls:Ls}{hd:Hd}{i:Nat}{r:Int}{Q:D->Hd->Prop}{mw w dp l:Nat}(h:WA m ls hd λds x=>ls[i]?=some (some (.im (.int r)))/\∃ts,Iss x.length x ts ds/\0<=r/\r<ts.length/\(∀t∈ts,Bo mw w dp l t)/\∀d t,Is x.length x t d->Bo mw w dp l t->Q d x):WE (B7 m (A1 i)) ls hd Q:=by
 obtain⟨ds,x,e,e1,ts,h1,h2,h3,h4,q⟩:=h;obtain⟨d,t,e2,ht,hi⟩:=QC h1 h2 h3;exact MV ⟨ds,x,e,A3 e1 ⟨r,d,rfl,e2,q d t hi (h4 t ht)⟩⟩
def EI{m w dp l:Nat}{t:Tv}(hm:10^50<=m)(h:Bo (10^50) 200 2 2 t):Bo (m+1) (2*w+400) (dp+4) (max l 2+1) t:=h.mono (by omega) (by omega) (by omega) (by omega)
def eqv_nil(ts:List Tv):PyData.eqv (pyT (.tup ts)) (I.py (.tup []))=ts.isEmpty:=by
 cases ts with
 |nil=>rfl
 |cons t r=>rw[pyT,E1,I.py,I.pys];rfl
def HL{n:Nat}{h g:Hd}{t:Tv}{d:D}(hn:n<=h.length)(q:Is n h t d):Is n (h++g) t d:=q.mono (le_refl _) λk _ kn=>List.getElem?_append_left (by omega)
def JN{n:Nat}{h g:Hd}{t:List Tv}{d:List D}(hn:n<=h.length)(q:Iss n h t d):Iss n (h++g) t d:=q.mono (le_refl _) λk _ kn=>List.getElem?_append_left (by omega)
def D9{n n':Nat}{h:Hd}{t:Tv}{d:D}(hn:n<=n')(q:Is n h t d):Is n' h t d:=q.mono hn λk _ _=>rfl
def F3{n n':Nat}{h:Hd}{t:List Tv}{d:List D}(hn:n<=n')(q:Iss n h t d):Iss n' h t d:=q.mono hn λk _ _=>rfl
section
variable{m w dp l:Nat}{a b:MO}{g:Hd}{d dO:D}{tO:Tv}{r k:Int}{ls:Ls}
def Qb{ts:List Tv}{z3 z6:Option D}(hm:10^50<=m)(hw:w<=100000){h:Hd}{g1:Hd}(eh:h=a::b::(g++g1))(hT:T 0 a b)(hI:Is h.length h (.tup ts) d)(hO:Is h.length h tO dO)(bt:Bo m w dp l (.tup ts))(bO:Bo (10^50) 200 2 2 tO)(r0:0<=r)(r1:r<7):
 WS (A7 (AG 3 (A6 2 F_pick (A0 (A1 0) (A0 (mOp AC (mCB (f1 true BH) (A0 (A1 1) A4)) (mC (.int 1))) A4))))
 (A7 (AG 6 (AY (AV (A0 (AY (DF (A1 1))) (A0 (mOp AC (mOp Bb (Al (A1 1) AI (AN (A1 3))) (AS (A0 (A1 5) A4))) (Al (A1 1) (AN (A1 3)) AI)) (A0 (mOp Bb (Al (A1 1) AI (AN (A1 3))) (Al (A1 1) (AN (mOp AC (A1 3) (mC (.int 1)))) AI)) (A0 (mOp Bb (Al (A1 1) AI (AN (mOp AC (A1 3) (mC (.int 1))))) (Al (A1 1) (AN (A1 3)) AI)) A4)))))))
 (AX (B7 (E4 (A1 6) (AY (AV (A0 (mOp Bb (mOp Bb (Al (A1 1) AI (AN (A1 3))) (Du (Al (A1 1) (AN (A1 3)) (AN (mOp AC (A1 3) (mC (.int 2))))) (CK (mC (.int 1))))) (Al (A1 1) (AN (mOp AC (A1 3) (mC (.int 2)))) AI)) (A0 (Cc (A1 1) (CK (mC (.int 1)))) (A0 (A1 5) A4)))))) (A1 4)))))
  [some (.mu 1),some d,some (.im (.int k)),z3,some (.im (.int r)),some dO,z6] h λfl x=>∃d',fl=.rt d'/\PB m w dp l g d' x:=by
 obtain⟨ds,hv,hs⟩:=hI.view;obtain⟨g0,w0,p0,l0⟩:=bt.tup;have hlen:=hs.len;have hwl:=HD ts;have hl5:ds.length<=100000:=by omega
 subst eh;refine AE (Ar (Dw (A2 (A3 rfl (A2 (AK (C1 (A2 (A3 rfl (A5 (GR (ds:=ds) (by rw[if_pos rfl];exact D6 hv) rfl (AF (Cw (A5 ⟨a,b,g++g1,(ds.length:Int)+1,rfl,rfl,hT,by omega,by omega,λr3 a b hT p q=>AA ?_⟩))))))))))))));obtain⟨j,rfl⟩:∃j:Nat,r3=(j:Int):=⟨r3.toNat,by omega⟩
 have hs:Iss (a::b::(g++g1)).length (a::b::(g++g1)) ts ds:=by have:=keeps (g':=[]) (a':=a) (b':=b) (le_refl _) hs;rw[append_nil]at this;exact this
 have hO:Is (a::b::(g++g1)).length (a::b::(g++g1)) tO dO:=by have:=keep (g':=[]) (a':=a) (b':=b) (le_refl _) hO;rw[append_nil]at this;exact this
 generalize eH:a::b::(g++g1)=h at *;have hn:h.length=(a::b::(g++g1)).length:=by rw[<- eH]
 have tl:∀n,(ds.take n).length<=ds.length:=λn=>by rw[length_take];omega
 have dl:∀n,(ds.drop n).length<=ds.length:=λn=>by rw[length_drop];omega
 refine AE (Ar (B6 (B9 (A2 (B6 (HF (A3 rfl ⟨ds,D6 hv,?_⟩)))))));refine A2 (AK (AK (IZ (j:=3) rfl hv rfl (Ag (A2 (A3 rfl (A5 ⟨B4,CO (A8 _) (A8 _) (by have:=tl j;simp;omega) (LS (j:=3) rfl hv rfl (Cj (A8 _) (A8 _) (by simp) (by have:=tl j;have:=dl j;simp;omega) ?_))⟩)))))));refine A2 (AK (IZ (j:=3) rfl hv rfl (J5 (c:=1) (j:=3) rfl hv rfl (CO (A8 _) (A8 _) (by have:=tl j;have:=dl (j+1);omega) ?_))));refine A2 (AK (Mh (j:=3) rfl hv rfl (LS (j:=3) rfl hv rfl (CO (A8 _) (A8 _) (by have:=tl (j+1);have:=dl j;omega) (A5 ⟨AR (by simp),AA ?_⟩)))));generalize eA:[D.mu h.length,_,_,_]=A;refine Ak (Ig (i:=4) (r:=r) (mw:=m+1) (w:=2*w+400) (dp:=dp+4) (l:=max l 2+1) (GT (A3 rfl (B6 (B9 ?_)))));refine A2 (AK (AK (IZ (j:=3) rfl hv rfl (KH (Te (j:=3) rfl hv rfl (DS (AF ⟨_,rfl,rfl,_,A8 _,CO (A8 _) (A8 _) (by have:=tl j;simp;omega) (J5 (c:=2) (j:=3) rfl hv rfl (CO (A8 _) (A8 _) (by have:=tl j;have:=dl (j+2);simp;omega) ?_))⟩)))))));refine A2 (QY (A3 rfl (DS (AF ⟨_,rfl,rfl,ds,hv,A2 (A3 rfl (A5 ⟨FL,?_⟩))⟩))));generalize eB:[AD (List.take j ds++(List.take 2 (List.drop j ds)).reverse++List.drop (j+2) ds),AD ds.reverse,dO]=B;refine⟨h.length+1,h.length+2,A,B,by simp,by simp,by simp,by simp,AR (by subst eA;subst eB;simp),rfl,[.lst ts,.tup ((ts.take j++[tO])++ts.drop j),.tup (ts.take j++ts.drop (j+1)),.tup (ts.take (j+1)++ts.drop j),.tup ((ts.take j++((ts.drop j).take 2).reverse)++ts.drop (j+2)),.tup ts.reverse,tO],?_,r0,by simpa using r1,?_,λd' t' hi bo=>⟨d',rfl,a,b,g1++[.lst ds,.lst A,.lst B],t',by rw[<- eH];simp,hT,hi,bo⟩⟩
 .subst eA;subst eB;have h2:2<=h.length:=by rw[hn];simp
  generalize eX:h++[MO.lst ds]++[MO.lst _]++[MO.lst _]=X;have hX:h.length<=X.length:=by rw[<- eX];simp
  have hX2:h.length<X.length:=by rw[<- eX];simp
  have u:Iss X.length X ts ds:=by rw[<- eX,append_assoc,append_assoc];exact F3 (by simp) (JN (le_refl _) hs)
  have o:Is X.length X tO dO:=by rw[<- eX,append_assoc,append_assoc];exact D9 (by simp) (HL (le_refl _) hO)
  refine .cons ?_ (.cons (((u.take j).app (.one o)).app (u.drop j)).tup (.cons ((u.take j).app (u.drop (j+1))).tup (.cons ((u.take (j+1)).app (u.drop j)).tup (.cons (((u.take j).app ((u.drop j).take 2).rev).app (u.drop (j+2))).tup (.cons u.rev.tup (.one o))))));simp only[Is];exact⟨h.length,ds,rfl,h2,hX2,by rw[<- eX];simp,u⟩
 .have s0:=CN ts j;have s1:=CN ts (j+1);have s2:=CN ts (j+2);have s3:=CN (ts.drop j) 2;rw[List.drop_drop]at s3;have s4:=KB ((ts.drop j).take 2);have bw:=bO.wt;have tk:∀n u,u∈ts.take n->u∈ts:=λn u hu=>mem_of_mem_take hu;have dr:∀n u,u∈ts.drop n->u∈ts:=λn u hu=>List.mem_of_mem_drop hu;intro t ht;simp only[mem_cons,not_mem_nil,or_false]at ht;rcases ht with rfl|rfl|rfl|rfl|rfl|rfl|rfl
  .exact(EU hm bt (λu hu=>.inl hu) (by omega) (by omega)).2
  .refine(EU hm bt (λu hu=>?_) ?_ ?_).1
   .simp only[mem_append,mem_singleton]at hu;rcases hu with(hu|rfl)|hu
    .exact .inl (tk _ _ hu)
    .exact .inr bO
    .exact .inl (dr _ _ hu)
   .rw[Bg,Bg];simp only[wts];omega
   .simp;omega
  .refine(EU hm bt (λu hu=>?_) ?_ ?_).1
   .rcases mem_append.mp hu with hu|hu
    .exact .inl (tk _ _ hu)
    .exact .inl (dr _ _ hu)
   .rw[Bg];omega
   .simp;omega
  .refine(EU hm bt (λu hu=>?_) ?_ ?_).1
   .rcases mem_append.mp hu with hu|hu
    .exact .inl (tk _ _ hu)
    .exact .inl (dr _ _ hu)
   .rw[Bg];omega
   .simp;omega
  .refine(EU hm bt (λu hu=>?_) ?_ ?_).1
   .simp only[mem_append,List.mem_reverse]at hu;rcases hu with(hu|hu)|hu
    .exact .inl (tk _ _ hu)
    .exact .inl (dr _ _ (mem_of_mem_take hu))
    .exact .inl (dr _ _ hu)
   .rw[Bg,Bg];omega
   .simp;omega
  .refine(EU hm bt (λu hu=>.inl (by simpa using hu)) ?_ (by simp)).1;rw[KB];omega
  .exact EI hm bO
def HB{t:Tv}(hm:10^50<=m)(bt:Bo m w dp l t):Bo (m+1) (2*w+400) (dp+4) (max l 2+1) (.tup [t])/\Bo (m+1) (2*w+400) (dp+4) (max l 2+1) (.lst [t]):=by
 have h1:=bt.gd;have h2:=bt.wt;have h3:=bt.dp;exact⟨FU (λu hu=>by rw[mem_singleton]at hu;subst hu;exact h1.mono (by omega)) (by simp only[wts];omega) (by simp only[Aq];omega) (by simp),Jt (λu hu=>by rw[mem_singleton]at hu;subst hu;exact h1.mono (by omega)) (by simp only[wts];omega) (by simp only[Aq];omega) (by simp)⟩
def TY{v:Bool}{z3 z6:Option D}(hm:10^50<=m){h:Hd}{g1:Hd}(eh:h=a::b::(g++g1))(hT:T 0 a b)(hO:Is h.length h tO dO)(bt:Bo m w dp l (.bl v))(bO:Bo (10^50) 200 2 2 tO)(r0:0<=r)(r1:r<7):
 WS (AX (B7 (AV (A0 (DE (A1 1)) (A0 (mCB Ja (A0 (A1 1) A4)) (A0 (mCB Dj (A0 (A1 1) A4)) (A0 (AS (A0 (A1 1) A4)) (A0 (mC .non) (A0 (AY (AV (A0 (A1 1) A4))) (A0 (A1 5) A4)))))))) (A1 4)))
  [some (.mu 1),some (.im (.bl v)),some (.im (.int k)),z3,some (.im (.int r)),some dO,z6] h λfl x=>∃d',fl=.rt d'/\PB m w dp l g d' x:=by
 refine Ak (Ig (i:=4) (r:=r) (mw:=m+1) (w:=2*w+400) (dp:=dp+4) (l:=max l 2+1) (B9 ?_));refine A2 (HE (Ay (A3 rfl ⟨_,rfl,?_⟩)));refine A2 (C1 (A2 (A3 rfl (A5 ⟨_,_,rfl,?_⟩))));refine A2 (C1 (A2 (A3 rfl (A5 (QL ?_)))));refine A2 (Ag (A2 (A3 rfl (A5 ⟨B4,?_⟩))));refine A2 (AF (A2 (B6 (B9 (A2 (A3 rfl (A5 ⟨B4,?_⟩)))))));refine A2 (A3 rfl (A5 ⟨AR (by simp),rfl,[.bl (!v),.int (if v then 1 else 0),.str (if v then "True" else "False":Str),.tup [.bl v],.non,.lst [.bl v],tO],?_,r0,by simpa using r1,?_,λd' t' hi bo=>⟨d',rfl,a,b,g1++[.lst [.im (.bl v)]],t',by rw[eh];simp,hT,hi,bo⟩⟩))
 .have h2:2<=h.length:=by rw[eh];simp
  refine .cons (AO (.bl (!v))) (.cons (AO (.int (if v then 1 else 0))) (.cons (AO (.str (if v then "True" else "False":Str))) (.cons (AO (.tup [.bl v])) (.cons (AO .non) (.cons ?_ (.one (D9 (by simp) (HL (le_refl _) hO))))))));simp only[Is];exact⟨h.length,_,rfl,h2,by simp,by simp,.one (AO (.bl v))⟩
 .intro t ht;simp only[mem_cons,not_mem_nil,or_false]at ht;rcases ht with rfl|rfl|rfl|rfl|rfl|rfl|rfl
  .exact Il (by omega)
  .refine Do ?_ ?_
   .cases v<;>simp
   .have:Nat.log2 (Int.natAbs (if v then 1 else 0))<=1:=by cases v<;>decide
    omega
  .refine D5 ?_ ?_
   .cases v<;>decide
   .have:(if v then "True" else "False":Str).length<=5:=by cases v<;>decide
    omega
  .exact(HB hm bt).1
  .exact O0 (by omega)
  .exact(HB hm bt).2
  .exact EI hm bO
def Qd{v:Int}{z3 z6:Option D}(hm:10^50<=m)(hm2:m<=10^70){h:Hd}{g1:Hd}(eh:h=a::b::(g++g1))(hT:T 0 a b)(hO:Is h.length h tO dO)(bt:Bo m w dp l (.int v))(bO:Bo (10^50) 200 2 2 tO)(r0:0<=r)(r1:r<7):
 WS (AX (B7 (AV (A0 (mOp AC (A1 1) (mC (.int 1))) (A0 (mOp Bp (A1 1) (mC (.int 1))) (A0 (mOp Bp (mC (.int 0)) (A1 1)) (A0 (mOp gEq (A1 1) (mC (.int 1))) (A0 (mCB Dj (A0 (A1 1) A4)) (A0 (AS (A0 (A1 1) A4)) (A0 (A1 5) A4)))))))) (A1 4)))
  [some (.mu 1),some (.im (.int v)),some (.im (.int k)),z3,some (.im (.int r)),some dO,z6] h λfl x=>∃d',fl=.rt d'/\PB m w dp l g d' x:=by
 have hv:v.natAbs<=m:=by have:=bt.gd;simpa only[Gq]using this
 have hwv:v.natAbs.log2+2<=w:=by have:=bt.wt;simpa only[An.wt]using this
 have hb:v.natAbs<10^71:=lt_of_le_of_lt (le_trans hv hm2) (by decide);have lg:v.natAbs.log2<1920:=by
  by_cases z:v.natAbs=0
  .rw[z];decide
  .exact lt_of_lt_of_le ((log2_lt z).mpr (lt_of_lt_of_le hb (show 10^71<=2^240 by decide))) (by decide)
 refine Ak (Ig (i:=4) (r:=r) (mw:=m+1) (w:=2*w+400) (dp:=dp+4) (l:=max l 2+1) (B9 ?_));refine A2 (AK (A3 rfl (AF (Cw ?_))));refine A2 (AK (A3 rfl (AF (GQ ?_))));refine A2 (AK (AF (A3 rfl (GQ ?_))));refine A2 (AK (A3 rfl (AF (F0 ?_))));refine A2 (C1 (A2 (A3 rfl (A5 (KD lg ?_)))));refine A2 (Ag (A2 (A3 rfl (A5 ⟨B4,?_⟩))));refine A2 (A3 rfl (A5 ⟨AR (by simp),rfl,[.int (v+1),.int (v-1),.int (0-v),.bl (decide (v=1)),.str (Str.ofString (toString v)),.tup [.int v],tO],?_,r0,by simpa using r1,?_,λd' t' hi bo=>⟨d',rfl,a,b,g1,t',eh,hT,hi,bo⟩⟩))
 .exact .cons (AO (.int (v+1))) (.cons (AO (.int (v-1))) (.cons (AO (.int (0-v))) (.cons (AO (.bl (decide (v=1)))) (.cons (AO (.str (Str.ofString (toString v)))) (.cons (AO (.tup [.int v])) (.one hO))))))
 .have lo:=PV v.natAbs;intro t ht;simp only[mem_cons,not_mem_nil,or_false]at ht;rcases ht with rfl|rfl|rfl|rfl|rfl|rfl|rfl
  .refine Do (by omega) ?_;have:=Em (show(v+1).natAbs<=v.natAbs+1 by omega);omega
  .refine Do (by omega) ?_;have:=Em (show(v-1).natAbs<=v.natAbs+1 by omega);omega
  .refine Do (by omega) ?_;have:=Em (show(0-v).natAbs<=v.natAbs by omega);omega
  .exact Il (by omega)
  .refine D5 (Kz v) ?_;have:=Kj hb;omega
  .exact(HB hm bt).1
  .exact EI hm bO
def Qc{v:Str}{z3 z6:Option D}(hm:10^50<=m)(hw:w<=100000){h:Hd}{g1:Hd}(eh:h=a::b::(g++g1))(hT:T 0 a b)(hO:Is h.length h tO dO)(bt:Bo m w dp l (.str v))(bO:Bo (10^50) 200 2 2 tO)(r0:0<=r)(r1:r<7):
 WS (AX (B7 (AV (A0 (mOp Fh (A1 1) (mC (.str "s"))) (A0 (GB (A1 1) AI (AN (CK (mC (.int 1))))) (A0 (GA (A1 1)) (A0 (Cc (A1 1) (CK (mC (.int 1)))) (A0 (AS (A0 (A1 1) A4)) (A0 (mC (.str "steps")) (A0 (A1 5) A4)))))))) (A1 4)))
  [some (.mu 1),some (.im (.str v)),some (.im (.int k)),z3,some (.im (.int r)),some dO,z6] h λfl x=>∃d',fl=.rt d'/\PB m w dp l g d' x:=by
 have hv:Asc v:=by have:=bt.gd;simpa only[Gq]using this
 have hwv:v.length+1<=w:=by have:=bt.wt;simpa only[An.wt]using this
 obtain⟨u1,u2⟩:=W7 hv;have r2:=KU v;have c2:=W1 v none (some (-1));refine Ak (Ig (i:=4) (r:=r) (mw:=m+1) (w:=2*w+400) (dp:=dp+4) (l:=max l 2+1) (B9 ?_));refine A2 (AK (A3 rfl (AF (QQ (by
  have:("s":Str).length=1:=by decide
  omega) ?_))))
 refine A2 (TX (A3 rfl (Eb (C0 (DS (AF ⟨_,rfl,_,rfl,v,rfl,by omega,?_⟩))))));refine A2 (TW (A3 rfl ⟨v,rfl,by omega,?_⟩));refine A2 (QX (A3 rfl (DS (AF ⟨_,rfl,rfl,v,rfl,by omega,?_⟩))));refine A2 (Ag (A2 (A3 rfl (A5 ⟨B4,?_⟩))));refine A2 (AF (A2 (A3 rfl (A5 ⟨AR (by simp),rfl,[.str (v++"s"),.str (Eu v none (some (-1))),.str (Txt.upper v),.str (F9 v),.tup [.str v],.str "steps",tO],?_,r0,by simpa using r1,?_,λd' t' hi bo=>⟨d',rfl,a,b,g1,t',eh,hT,hi,bo⟩⟩))))
 .exact .cons (AO (.str (v++"s"))) (.cons (AO (.str (Eu v none (some (-1))))) (.cons (AO (.str (Txt.upper v))) (.cons (AO (.str (F9 v))) (.cons (AO (.tup [.str v])) (.cons (AO (.str "steps")) (.one hO))))))
 .intro t ht;simp only[mem_cons,not_mem_nil,or_false]at ht;rcases ht with rfl|rfl|rfl|rfl|rfl|rfl|rfl
  .refine D5 (TK hv (by decide)) ?_;rw[T1];have:("s":Str).length=1:=by decide
   omega
  .exact D5 (TJ hv _ _) (by omega)
  .exact D5 u1 (by omega)
  .exact D5 (TH hv) (by omega)
  .exact(HB hm bt).1
  .refine D5 (by decide) ?_;have:("steps":Str).length=5:=by decide
   omega
  .exact EI hm bO
end
def HC:∀(f k:Nat),k<f->∀{m w dp l:Nat},10^50<=m->m<=10^70->w<=100000->dp<=25->∀{a b:MO} {g:Hd} {t:Tv} {d:D},T 0 a b->Is (a::b::g).length (a::b::g) t d->Bo m w dp l t ->
 WF (FV f) [.mu 1,d,.im (.int (k:Int))] (a::b::g) (PB m w dp l g)
 |0,k,hk,_,_,_,_,_,_,_,_,_,_,_,_,_,_,_,_=>absurd hk (Nat.not_lt_zero _)
 |f+1,k,hk,m,w,dp,l,hm,hm2,hw,hdp,a,b,g,t,d,hT,hI,bt=>by
  show WF (mkF 3 7 (NS (FV f))) _ _ _;refine Dq rfl ?_;change WS _ [some (.mu 1),some d,some (.im (.int (k:Int))),none,none,none,none] _ _;refine AE (WP.mono (Q:=λfl x=>(∃d',fl=.rt d'/\PB m w dp l g d' x)∨∃a' b',fl=.nx [some (.mu 1),some d,some (.im (.int (k:Int))),none,none,none,none]/\x=a'::b'::g/\T 0 a' b') ?_ ?_)
  .refine Ab (GP (Ah (Ac (A3 rfl ⟨_,hI.isD .tuple,_,rfl,?_⟩))));by_cases ht:∃ts,t=.tup ts
   .obtain⟨ts,rfl⟩:=ht;rw[if_pos (by simp[ty])];obtain⟨ds,hv,hs⟩:=hI.view;obtain⟨g0,w0,p0,l0⟩:=bt.tup;have hlen:=hs.len;have hwl:=HD ts;refine GP (Ay (AK (A3 rfl (Ag (A5 ⟨Cg,?_⟩)))));rw[NQ];have bp:=bt.dp;refine TU (hI.pyN (by omega)) (CW 30 (.tup [])) ⟨(bt.gd.ok hm2).lay,by simp[I.py,I.pys,PyData.canLay0,PyData.canLayAll0],le_trans (Nat.min_le_right _ _) (by simp[I.py,I.pys,PyData.depth,PyData.depthAll])⟩ ⟨_,rfl,?_⟩;rw[eqv_nil];cases ts with
    |nil=>
     rw[if_neg (by simp)];exact⟨(λh=>by cases h),λ_=>AZ (.inr ⟨a,b,rfl,rfl,hT⟩)⟩
    |cons t0 tr=>
     rw[if_pos (by simp)];refine GP (Ay (AK (A3 rfl (AF (L7 ⟨_,rfl,?_⟩)))));by_cases hk0:0<k
     .rw[if_pos (by simpa using hk0)];refine Ay (AK (Dw (A2 (A3 rfl (A2 (AF (A5 ⟨a,b,g,5,rfl,rfl,hT,by decide,by decide,λr a b hT p q=>AF (L7 ⟨_,rfl,λ_=>?_,λ_=>AZ (.inr ⟨a,b,rfl,rfl,hT⟩)⟩)⟩)))))));have hs:Iss (a::b::g).length (a::b::g) (t0::tr) ds:=by have:=keeps (g':=[]) (a':=a) (b':=b) (le_refl _) hs;rw[append_nil]at this;exact this
      refine AE (Ar (Dw (A2 (A3 rfl (A2 (C1 (A2 (A3 rfl (A5 (GR (ds:=ds) (by rw[if_pos rfl];exact D6 hv) rfl (A5 ⟨a,b,g,(ds.length:Int),rfl,rfl,hT,by rw[hlen];simp,by omega,λr3 a b hT p q=>AA ?_⟩)))))))))));have hs:Iss (a::b::g).length (a::b::g) (t0::tr) ds:=by have:=keeps (g':=[]) (a':=a) (b':=b) (le_refl _) hs;rw[append_nil]at this;exact this
      obtain⟨j,rfl⟩:∃j:Nat,r3=(j:Int):=⟨r3.toNat,by omega⟩
      have hj:j<(t0::tr).length:=by omega
      obtain⟨dj,ej,ij⟩:=hs.get (List.getElem?_eq_getElem hj);have mj:(t0::tr)[j]∈(t0::tr):=List.getElem_mem hj;have hwj:wt ((t0::tr)[j])<=wts (t0::tr):=by
       have s1:=CN (t0::tr) j;rw[List.drop_eq_getElem_cons hj]at s1;simp only[wts]at s1 ⊢;omega
      have bj:Bo m (wt ((t0::tr)[j])) (dp-1) (tl ((t0::tr)[j])) ((t0::tr)[j]):=⟨g0 _ mj,le_refl _,by have:=ES mj;omega,le_refl _⟩
      refine Ak (AK (AK (IZ (j:=3) rfl hv rfl (Ag (A2 (B5 (A2 (A3 rfl (A2 (AK (A3 rfl (A3 rfl (By (ds:=ds) (D6 hv) (D8 rfl ej) (A2 (AK (A3 rfl (AF (GQ ?_))))))))))))))))));rw[show((k:Int)-1)=((k-1:Nat):Int) by omega];refine A5 ((HC f (k-1) (by omega) hm hm2 (show wt ((t0::tr)[j])<=100000 by omega) (by omega) hT ij bj).mono ?_);rintro d' x ⟨a,b,g',t',rfl,hT,hi,bo⟩;have u:Iss (a::b::(g++g')).length (a::b::(g++g')) (t0::tr) ds:=F3 (by simp) (keeps (le_refl _) hs);have tlj:(ds.take j).length<=ds.length:=by rw[length_take];omega
      have dlj:(ds.drop (j+1)).length<=ds.length:=by rw[length_drop];omega
      refine A5 ⟨B4,CO (A8 _) (A8 _) (by simp;omega) (J5 (c:=1) (j:=3) rfl hv rfl (Cj (A8 _) (A8 _) (by simp) (by simp;omega) (.inl ⟨_,rfl,a,b,g',.tup (((t0::tr).take j++[t'])++(t0::tr).drop (j+1)),rfl,hT,(((u.take j).app (.one hi)).app (u.drop (j+1))).tup,?_⟩)))⟩;have s1:=CN (t0::tr) j;rw[List.drop_eq_getElem_cons hj]at s1;simp only[wts]at s1;have bw:=bo.wt;have bd:=bo.dp;refine FU (λu hu=>?_) ?_ ?_ ?_
      .simp only[mem_append,mem_singleton]at hu;rcases hu with(hu|rfl)|hu
       .exact(g0 u (mem_of_mem_take hu)).mono (by omega)
       .exact bo.gd
       .exact(g0 u (List.mem_of_mem_drop hu)).mono (by omega)
      .rw[Bg,Bg];simp only[wts]at w0 ⊢;omega
      .have dt:Aq ((t0::tr).take j)<=Aq (t0::tr):=ER λu hu=>ES (mem_of_mem_take hu);have dd:Aq ((t0::tr).drop (j+1))<=Aq (t0::tr):=ER λu hu=>ES (List.mem_of_mem_drop hu);rw[GL,GL];simp only[Aq]at dt dd p0 ⊢;omega
      .simp at l0 ⊢;omega
     .rw[if_neg (by simpa using hk0)];exact⟨(λh=>by cases h),λ_=>AZ (.inr ⟨a,b,rfl,rfl,hT⟩)⟩
   .rw[if_neg (by cases t<;>simp[ty]at ht ⊢)];exact⟨(λh=>by cases h),λ_=>AZ (.inr ⟨a,b,rfl,rfl,hT⟩)⟩
  .rintro fl x (⟨d',rfl,h⟩|⟨a,b,rfl,rfl,hT⟩)
   .exact h
   refine AA ?_;have hI:Is (a::b::g).length (a::b::g) t d:=by have:=keep (g':=[]) (a':=a) (b':=b) (le_refl _) hI;rw[append_nil]at this;exact this
   refine AE (Ar (Dw (A2 (A3 rfl (A2 (AF (A5 ⟨a,b,g,7,rfl,rfl,hT,by decide,by decide,λr a b hT r0 r1=>AA ?_⟩)))))));refine AE (Ar (B5 (A2 (A3 rfl (A5 ((Md hT).mono ?_))))));rintro dO x ⟨a,b,g1,tO,rfl,hT,hO,bO⟩;refine AA ?_;have hI:Is (a::b::(g++g1)).length (a::b::(g++g1)) t d:=D9 (by simp) (keep (le_refl _) hI);change WS _ [some (.mu 1),some d,some (.im (.int (k:Int))),none,some (.im (.int r)),some dO,none] _ _;have fin:∀(fl:Fl) (x:Hd),(∃d',fl=.rt d'/\PB m w dp l g d' x)->(match fl with|.rt d=>PB m w dp l g d x|.nx _=>PB m w dp l g (.im .non) x|_=>False):=by
    rintro fl x ⟨d',rfl,h⟩;exact h
   cases t with
   |tup ts=>
    refine AE (Ab (Ah (Ac (A3 rfl ⟨true,hI.isD .tuple,_,rfl,λ_=>?_,λh=>by cases h⟩))));exact WP.mono (Qb hm hw rfl hT hI hO bt bO r0 r1) (by rintro fl x ⟨d',rfl,h⟩;exact h)
   |bl v=>
    have hI2:=hI;simp only[Is]at hI;subst hI;refine AE (Ab (Ah (Ac (A3 rfl ⟨false,hI2.isD .tuple,_,rfl,(λh=>by cases h),λ_=>AZ (AA ?_)⟩))));refine AE (Ab (Ah (Ac (A3 rfl ⟨true,hI2.isD .bool,_,rfl,λ_=>?_,λh=>by cases h⟩))));exact WP.mono (TY hm rfl hT hO bt bO r0 r1) (by rintro fl x ⟨d',rfl,h⟩;exact h)
   |int v=>
    have hI2:=hI;simp only[Is]at hI;subst hI;refine AE (Ab (Ah (Ac (A3 rfl ⟨false,hI2.isD .tuple,_,rfl,(λh=>by cases h),λ_=>AZ (AA ?_)⟩))));refine AE (Ab (Ah (Ac (A3 rfl ⟨false,hI2.isD .bool,_,rfl,(λh=>by cases h),λ_=>AZ (AA ?_)⟩))));refine AE (Ab (Ah (Ac (A3 rfl ⟨true,hI2.isD .int,_,rfl,λ_=>?_,λh=>by cases h⟩))));exact WP.mono (Qd hm hm2 rfl hT hO bt bO r0 r1) (by rintro fl x ⟨d',rfl,h⟩;exact h)
   |str v=>
    have hI2:=hI;simp only[Is]at hI;subst hI;refine AE (Ab (Ah (Ac (A3 rfl ⟨false,hI2.isD .tuple,_,rfl,(λh=>by cases h),λ_=>AZ (AA ?_)⟩))));refine AE (Ab (Ah (Ac (A3 rfl ⟨false,hI2.isD .bool,_,rfl,(λh=>by cases h),λ_=>AZ (AA ?_)⟩))));refine AE (Ab (Ah (Ac (A3 rfl ⟨false,hI2.isD .int,_,rfl,(λh=>by cases h),λ_=>AZ (AA ?_)⟩))));refine AE (Ab (Ah (Ac (A3 rfl ⟨true,hI2.isD .str,_,rfl,λ_=>?_,λh=>by cases h⟩))));exact WP.mono (Qc hm hw rfl hT hO bt bO r0 r1) (by rintro fl x ⟨d',rfl,h⟩;exact h)
   |non=>
    refine AE (Ab (Ah (Ac (A3 rfl ⟨false,hI.isD .tuple,_,rfl,(λh=>by cases h),λ_=>AZ (AA ?_)⟩))));refine AE (Ab (Ah (Ac (A3 rfl ⟨false,hI.isD .bool,_,rfl,(λh=>by cases h),λ_=>AZ (AA ?_)⟩))));refine AE (Ab (Ah (Ac (A3 rfl ⟨false,hI.isD .int,_,rfl,(λh=>by cases h),λ_=>AZ (AA ?_)⟩))));refine AE (Ab (Ah (Ac (A3 rfl ⟨false,hI.isD .str,_,rfl,(λh=>by cases h),λ_=>AZ (AA ?_)⟩))));exact Ak (A3 rfl ⟨a,b,g1,tO,rfl,hT,hO,EI hm bO⟩)
   |lst ts=>
    refine AE (Ab (Ah (Ac (A3 rfl ⟨false,hI.isD .tuple,_,rfl,(λh=>by cases h),λ_=>AZ (AA ?_)⟩))));refine AE (Ab (Ah (Ac (A3 rfl ⟨false,hI.isD .bool,_,rfl,(λh=>by cases h),λ_=>AZ (AA ?_)⟩))));refine AE (Ab (Ah (Ac (A3 rfl ⟨false,hI.isD .int,_,rfl,(λh=>by cases h),λ_=>AZ (AA ?_)⟩))));refine AE (Ab (Ah (Ac (A3 rfl ⟨false,hI.isD .str,_,rfl,(λh=>by cases h),λ_=>AZ (AA ?_)⟩))));exact Ak (A3 rfl ⟨a,b,g1,tO,rfl,hT,hO,EI hm bO⟩)
def CI:Tv->Bool
 |.int _=>true
 |_=>false
def CF:Tv->Int
 |.int i=>i
 |_=>0
def Q6{n:Nat}{h:Hd}{t:Tv}{d:D}(hi:Is n h t d):WF CB [d] h λd' x=>d'=.im (.bl (CI t))/\x=h:=by
 unfold CB;refine Dq rfl ?_;refine Ak (Qa (Ay (Ac (A3 rfl ⟨_,hi.isD .int,_,rfl,?_⟩))));cases t with
 |int i=>
  rw[if_pos (by simp[ty])];exact HE (Ay (Ac (A3 rfl ⟨_,hi.isD .bool,_,rfl,by simp[ty,CI]⟩)))
 |bl i=>
  rw[if_pos (by simp[ty])];exact HE (Ay (Ac (A3 rfl ⟨_,hi.isD .bool,_,rfl,by simp[ty,CI]⟩)))
 |non=>rw[if_neg (by simp[ty])];exact⟨rfl,rfl⟩
 |str x=>rw[if_neg (by simp[ty])];exact⟨rfl,rfl⟩
 |tup x=>rw[if_neg (by simp[ty])];exact⟨rfl,rfl⟩
 |lst x=>rw[if_neg (by simp[ty])];exact⟨rfl,rfl⟩
def X0:Dp=CB:=rfl
def ML{n:Nat}{h:Hd}:∀{ts:List Tv} {ds:List D},Iss n h ts ds->∀p∈ts.zip ds,Is n h p.1 p.2
 |[],ds,q,p,hp=>by simp at hp
 |t::ts,ds,q,p,hp=>by
  simp only[Iss]at q;obtain⟨d,r,rfl,q1,q2⟩:=q;rw[List.zip_cons_cons]at hp;rcases mem_cons.mp hp with rfl|hp
  .exact q1
  .exact ML q2 p hp
def NK{F:List D->Hd->Option (D×Hd)}{n:Nat}{h:Hd}{ts:List Tv}{ds:List D}(hF:∀{t d},Is n h t d->WF F [d] h λd' x=>d'=.im (.bl (CI t))/\x=h)(hs:Iss n h ts ds){QA:List D->Hd->Prop}(q:QA (blD (ts.map CI)) h):WP (B0 (AU 0) E2 (Am F (A0 (A1 0) A4)) [] ds [none] h) QA:=by
 have hl:=hs.len;have e:ds=(ts.zip ds).map (·.2):=by rw[List.map_snd_zip];omega
 rw[e];refine ED (λp:Tv×D=>p.2) (λp=>some (.im (.bl (CI p.1)))) (λ_ ls=>∃x,ls=[some x]) _ (Aa _) ?_ ?_
 .rintro⟨t,d⟩ hp ls hls;have hi:=ML hs _ hp;refine⟨[some d],by rcases hls with rfl|⟨_,x,rfl⟩<;>rfl,⟨_,rfl⟩,Ez ⟨rfl,?_⟩⟩;rw[if_pos rfl];refine⟨_,rfl,B5 (A2 (A3 rfl (A5 ((hF hi).mono ?_))))⟩;rintro d x ⟨rfl,rfl⟩;exact⟨rfl,rfl⟩
 .have e2:((ts.zip ds).filterMap λp=>some (D.im (.bl (CI p.1))))=blD (ts.map CI):=by
   rw[List.filterMap_eq_map',blD,map_map,show(λp:Tv×D=>D.im (.bl (CI p.1)))=(λt=>D.im (.bl (CI t))) ∘ Prod.fst from rfl,<- map_map,List.map_fst_zip (by omega)];rfl
  rw[e2];exact q
def ints_of{n:Nat}{h:Hd}:∀{ts:List Tv} {ds:List D},Iss n h ts ds->ts.all CI=true->ds=intD (ts.map CF)
 |[],ds,q,_=>by simp only[Iss]at q;subst q;rfl
 |t::ts,ds,q,a=>by
  simp only[Iss]at q;obtain⟨d,r,rfl,q1,q2⟩:=q;simp only[all_cons,Bool.and_eq_true]at a;rw[ints_of q2 a.2];cases t with
  |int i=>simp only[Is]at q1;subst q1;rfl
  |_=>exact absurd a.1 (by simp[CI])
def Jc:∀ns ms:List Int,PyData.eqvAll (ns.map PyData.int) (ms.map PyData.int)=decide (ns=ms)
 |[],[]=>by simp[PyData.eqvAll]
 |[],m::s=>by simp[PyData.eqvAll]
 |n::r,[]=>by simp[PyData.eqvAll]
 |n::r,m::s=>by
  simp only[map_cons,PyData.eqvAll,PyData.eqv,Jc r s,List.cons.injEq,Bool.decide_and];rfl
def Gx:∀ns:List Int,PyData.depthAll (ns.map PyData.int)=0
 |[]=>by simp[PyData.depthAll]
 |n::r=>by simp[PyData.depthAll,PyData.depth,Gx r]
def OC{neg:Bool}{ma ml:MA}{ls:Ls}{hd:Hd}{QE:D->Hd->Prop}(h:WA ma ls hd λes x=>WA ml ls x λds y=>∃ns ms:List Int,es=intD ns/\ds=intD ms/\QE (.im (.bl (if neg then !decide (ns=ms)else decide (ns=ms)))) y):WE (DH neg ma ml) ls hd QE:=by
 obtain⟨es,x,e1,ds,y,e2,ns,ms,rfl,rfl,q⟩:=h;refine⟨_,y,?_,q⟩;unfold DH;rw[e1];simp only[bind_some,e2];simp only[intD,C5,bind_some,CH];unfold FO;rw[if_pos ⟨Bd.lay_ints ns,Bd.lay_ints ms,by simp[PyData.depth,Gx]⟩];simp only[PyData.eqv,Jc]
def MW{mi:MI}{ls:Ls}{hd:Hd}{QA:List D->Hd->Prop}(h:WI mi ls hd λp x=>∃ns:List Int,p.1=intD ns/\ns.length<64/\QA (intD (BZ ns)) x):WA (Cq mi) ls hd QA:=by
 obtain⟨p,x,e,ns,e1,hl,q⟩:=h;refine⟨_,_,?_,q⟩;simp only[Cq,e,bind_some,e1,show Aw (intD ns)=some ns from FJ ns,hl,if_true]
def isO(n:Nat)(ps:List (Int×Int)):Tv->Bool
 |.tup ts=>ts.all CI&&(decide (BZ (ts.map CF)=cs (List.range n))&&ps.all λp=>decide ((ts.map CF).idxOf p.1<(ts.map CF).idxOf p.2))
 |_=>false
def PIn(n:Nat)(ps:List (Int×Int)):Prop:=ps.length<=100/\∀p∈ps,∃a b:Nat,p=((a:Int),(b:Int))/\a<n/\b<n
def HI{n:Nat}{ns:List Int}(h:BZ ns=cs (List.range n)){a:Nat}(ha:a<n):(a:Int)∈ns:=by
 rw[<- (CV ns).mem_iff,h,Jl];simpa using ha
def T5{n N:Nat}{is:List I}{ps:List (Int×Int)}{h:Hd}{t:Tv}{d:D}(hl:is.length=n)(hn:n<=8)(hp:PIn n ps)(hi:Is N h t d)(ht:tl t<64):WF Ci [.im (.tup is),.im (wI ps),d] h λd' x=>d'=.im (.bl (isO n ps t))/\x=h:=by
 unfold Ci;refine Dq rfl ?_;by_cases hT:∃ts,t=.tup ts
 .obtain⟨ts,rfl⟩:=hT;obtain⟨ds,hv,hs⟩:=hi.view;have hl2:=hs.len;have htl:ts.length<64:=ht;refine AE (Ab (EZ (EB (Ah (Ac (A3 rfl ⟨_,hi.isD .tuple,_,rfl,?_⟩))))));rw[if_neg (by simp[ty])];refine EB (Ah (Iv (DL (Ft (A3 rfl ⟨ds,hv,AR (by dsimp only;omega),?_⟩)))));refine NK Q6 hs ⟨_,by rw[GF,Ju];rfl,_,rfl,?_⟩;by_cases hall:ts.all CI=true
  .refine⟨(λh=>by simp[all_map]at h hall;obtain⟨x,hx,hx2⟩:=h;rw[hall x hx]at hx2;cases hx2),λ_=>AZ (AA ?_)⟩;have e:=ints_of hs hall;subst e;refine AE (Ab (Ay (OC (MW (Ft (A3 rfl ⟨_,hv,ts.map CF,rfl,by simpa using htl,?_⟩))))));refine KJ (k:=(n:Int)) (by simp[BH,hl]) (Fw (by omega) (by omega)) ?_;rw[toNat_natCast,DB];refine⟨_,cs (List.range n),rfl,by simp[AB,intD,cs],_,rfl,?_⟩;by_cases hso:BZ (ts.map CF)=cs (List.range n)
   .refine⟨(λh=>by simp[hso]at h),λ_=>AZ (AA ?_)⟩;refine Ak (Iv (DL (Ft (A3 rfl ⟨_,rfl,AR (by have:=hp.1;simp;omega),?_⟩))));rw[map_map];refine ED (λp=>D.im (FB p)) (λp=>some (.im (.bl (decide ((ts.map CF).idxOf p.1<(ts.map CF).idxOf p.2))))) (λ_ ls=>∃x y,ls=[some x,some y,some d]) _ (Aa _) ?_ ?_
    .rintro p hpp ls hls;obtain⟨a,b,rfl,ha,hb⟩:=hp.2 p hpp;refine⟨[some (.im (.int (a:Int))),some (.im (.int (b:Int))),some d],by rcases hls with rfl|⟨_,x,y,rfl⟩<;>rfl,⟨_,_,rfl⟩,Ez ⟨rfl,?_⟩⟩;rw[if_pos rfl];refine⟨_,rfl,AK (MU (A3 rfl ⟨⟨_,hv⟩,A2 (A3 rfl (A5 (Ht hv (FJ _) (HI hso ha) (MU (A3 rfl ⟨⟨_,hv⟩,A2 (A3 rfl (A5 (Ht hv (FJ _) (HI hso hb) (L3 ⟨rfl,?_⟩))))⟩)))))⟩))⟩;simp
    .rw[List.filterMap_eq_map',show(ps.map ((λp=>D.im (.bl (decide ((ts.map CF).idxOf p.1<(ts.map CF).idxOf p.2))))))=blD (ps.map λp=>decide ((ts.map CF).idxOf p.1<(ts.map CF).idxOf p.2)) by simp[blD]];refine⟨_,by rw[GF,Ju];rfl,?_,rfl⟩;simp[isO,hall,hso,all_map]
   .refine⟨λ_=>Ak (AF ⟨?_,rfl⟩),(λh=>by simp[hso]at h)⟩;simp[isO,hso]
  .refine⟨λ_=>Ak (AF ⟨?_,rfl⟩),(λh=>absurd ?_ hall)⟩
   .simp[isO,Bool.eq_false_iff.mpr hall]
   .simp only[Bool.not_eq_eq_eq_not,Bool.not_false]at h;rw[all_map]at h;exact h
 .refine AE (Ab (EZ (EB (Ah (Ac (A3 rfl ⟨_,hi.isD .tuple,_,rfl,?_⟩))))));rw[if_pos (by cases t<;>simp[ty]at hT ⊢)];refine⟨λ_=>Ak (AF ⟨?_,rfl⟩),λh=>by cases h⟩;cases t<;>simp[isO]at hT ⊢
def OU{n:Nat}{ns:List Int}(h:BZ ns=cs (List.range n)):ns.length=n:=by
 have:=(CV ns).length_eq;rw[h]at this;simpa [cs]using this.symm
def Jk(n:Nat):(cs (List.range n)).Nodup:=by
 rw[cs,List.Nodup,List.pairwise_map];exact List.nodup_range.imp λh q=>h (by omega)
def NM:∀{A B:List Int},A.Nodup->(∀x∈A,x∈B)->B.length<=A.length->A.Perm B
 |[],B,_,_,hl=>by
  have:B=[]:=length_eq_zero_iff.mp (by simpa using hl);subst this;exact .nil
 |a::A,B,nd,hs,hl=>by
  have ha:=hs a (by simp);have nd2:=nodup_cons.mp nd;have ih:=NM (A:=A) (B:=B.erase a) nd2.2 (λx hx=>(List.mem_erase_of_ne (λq:x=a=>nd2.1 (by rw[<- q];exact hx))).mpr (hs x (by simp[hx]))) (by rw[List.length_erase_of_mem ha];simp at hl;omega);exact(ih.cons a).trans (List.perm_cons_erase ha).symm
def LR{n:Nat}{ns:List Int}(h:BZ ns=cs (List.range n)):ns.Nodup:=by
 rw[<- (CV ns).nodup_iff,h];exact Jk n
def OV{n:Nat}{ns:List Int}(hl:ns.length=n)(h:∀k:Nat,k<n->(k:Int)∈ns):BZ ns=cs (List.range n):=by
 have p:(cs (List.range n)).Perm ns:=NM (Jk n) (λx hx=>by
  obtain⟨k,hk,rfl⟩:=mem_map.mp hx;exact h k (by simpa using hk)) (by simp[cs];omega)
 refine EH ((CV _).trans p.symm) (F6 _) ?_;rw[cs,List.pairwise_map];exact List.pairwise_le_range.imp λh=>by omega
def Plc(ns:List Int)(m:Nat)(kvs:List (Key×D)):Prop:=∀j:Int,(j∈ns.take m->∃i:Nat,Ae kvs (.inl j)=some (.im (.int (i:Int)))/\ns[i]?=some j)/\(j∉ns.take m->Ae kvs (.inl j)=none)
def P8{ns:List Int}{m:Nat}{kvs:List (Key×D)}{v:Int}(h:Plc ns m kvs)(e:ns[m]?=some v):Plc ns (m+1) (BP kvs (.inl v) (.im (.int (m:Int)))):=by
 have et:ns.take (m+1)=ns.take m++[v]:=by rw[List.take_succ,e];rfl
 intro j;rw[et,OD];by_cases hj:j=v
 .subst hj;rw[if_pos rfl];exact⟨λ_=>⟨m,rfl,e⟩,λh=>absurd (by simp) h⟩
 .rw[if_neg (by simpa using hj)];refine⟨λq=>(h j).1 ?_,λq=>(h j).2 ?_⟩
  .simpa [hj]using q
  .simp at q;exact λw=>q.1 w
def PX{n N:Nat}{ps:List (Int×Int)}{h:Hd}{t:Tv}{d:D}(hn:n<=8)(hp:PIn n ps)(hi:Is N h t d)(ht:tl t<64):WF CA [.im (.int (n:Int)),.im (wI ps),d] h λd' x=>d'=.im (.bl (isO n ps t))/\∃g,x=h++g:=by
 unfold CA;refine Dq rfl ?_;by_cases hT:∃ts,t=.tup ts
 .obtain⟨ts,rfl⟩:=hT;obtain⟨ds,hv,hs⟩:=hi.view;have hl2:=hs.len;have htl:ts.length<64:=ht;refine AE (Ab (EZ (EB (Ah (Ac (A3 rfl ⟨_,hi.isD .tuple,_,rfl,?_⟩))))));rw[if_neg (by simp[ty])];refine EZ (Ay (AK (C1 (A2 (A3 rfl (A5 (GR (ds:=ds) (by rw[if_pos rfl];exact D6 hv) rfl (A3 rfl (MP ⟨_,rfl,?_⟩)))))))));by_cases hln:ts.length=n
  .rw[if_neg (by simp;omega)];refine Ay (Iu (AF (DL (Ft (A3 rfl ⟨ds,hv,AR (by dsimp only;omega),?_⟩)))));refine NK (by rw[X0];exact Q6) hs ⟨_,_,_,rfl,rfl,GH _,_,rfl,?_⟩;rw[Ha];by_cases hall:ts.all CI=true
   .refine⟨(λh=>by simp at h hall;obtain⟨x,hx,hx2⟩:=h;rw[hall x hx]at hx2;cases hx2),λ_=>AZ (AA ?_)⟩;have e:=ints_of hs hall;subst e;clear hs;refine AE (Ar (KI (AA ?_)));generalize hns:ts.map CF=ns at *;have hnl:ns.length=n:=by rw[<- hns];simpa using hln
    refine AE (EC (QV (Ft (A3 rfl ⟨_,hv,?_⟩))));refine Cy (λl ls hd=>∃m kvs z4 z5,l=((intD ns).zipIdx.map λq=>AD [.im (.int (q.2:Int)),q.1]).drop m/\ls=[some (.im (.int (n:Int))),some (.im (wI ps)),some d,some (.mu h.length),z4,z5]/\hd=h++[.dic kvs]/\kvs.length<=m/\Plc ns m kvs) ⟨0,[],none,none,rfl,rfl,rfl,le_refl _,λj=>⟨(λq=>by simp at q),λ_=>rfl⟩⟩ ?_ ?_
    .rintro dd r ls hd ⟨m,kvs,z4,z5,el,rfl,rfl,hk,hP⟩;have hm:m<ns.length:=by
      have:=congrArg List.length el;simp at this;omega
     rw[List.drop_eq_getElem_cons (by simpa using hm)]at el;obtain⟨rfl,rfl⟩:=List.cons.inj el;refine⟨[some (.im (.int (n:Int))),some (.im (wI ps)),some d,some (.mu h.length),some (.im (.int (m:Int))),some (.im (.int ns[m]))],by simp[intD,AD],?_⟩;refine QK (k:=.inl 0) (w:=0) (A3 rfl (A3 rfl (A3 rfl ⟨h.length,.inl ns[m],kvs,rfl,rfl,by simp,Bu (by omega),Aa _,m+1,BP kvs (.inl ns[m]) (.im (.int (m:Int))),_,_,rfl,rfl,by simp,by have:=P4 kvs (.inl ns[m]) (.im (.int (m:Int)));omega,P8 hP (by simp[hm])⟩)))
    .rintro ls hd ⟨m,kvs,z4,z5,el,rfl,rfl,hk,hP⟩;have hm:ns.length<=m:=by
      have:=congrArg List.length el;simp at this;omega
     have hP:∀j:Int,(j∈ns->∃i:Nat,Ae kvs (.inl j)=some (.im (.int (i:Int)))/\ns[i]?=some j)/\(j∉ns->Ae kvs (.inl j)=none):=by
      have:=hP;unfold Plc at this;rwa [take_of_length_le hm]at this
     refine AA ?_;refine AE (Ab (Ay (Iu (AF (DL (L9 (A2 (A3 rfl (A5 ⟨_,rfl,CP (by omega) (by omega),AR (by simp;omega),?_⟩)))))))));rw[toNat_natCast,DB];refine ED (λk:Nat=>D.im (.int (k:Int))) (λk=>some (.im (.bl (decide ((k:Int)∈ns))))) (λ_ ls=>∃x,ls=[some x,some (.mu h.length)]) _ (Aa _) ?_ ?_
     .rintro k hkk ls hls;refine⟨[some (.im (.int (k:Int))),some (.mu h.length)],by rcases hls with rfl|⟨_,x,rfl⟩<;>rfl,⟨_,rfl⟩,Ez ⟨rfl,?_⟩⟩;rw[if_pos rfl];refine⟨_,rfl,AK (A3 rfl (A3 rfl (TV (k:=.inl (k:Int)) (kvs:=kvs) (by simp[BJ]) rfl ⟨rfl,?_⟩)))⟩;by_cases hkn:(k:Int)∈ns
      .obtain⟨i,e1,_⟩:=(hP k).1 hkn;simp[e1,hkn]
      .simp[(hP k).2 hkn,hkn]
     .rw[List.filterMap_eq_map',show((List.range n).map ((λk:Nat=>D.im (.bl (decide ((k:Int)∈ns))))))=blD ((List.range n).map λk:Nat=>decide ((k:Int)∈ns)) by simp[blD]];refine⟨_,_,_,rfl,rfl,GH _,_,rfl,?_⟩;rw[Ha];by_cases hin:∀k:Nat,k<n->(k:Int)∈ns
      .refine⟨(λq=>by simp at q;obtain⟨x,hx,hx2⟩:=q;exact absurd (hin x hx) hx2),λ_=>AZ (AA ?_)⟩;have hso:=OV hnl hin;have hnd:=LR hso;have hat:∀k:Nat,k<n->Ae kvs (.inl (k:Int))=some (.im (.int (ns.idxOf (k:Int):Nat))):=λk hk=>by
        obtain⟨i,e1,e2⟩:=(hP k).1 (hin k hk);obtain⟨hi,e3⟩:=List.getElem?_eq_some_iff.mp e2;rw[e1,<- e3,hnd.idxOf_getElem i hi]
       refine Ak (Iu (AF (DL (Ft (A3 rfl ⟨_,rfl,AR (by have:=hp.1;simp;omega),?_⟩)))));rw[map_map];refine ED (λp=>D.im (FB p)) (λp=>some (.im (.bl (decide (ns.idxOf p.1<ns.idxOf p.2))))) (λ_ ls=>∃x y,ls=[some x,some y,some (.mu h.length)]) _ (Aa _) ?_ ?_
       .rintro p hpp ls hls;obtain⟨a,b,rfl,ha,hb⟩:=hp.2 p hpp;refine⟨[some (.im (.int (a:Int))),some (.im (.int (b:Int))),some (.mu h.length)],by rcases hls with rfl|⟨_,x,y,rfl⟩<;>rfl,⟨_,_,rfl⟩,Ez ⟨rfl,?_⟩⟩;rw[if_pos rfl];refine⟨_,rfl,AK (AK (A3 rfl (A3 rfl (KG (k:=.inl (a:Int)) (kvs:=kvs) (by simp[BJ]) rfl (hat a ha) (AK (A3 rfl (A3 rfl (KG (k:=.inl (b:Int)) (kvs:=kvs) (by simp[BJ]) rfl (hat b hb) (L3 ⟨rfl,?_⟩)))))))))⟩;simp
       .rw[List.filterMap_eq_map',show(ps.map ((λp=>D.im (.bl (decide (ns.idxOf p.1<ns.idxOf p.2))))))=blD (ps.map λp=>decide (ns.idxOf p.1<ns.idxOf p.2)) by simp[blD]];refine⟨_,_,_,rfl,rfl,GH _,?_,_,rfl⟩;rw[Ha];have ea:∀b:Bool,(.im (.bl (if true=true then !b else b)):D)=.im (.bl (!b)):=λb=>rfl;rw[ea];simp only[isO,hns,hall,hso,decide_true,Bool.true_and]
        congr 2
        rw[Bool.eq_iff_iff];simp
      .refine⟨λ_=>Ak (AF ⟨?_,_,rfl⟩),λq=>?_⟩
       .have:¬ BZ (ts.map CF)=cs (List.range n):=λq=>hin λk hk=>HI (by rw[<- hns];exact q) hk;simp[isO,this]
       .refine absurd (λk hk=>?_) hin;simp at q;exact q k hk
   .refine⟨λ_=>Ak (AF ⟨?_,[],by simp⟩),(λh=>absurd ?_ hall)⟩
    .simp[isO,Bool.eq_false_iff.mpr hall]
    .simpa using h
  .rw[if_pos (by simp;omega)];refine⟨λ_=>Ak (AF ⟨?_,[],by simp⟩),λh=>by cases h⟩;have:¬ BZ (ts.map CF)=cs (List.range n):=λq=>hln (by simpa using OU q);simp[isO,this]
 .refine AE (Ab (EZ (EB (Ah (Ac (A3 rfl ⟨_,hi.isD .tuple,_,rfl,?_⟩))))));rw[if_pos (by cases t<;>simp[ty]at hT ⊢)];refine⟨λ_=>Ak (AF ⟨?_,[],by simp⟩),λh=>by cases h⟩;cases t<;>simp[isO]at hT ⊢
abbrev kT(ks:List Nat):List Tv:=ks.map λk:Nat=>Tv.int (k:Int)
def Bi(t:Tv):Prop:=Bo (10^60) 300 3 17 t
def Bt(t:Tv):Prop:=Bo (10^60) 5200 4 17 t
def BV{n:Nat}{hd:Hd}:∀ks:List Nat,Iss n hd (kT ks) (AB ks)
 |[]=>.nil
 |k::ks=>.cons (AO (.int (k:Int))) (BV ks)
def Io{w:Nat}:∀{us:List Tv},(∀u∈us,wt u<=w)->wts us<=us.length*w
 |[],_=>by simp[wts]
 |u::us,h=>by
  have h1:=h u (by simp);have h2:=Io (us:=us) λv hv=>h v (by simp[hv]);rw[wts,length_cons,Nat.succ_mul];omega
def Bw{us:List Tv}(h:∀u∈us,Bi u)(hl:us.length<=17):Bt (.tup us)/\Bt (.lst us):=by
 have h1:=Io (w:=300) λu hu=>(h u hu).wt;have h2:us.length*300<=17*300:=Nat.mul_le_mul_right _ hl;have h3:=ER (k:=3) λu hu=>(h u hu).dp;exact⟨FU (λu hu=>(h u hu).gd) (by omega) (by omega) hl,Jt (λu hu=>(h u hu).gd) (by omega) (by omega) hl⟩
def FH{k:Nat}(hk:k<=8):k.log2<=3:=by
 have:=Em hk;exact le_trans this (by decide)
def Hr{k:Nat}(hk:k<=8):Bi (.int (k:Int)):=by
 have:=FH hk;exact Do (by simp;omega) (by simp;omega)
def Im{ks:List Nat}(h:∀k∈ks,k<8)(hl:ks.length<=8):Bi (.tup (kT ks)):=by
 have hb:∀u∈kT ks,Bi u/\wt u<=5:=λu hu=>by
  obtain⟨k,hk,rfl⟩:=mem_map.mp hu;have h8:=h k hk;have:=FH (k:=k) (by omega);exact⟨Hr (by omega),by simp only[wt];simp;omega⟩
 have h1:=Io (w:=5) λu hu=>(hb u hu).2;have h2:(kT ks).length*5<=8*5:=Nat.mul_le_mul_right _ (by simpa using hl);have h3:Aq (kT ks)<=0:=ER λu hu=>by
  obtain⟨k,hk,rfl⟩:=mem_map.mp hu;simp[dep]
 exact FU (λu hu=>(hb u hu).1.gd) (by omega) (by omega) (by simp;omega)
section
variable{ls:Ls}{hd:Hd}{QE:D->Hd->Prop}{i j k:Nat}{d:D}{ds:List D}
def Pt(h1:ls[i]?=some (some d))(hv:A9 d=some ds)(h2:ls[j]?=some (some (.im (.int (k:Int)))))(hk:k<ds.length)(q:QE (AD (ds.take k)) hd):WE (Dc (A1 i) AI (AN (A1 j))) ls hd QE:=
 MR (A3 h1 (Eb (C0 (A3 h2 ⟨_,rfl,ds,hv,by rw[sIx_nat];omega,by rw[Ji];exact q⟩))))
def Me(h1:ls[i]?=some (some d))(hv:A9 d=some ds)(h2:ls[j]?=some (some (.im (.int (k:Int)))))(hk:k<ds.length)(q:QE (AD (ds.drop (k+1))) hd):WE (Dc (A1 i) (AN (mOp AC (A1 j) (mC (.int 1)))) AI) ls hd QE:=
 MR (A3 h1 (C0 (AK (A3 h2 (AF (Cw ⟨_,rfl,Eb ⟨ds,hv,by rw[show((k:Int)+1)=((k+1:Nat):Int) by omega,sIx_nat];omega,by rw[show((k:Int)+1)=((k+1:Nat):Int) by omega,Jj];exact q⟩⟩))))))
end
def Vj{n:Nat}{j:Nat}(hj:j<n):ixN n (j:Int)=some j:=by
 unfold ixN;simp[hj]
def W5{h:Hd}{A B F F':MO}{k:Nat}(hk:k<h.length+2):(h++[A,B,F'])[k]?=(h++[A,B,F])[k]? := by
 by_cases h1:k<h.length
 .rw[List.getElem?_append_left h1,List.getElem?_append_left h1]
 .rw[List.getElem?_append_right (by omega),List.getElem?_append_right (by omega)];obtain h2|h2:k-h.length=0∨k-h.length=1:=by omega
  .rw[h2];rfl
  .rw[h2];rfl
def Qn{h:Hd}{A B F F':MO}:(h++[A,B,F]).set (h.length+2) F'=h++[A,B,F']:=by simp
def PN(g:Hd)(d:D)(x:Hd):Prop:=∃p a b g' ts ds,d=.mu p/\x=a::b::(g++g')/\T 0 a b/\x[p]?=some (.lst ds)/\Iss x.length x ts ds/\ts.length<=30/\∀t∈ts,Bt t
def NL{n:Nat}(n1:1<=n)(n8:n<=8){ks:List Nat}(pm:ks.Perm (List.range n)){a b:MO}{g:Hd}(hT:T 0 a b):WF FW [.mu 1,.im (.int (n:Int)),.im (BS ks)] (a::b::g) (PN g):=by
 have hkl:ks.length=n:=by simpa using pm.length_eq
 have hkn:∀k∈ks,k<8:=λk hk=>lt_of_lt_of_le (show k<n by simpa using pm.mem_iff.mp hk) n8;have hv:A9 (.im (BS ks))=some (AB ks):=by show some _=_;rw[HQ]
 unfold FW;refine Dq rfl ?_;refine AE (MM (A2 (Dw (A2 (A3 rfl (A2 (A3 rfl (A5 ⟨a,b,g,(n:Int),rfl,rfl,hT,by omega,by omega,λr3 a b hT p q=>A2 (Dw (A2 (A3 rfl (A2 (A3 rfl (A5 ⟨a,b,g,(n:Int),rfl,rfl,hT,by omega,by omega,λr4 a b hT p4 q4=>A5 ⟨rfl,AA ?_⟩⟩))))))⟩))))))));obtain⟨j3,rfl⟩:∃j:Nat,r3=(j:Int):=⟨r3.toNat,by omega⟩
 obtain⟨j4,rfl⟩:∃j:Nat,r4=(j:Int):=⟨r4.toNat,by omega⟩
 have h3:j3<ks.length:=by omega
 have h4:j4<ks.length:=by omega
 have e3:(AB ks)[j3]?=some (.im (.int (ks[j3]:Int))):=by simp[AB,h3]
 have e4:(AB ks)[j4]?=some (.im (.int (ks[j4]:Int))):=by simp[AB,h4]
 have m3:=hkn _ (List.getElem_mem h3);have m4:=hkn _ (List.getElem_mem h4);generalize eH:a::b::g=h;have h2:2<=h.length:=by rw[<- eH];simp
 refine AE (Ar (B6 (HF (A3 rfl ⟨AB ks,D6 hv,AA ?_⟩))));have sv5:∀(C:List D) (g:Hd),Ad (h++(.lst C::g)) (.mu h.length)=some C:=λC g=>by simp[Ad,A9,Ai]
 refine AE (TM (Ag (A2 (AK (A3 rfl (A3 rfl (By (sv5 _ _) (D8 rfl e4) (A2 (AK (A3 rfl (A3 rfl (By (sv5 _ _) (D8 rfl e3) (A5 ⟨FM,?_⟩)))))))))))));refine⟨_,_,A8 _,A3 rfl (A3 rfl ⟨h.length,(j3:Int),j3,AB ks,rfl,rfl,by simp,Vj (by simpa using h3),A3 rfl (A3 rfl ⟨h.length,(j4:Int),j4,(AB ks).set j3 (.im (.int (ks[j4]:Int))),rfl,rfl,by simp,Vj (by simpa using h4),AA ?_⟩)⟩)⟩;have eC:((AB ks).set j3 (.im (.int (ks[j4]:Int)))).set j4 (.im (.int (ks[j3]:Int)))=AB ((ks.set j3 ks[j4]).set j4 ks[j3]):=by simp[AB,List.map_set]
 have eS:((h++[MO.lst (AB ks)]).set h.length (.lst ((AB ks).set j3 (.im (.int (ks[j4]:Int)))))).set h.length (.lst (((AB ks).set j3 (.im (.int (ks[j4]:Int)))).set j4 (.im (.int (ks[j3]:Int)))))=h++[.lst (AB ((ks.set j3 ks[j4]).set j4 ks[j3]))]:=by rw[eC];simp
 rw[eS];have hC:∀k∈(ks.set j3 ks[j4]).set j4 ks[j3],k<8:=λk hk=>by
  rcases List.mem_or_eq_of_mem_set hk with hk|rfl
  .rcases List.mem_or_eq_of_mem_set hk with hk|rfl
   .exact hkn k hk
   .exact m4
  .exact m3
 have lC:((ks.set j3 ks[j4]).set j4 ks[j3]).length=ks.length:=by simp
 generalize (ks.set j3 ks[j4]).set j4 ks[j3]=C at *;have nl:(AB ks).length=n:=by simp[AB,hkl]
 have tlk:∀n,((AB ks).take n).length<=(AB ks).length:=λn=>by rw[length_take];omega
 have dlk:∀n,((AB ks).drop n).length<=(AB ks).length:=λn=>by rw[length_drop];omega
 refine AE (Ar (B6 (B9 (A2 (C1 (A2 (A3 rfl (A5 (GR (ds:=AB C) (by rw[if_pos rfl];exact sv5 _ _) rfl ?_)))))))));refine A2 (KH (A3 rfl (DS (AF ⟨_,rfl,rfl,_,hv,?_⟩))));refine A2 (AK (Pt (j:=3) rfl hv rfl (by omega) (Me (j:=3) rfl hv rfl (by omega) (CO (A8 _) (A8 _) (by have:=tlk j3;have:=dlk (j3+1);omega) ?_))));refine A2 (AK (Mh (j:=3) rfl hv rfl (LS (j:=3) rfl hv rfl (Cj (A8 _) (A8 _) (by intro q;have:=congrArg List.length q;rw[length_take,length_nil]at this;omega) (by have:=tlk (j3+1);have:=dlk j3;omega) ?_))));refine A2 (B6 (HF (A3 rfl ⟨AB ks,D6 hv,A5 ⟨AR (by simp),AA ?_⟩⟩)));change WS _ [some (.mu 1),some (.im (.int (n:Int))),some (.im (BS ks)),some (.im (.int (j3:Int))),some (.im (.int (j4:Int))),some (.mu h.length),some (.mu (h++[MO.lst (AB C)]++[MO.lst (AB ks)]).length),none] _ _;rw[show(h++[MO.lst (AB C)]++[MO.lst (AB ks)]).length=h.length+2 by simp,show(h++[MO.lst (AB C)]).length=h.length+1 by simp];generalize eB:[AD (AB C),AD (AB ks).reverse,_,_,D.mu (h.length+1)]=B;have bk:∀u∈kT ks,Bi u:=λu hu=>by
  obtain⟨k,hk,rfl⟩:=mem_map.mp hu;exact Hr (by have:=hkn k hk;omega)
 have bC:∀u∈kT C,Bi u:=λu hu=>by
  obtain⟨k,hk,rfl⟩:=mem_map.mp hu;exact Hr (by have:=hC k hk;omega)
 have lk:(kT ks).length=n:=by simp[hkl]
 have tk:∀n u,u∈(kT ks).take n->Bi u:=λn u hu=>bk u (mem_of_mem_take hu);have dk:∀n u,u∈(kT ks).drop n->Bi u:=λn u hu=>bk u (List.mem_of_mem_drop hu);have tl:∀n,((kT ks).take n).length<=(kT ks).length:=λn=>by rw[length_take];omega
 have dl:∀n,((kT ks).drop n).length<=(kT ks).length:=λn=>by rw[length_drop];omega
 refine AE (EC (O9 (B9 ?_)));refine A2 (AK (A3 rfl (A3 rfl (By (D6 hv) (D8 rfl e4) ?_))));refine A2 (A3 rfl (A2 (DS (AF ⟨_,rfl,A2 (AF ?_)⟩))));refine A2 (C1 (A2 (AK (A3 rfl (A3 rfl (By (D6 hv) (D8 rfl e3) (A5 (KD (by have:=FH (k:=ks[j3]) (by omega);simp;omega) ?_))))))));refine A2 (AK (AK (A3 rfl (A3 rfl (By (D6 hv) (D8 rfl e3) (AF (F0 ?_)))))));refine A2 (AK (AK (A3 rfl (A3 rfl (By (D6 hv) (D8 rfl e3) (AF (F0 ?_)))))));refine A2 (Ag (A2 (AK (A3 rfl (A3 rfl (By (D6 hv) (D8 rfl e3) (A5 ⟨B4,?_⟩)))))));refine A2 (AK (AF (AF (KF (k:=60) (by decide) (A5 ⟨AR (by simp),?_⟩)))));generalize eI:[D.im (.int ((ks[j4]:Nat):Int)),_,_,_,_,_,_,_,_]=L;have hL:∀d∈L,∃i,d=.im i/\Bi (ofI i):=by
  subst eI;intro d hd;simp only[mem_cons,not_mem_nil,or_false]at hd;rcases hd with rfl|rfl|rfl|rfl|rfl|rfl|rfl|rfl|rfl
  .exact⟨_,rfl,Hr (by omega)⟩
  .exact⟨_,rfl,Hr n8⟩
  .exact⟨_,rfl,Do (by decide) (by decide)⟩
  .exact⟨_,rfl,O0 (by decide)⟩
  .refine⟨_,rfl,D5 (Kz _) ?_⟩;have:=Kj (i:=((ks[j3]:Nat):Int)) (by simp;omega);omega
  .exact⟨_,rfl,Il (by decide)⟩
  .exact⟨_,rfl,Il (by decide)⟩
  .refine⟨_,rfl,?_⟩;have:=Im (ks:=[ks[j3]]) (by simpa using m3) (by simp);exact this
  .exact⟨_,rfl,Do (by decide +kernel) (by decide +kernel)⟩
 have lL:L.length=9:=by subst eI;rfl
 have isL:∀F,Is (h.length+2) (h++[.lst (AB C),.lst (AB ks),.lst F]) (.lst (kT ks)) (.mu (h.length+1)):=λF=>by
  simp only[Is];exact⟨h.length+1,AB ks,rfl,by omega,by omega,by simp,BV ks⟩
 refine Cy (λl ls hd=>∃F ts z7,ls=[some (.mu 1),some (.im (.int (n:Int))),some (.im (BS ks)),some (.im (.int (j3:Int))),some (.im (.int (j4:Int))),some (.mu h.length),some (.mu (h.length+2)),z7]/\hd=h++[.lst (AB C),.lst (AB ks),.lst F]/\Iss (h.length+2) hd ts F/\ts.length+l.length<=14/\(∀t∈ts,Bt t)/\∀d∈l,∃i,d=.im i/\Bi (ofI i)) ?_ ?_ ?_
 .refine⟨B,[.tup (kT C),.tup (kT ks).reverse,.tup ((kT ks).take j3++(kT ks).drop (j3+1)),.tup ((kT ks).take (j3+1)++(kT ks).drop j3),.lst (kT ks)],none,rfl,by simp,?_,by simp[lL],?_,hL⟩
  .subst eB;simp only[append_assoc,cons_append,nil_append];exact .cons (BV C).tup (.cons (BV ks).rev.tup (.cons (((BV ks).take j3).app ((BV ks).drop (j3+1))).tup (.cons (((BV ks).take (j3+1)).app ((BV ks).drop j3)).tup (.one (isL _)))))
  .intro t ht;simp only[mem_cons,not_mem_nil,or_false]at ht;rcases ht with rfl|rfl|rfl|rfl|rfl
   .exact(Bw bC (by simp[lC];omega)).1
   .exact(Bw (λu hu=>bk u (by simpa using hu)) (by simp[hkl];omega)).1
   .refine(Bw (λu hu=>?_) (by have:=tl j3;have:=dl (j3+1);rw[length_append];omega)).1;rcases mem_append.mp hu with hu|hu
    .exact tk _ _ hu
    .exact dk _ _ hu
   .refine(Bw (λu hu=>?_) (by have:=tl (j3+1);have:=dl j3;rw[length_append];omega)).1;rcases mem_append.mp hu with hu|hu
    .exact tk _ _ hu
    .exact dk _ _ hu
   .exact(Bw bk (by omega)).2
 .rintro d r ls hd ⟨F,ts,z7,rfl,rfl,hs,hl,hb,hd⟩;obtain⟨i,rfl,bi⟩:=hd d (by simp);have fl:=hs.len;refine⟨[some (.mu 1),some (.im (.int (n:Int))),some (.im (BS ks)),some (.im (.int (j3:Int))),some (.im (.int (j4:Int))),some (.mu h.length),some (.mu (h.length+2)),some (.im i)],rfl,?_⟩;have a1:=tlk j3;have a2:=dlk (j3+1);refine KC (Pp (A3 rfl ⟨⟨F,by simp[Ai]⟩,A2 (AK (AK (Pt (j:=3) rfl hv rfl (by omega) (Ag (A2 (A3 rfl (A5 ⟨B4,CO (A8 _) (A8 _) (by simp;omega) (Me (j:=3) rfl hv rfl (by omega) (Cj (A8 _) (A8 _) (by simp) (by simp;omega) (A5 (MQ (ds:=F) (by simp) (Bu (by simp at hl;omega)) ?_))))⟩)))))))⟩));refine⟨Aa _,F++[AD (((AB ks).take j3++[.im i])++(AB ks).drop (j3+1))],ts++[.tup (((kT ks).take j3++[ofI i])++(kT ks).drop (j3+1))],_,rfl,by simp,?_,by simp at hl ⊢;omega,?_,λd hd'=>hd d (by simp[hd'])⟩
  .refine Iss.app (hs.mono (le_refl _) λk _ kn=>by rw[Qn];exact W5 kn) (.one ?_);exact((((BV ks).take j3).app (.one (AO i))).app ((BV ks).drop (j3+1))).tup
  .intro t ht;rcases mem_append.mp ht with ht|ht
   .exact hb t ht
   .rw[mem_singleton]at ht;subst ht;refine(Bw (λu hu=>?_) (by have:=tl j3;have:=dl (j3+1);simp only[length_append,List.length_singleton];omega)).1;rcases mem_append.mp hu with hu|hu
    .rcases mem_append.mp hu with hu|hu
     .exact tk _ _ hu
     .rw[mem_singleton]at hu;subst hu;exact bi
    .exact dk _ _ hu
 .rintro ls hd ⟨F,ts,z7,rfl,rfl,hs,hl,hb,-⟩;have fl:=hs.len;simp at hl;refine AA (Ak (B6 (GT (A3 rfl (B6 (B9 ?_))))));refine A2 (Ag (A2 (A3 rfl (A5 ⟨B4,?_⟩))));refine A2 (AK (A3 rfl (Ag (A2 (A3 rfl (A5 ⟨B4,Cj hv (A8 _) (by intro q;have:=congrArg List.length q;rw[length_nil]at this;omega) (by simp;omega) ?_⟩))))));refine A2 (AK (A3 rfl (Ag (A2 (A3 rfl (A5 ⟨B4,Cj hv (A8 _) (by intro q;have:=congrArg List.length q;rw[length_nil]at this;omega) (by simp;omega) ?_⟩))))));refine A2 (QZ (A3 rfl (AF ⟨_,2,rfl,rfl,(by intro q;have:=congrArg List.length q;rw[length_map,length_nil]at this;omega),by decide,by rw[length_map,hkl];show n*2<=100000;omega,?_⟩)));refine A2 (Ag (A5 ⟨Cg,A5 ⟨AR (by simp),?_⟩⟩));rw[show D.im (.tup (List.replicate (Int.toNat 2) (ks.map λk:Nat=>I.int (k:Int))).flatten)=AD (AB ks++AB ks) by rw[<- HQ,<- List.map_append,CJ];simp[List.replicate]];generalize eE:[AD [D.im (BS ks)],_,_,_,_]=E;have oI:∀N X,Is N X (.tup (kT ks)) (.im (BS ks)):=λN X=>by rw[<- HU];exact(BV ks).tup
  have hE:∀N X,Iss N X [.tup [.tup (kT ks)],.tup (kT ks++[.int (n:Int)]),.tup (kT ks++[.tup (kT ks)]),.tup (kT ks++kT ks),.tup []] E:=λN X=>by
   subst eE;exact .cons (Iss.one (oI _ _)).tup (.cons ((BV ks).app (.one (AO (.int (n:Int))))).tup (.cons ((BV ks).app (.one (oI _ _))).tup (.cons ((BV ks).app (BV ks)).tup (.one Iss.nil.tup))))
  refine⟨h.length+2,h.length+3,F,E,rfl,by simp,by simp,by simp,AR (by subst eE;simp;omega),?_⟩;refine⟨_,a,b,[.lst (AB C),.lst (AB ks),.lst F,.lst E,.lst (F++E)],_,_,rfl,by rw[<- eH];simp,hT,by simp,Iss.app (hs.mono (by simp) λk _ kn=>?_) (hE _ _),by simp;omega,λt ht=>?_⟩
  .rw[append_assoc,List.getElem?_append_left (by simp;omega)]
  .rcases mem_append.mp ht with ht|ht
   .exact hb t ht
   .have bo:=Im hkn (by omega);simp only[mem_cons,not_mem_nil,or_false]at ht;rcases ht with rfl|rfl|rfl|rfl|rfl
    .exact(Bw (λu hu=>by rw[mem_singleton]at hu;subst hu;exact bo) (by simp)).1
    .refine(Bw (λu hu=>?_) (by rw[length_append,lk];simp;omega)).1;rcases mem_append.mp hu with hu|hu
     .exact bk u hu
     .rw[mem_singleton]at hu;subst hu;exact Hr n8
    .refine(Bw (λu hu=>?_) (by rw[length_append,lk];simp;omega)).1;rcases mem_append.mp hu with hu|hu
     .exact bk u hu
     .rw[mem_singleton]at hu;subst hu;exact bo
    .refine(Bw (λu hu=>?_) (by rw[length_append,lk];omega)).1;rcases mem_append.mp hu with hu|hu
     .exact bk u hu
     .exact bk u hu
    .exact(Bw (λu hu=>by simp at hu) (by simp)).1
def Bv(t:Tv):Prop:=Bo (10^60+2) 5200 12 20 t
def Ps{n:Nat}{hd:Hd}{i j:I}{t:Tv}{d:D}(h:Is n hd t d)(hp:dep t<=29):pyN 30 hd (AD [.im i,.im j,d])=some (.tuple [i.py,j.py,pyT t]):=by
 unfold AD;cases z:Ap [D.im i,.im j,d]with
 |some is=>
  have e:=CM z;cases d with
  |im k=>
   simp[Ap]at z;subst z;show pyN 30 hd (.im _)=_;rw[CW,I.py,I.pys,I.pys,I.pys,I.pys,Is.py h]
  |_=>simp[Ap]at z
 |none=>
  show(Cs ([D.im i,.im j,d].map (L2.pyN 29 hd))).map PyData.tuple=_;rw[map_cons,map_cons,map_cons,map_nil,CW,CW,h.pyN hp];rfl
def Sm{n:Nat}{ps:List (Int×Int)}(hn:n<=8)(hp:PIn n ps)(hl:ps.length<=16):OkP 1328 2 (I.py (wI ps)):=by
 have:=BW (is:=ps.map FB) (w:=82) (dp:=1) (λi hi=>by
  obtain⟨p,hpp,rfl⟩:=mem_map.mp hi;obtain⟨a,b,rfl,ha,hb⟩:=hp.2 p hpp;refine BW (is:=[.int (a:Int),.int (b:Int)]) (w:=40) (dp:=0) λi hi=>?_;simp only[mem_cons,not_mem_nil,or_false]at hi;rcases hi with rfl|rfl
  .exact Co (by unfold sm;omega)
  .exact Co (by unfold sm;omega))
 exact this.mono (by simp;omega) (by omega)
def okr{n:Nat}{ws:List Wk}{ps:List (Int×Int)}{t:Tv}(hn:n<=8)(hw:∀w∈ws,w.ok)(hl:ws.length<=8)(hp:PIn n ps)(hl2:ps.length<=16)(bt:Bv t):Gi (.tuple [(Be ws).py,(wI ps).py,pyT t]):=by
 have h1:=OkV.of (PM hw (by omega));have h2:=OkV.of (Sm hn hp hl2);have h3:=(bt.gd.ok (by decide)).mono bt.wt bt.dp;have:=OkV.tup (OkVs.cons (h1.mono (le_refl _) (show 5<=12 by omega)) (.cons (h2.mono (le_refl _) (show 2<=12 by omega)) (.cons h3 (OkVs.nil (w:=0)))));exact this.repr rfl (by omega) (by omega)
inductive I_law(ns:List Int)(r:List D)(ls:Ls)(hd:Hd):Prop
 |mk (j:Nat) (a b:MO) (g:Hd) (z2 z3 z4 z5 z6 z7 z8 z9 z10 z11 z12 z13:Option D) (h0:r=AQ (j:Int) (4-j)) (hj:j<=4) (h1:ls=[some (.ro ns),some (.mu 1),z2,z3,z4,z5,z6,z7,z8,z9,z10,z11,z12,z13]) (h2:hd=a::b::g) (h3:T 0 a b):I_law ns r ls hd
def Qf{n:Nat}{ws:List Wk}{ps:List (Int×Int)}{t:Tv}{d:D}{h:Hd}{q0 q1 q2 q6 q7 q8 q9 q11 q12 q13:Option D}(n8:n<=8)(hw:∀w∈ws,w.ok)(hl:ws.length=n)(hp:PIn n ps)(hl2:ps.length<=16)(hi:Is h.length h t d)(bt:Bv t):
 WS (A7 (AG 11 (mCB D1 (A0 (AS (A0 (A1 4) (A0 (A1 5) (A0 (A1 10) A4)))) A4)))
 (A7 (AG 12 (Am CA (A0 (A1 3) (A0 (A1 5) (A0 (A1 10) A4)))))
 (BG (Bl (A0 (mC (.int 2)) A4)) (AU 13)
  (B8 (mOr (AJ (mOp gNe (mCB D2 (A0 (Am Ci (A0 (A1 4) (A0 (A1 5) (A0 (A1 10) A4)))) A4)) (mCB D2 (A0 (A1 12) A4)))) (AJ (mOp gNe (mCB D1 (A0 (AS (A0 (A1 4) (A0 (A1 5) (A0 (A1 10) A4)))) A4)) (A1 11))))
  (AX (mC (.bl false)))
  Au)))) [q0,q1,q2,some (.im (.int (n:Int))),some (.im (Be ws)),some (.im (wI ps)),q6,q7,q8,q9,some d,q11,q12,q13] h λf x=>∃z11 z12 z13 g,f=.nx [q0,q1,q2,some (.im (.int (n:Int))),some (.im (Be ws)),some (.im (wI ps)),q6,q7,q8,q9,some d,z11,z12,z13]/\x=h++g:=by
 have hdp:=bt.dp;have htl:=bt.tl;have ro:=okr n8 hw (by omega) hp hl2 bt;refine AE (Ar (C1 (A2 (Ag (A2 (A3 rfl (A2 (A3 rfl (A2 (A3 rfl (A5 ⟨FL,A5 (Ip (Ps hi (by omega)) ro (AA ?_))⟩)))))))))));refine AE (Ar (B5 (A2 (A3 rfl (A2 (A3 rfl (A2 (A3 rfl (A5 ((PX n8 hp hi (by omega)).mono ?_))))))))));rintro d' x ⟨rfl,g,rfl⟩;refine AA ?_;have hi2:Is h.length (h++g) t d:=HL (le_refl _) hi;refine EC (L9 (A2 (AF (A5 ⟨_,rfl,CP (by decide) (by decide),?_⟩))));refine Cy (λl ls hd=>∃z13,ls=[q0,q1,q2,some (.im (.int (n:Int))),some (.im (Be ws)),some (.im (wI ps)),q6,q7,q8,q9,some d,some (.im (.str (PyData.shown (.tuple [(Be ws).py,(wI ps).py,pyT t])))),some (.im (.bl (isO n ps t))),z13]/\hd=h++g) ⟨_,rfl,rfl⟩ ?_ ?_
 .rintro e r ls hd ⟨z13,rfl,rfl⟩;refine⟨_,rfl,?_⟩;refine Ab (EZ (Ay (AK (C1 (A2 (B5 (A2 (A3 rfl (A2 (A3 rfl (A2 (A3 rfl (A5 ((T5 (by simpa using hl) n8 hp hi2 (by omega)).mono ?_))))))))))))));rintro d' x ⟨rfl,rfl⟩;refine A5 (Iq (C1 (A2 (A3 rfl (A5 (Iq (Ir ⟨_,rfl,?_⟩)))))));rw[if_neg (by simp)];refine Ay (AK (C1 (A2 (Ag (A2 (A3 rfl (A2 (A3 rfl (A2 (A3 rfl (A5 ⟨FL,A5 (Ip (Ps hi2 (by omega)) ro (A3 rfl (Ir ⟨_,rfl,(λh=>by simp at h),λ_=>AZ ?_⟩)))⟩)))))))))));exact⟨Aa _,_,rfl,rfl⟩
 .rintro ls hd ⟨z13,rfl,rfl⟩;exact⟨_,_,_,g,rfl,rfl⟩
def La{n j:Nat}{d:D}{r:List D}(h:d::r=AQ (j:Int) (n-j)):j<n/\d=.im (.int (j:Int))/\r=AQ ((j+1:Nat):Int) (n-(j+1)):=by
 cases q:n-j with
 |zero=>rw[q]at h;cases h
 |succ m=>
  rw[q,AQ]at h;obtain⟨h1,h2⟩:=List.cons.inj h;have em:m=n-(j+1):=by omega
  exact⟨by omega,h1,by rw[h2,em];rfl⟩
set_option maxHeartbeats 4000000 in
def Wy(ns:List Int):WF Yl [.ro ns] [] λd x=>d=.im (.bl true):=by
 unfold Yl;refine Dq rfl ?_;obtain⟨τ,et⟩:=Qg ns;refine AE (Ar (B5 (A2 (A3 rfl (A5 (WP.eq (Vp ▸ et) (AA ?_)))))));refine AE (EC (L9 (A2 (AF (A5 ⟨_,rfl,CP (by decide) (by decide),?_⟩)))));refine Cy (I_law ns) ⟨0,_,_,[],none,none,none,none,none,none,none,none,none,none,none,none,rfl,by omega,rfl,rfl,τ,rfl⟩ ?_ ?_
 .rintro t r ls hd ⟨j,a,b,g,z2,z3,z4,z5,z6,z7,z8,z9,z10,z11,z12,z13,er,hj,rfl,rfl,hT⟩;obtain⟨hj4,rfl,rfl⟩:=La er;refine⟨_,rfl,?_⟩;dsimp only[set_cons_zero,set_cons_succ];refine AE (Ar (AK (AF (Dw (A2 (A3 rfl (A2 (AF (A5 ⟨a,b,g,8,rfl,rfl,hT,by decide,by decide,λs a b hT ps qs=>Cw (AA ?_)⟩)))))))));obtain⟨n,hn⟩:∃n:Nat,1+s=(n:Int):=⟨(1+s).toNat,by omega⟩
  rw[hn];have n1:1<=n:=by omega
  have n8:n<=8:=by omega
  refine AE (Ar ?_);have wa:WA (A0 (A1 1) (A0 (A1 3) (A0 (mOp gEq (mOp BR (A1 2) (mC (.int 2))) (mC (.int 0))) A4))) [some (.ro ns),some (.mu 1),some (.im (.int (j:Int))),some (.im (.int (n:Int))),z4,z5,z6,z7,z8,z9,z10,z11,z12,z13] (a::b::g) λds x=>ds=.mu 1::[.im (.int (n:Int)),.im (.bl (decide ((j:Int)%2=0)))]/\x=a::b::g:=by
   exact A2 (A3 rfl (A2 (A3 rfl (A2 (AK (AK (A3 rfl (AF (TN (by unfold Bm;decide) (AF (F0 (A5 ⟨rfl,rfl⟩))))))))))))
  obtain⟨_,_,ea,rfl,rfl⟩:=wa;refine tap.call (n:=0) (c:=0) hT ea rfl (QU n8 _) ?_;rintro i a b hT ⟨ws,rfl,hl,hok⟩;refine AA (AE (Ar ?_));refine tap.call (n:=0) (c:=0) hT (as:=[.im (.int (n:Int))]) (rest:=g) rfl rfl (O8 n8) ?_;rintro i a b hT ⟨W,rfl,hW⟩;obtain⟨seq,pms,al⟩:=hW.al;have hP:PIn n W:=⟨by have:=hW.len;omega,hW.nats⟩
  refine AA (AE (Ar ?_));refine tap.call (n:=0) (c:=0) hT (as:=[.im (.int (n:Int)),.im (wI W)]) (rest:=g) rfl rfl (Kh n8 pms al hW.len) ?_;rintro i a b hT ⟨o,rfl,pm,-⟩;refine AA (AE (Ar ?_));have wa:WA (A0 (A1 1) (A0 (A1 3) (A0 (AS A4) A4))) [some (.ro ns),some (.mu 1),some (.im (.int (j:Int))),some (.im (.int (n:Int))),some (.im (Be ws)),some (.im (wI W)),some (.im (BS o)),z7,z8,z9,z10,z11,z12,z13] (a::b::g) λds x=>ds=.mu 1::[.im (.int (n:Int)),.im (wI [])]/\x=a::b::g:=
   A2 (A3 rfl (A2 (A3 rfl (A2 (Ag (A5 ⟨Cg,A5 ⟨rfl,rfl⟩⟩))))))
  obtain⟨_,_,ea2,rfl,rfl⟩:=wa;refine tap.call (n:=0) (c:=0) hT (as:=[.im (.int (n:Int)),.im (wI [])]) (rest:=g) ea2 rfl (Kh n8 pms (λp hp=>by simp at hp) (by simp)) ?_;rintro i a b hT ⟨o2,rfl,pm2,-⟩;refine AA ?_;have lt:∀{o:List Nat},o.Perm (List.range n)->∀k∈o,k<8:=λpm k hk=>by
   have:k<n:=by simpa using pm.mem_iff.mp hk
   omega
  have oI:∀(o:List Nat) N X,Is N X (.tup (kT o)) (.im (BS o)):=λo N X=>by rw[<- HU];exact(BV o).tup
  have bo:Bi (.tup (kT o)):=Im (lt pm) (by have:=pm.length_eq;simp at this;omega);have bo2:Bi (.tup (kT o2)):=Im (lt pm2) (by have:=pm2.length_eq;simp at this;omega);refine AE (Ar (B5 (A2 (A3 rfl (A2 (A3 rfl (A2 (AF (A5 ((HC 4 2 (by decide) (by decide) (by decide) (by decide) (by decide) hT (oI o _ _) bo).mono ?_))))))))));rintro d1 x ⟨a,b,g1,t1,rfl,hT,i1,b1⟩;refine AA ?_;refine AE (Ar (B6 (B9 (A2 (A3 rfl (A2 (A3 rfl (A2 (A3 rfl ?_)))))))));refine A2 (B5 (A2 (A3 rfl (A2 (A3 rfl (A2 (AF (A5 ((HC 4 2 (by decide) (by decide) (by decide) (by decide) (by decide) hT i1 b1).mono ?_)))))))));rintro d2 x ⟨a,b,g2,t2,rfl,hT,i2,b2⟩;have i1:Is (a::b::(g++g1++g2)).length (a::b::(g++g1++g2)) t1 d1:=D9 (by simp) (keep (le_refl _) i1);refine A2 (B5 (A2 (A3 rfl (A2 (A3 rfl (A2 (AF (A5 ((HC 4 2 (by decide) (by decide) (by decide) (by decide) (by decide) hT (oI o2 _ _) bo2).mono ?_)))))))));rintro d3 x ⟨a,b,g3,t3,rfl,hT,i3,b3⟩;have i1:Is (a::b::(g++g1++g2++g3)).length (a::b::(g++g1++g2++g3)) t1 d1:=D9 (by simp) (keep (le_refl _) i1);have i2:Is (a::b::(g++g1++g2++g3)).length (a::b::(g++g1++g2++g3)) t2 d2:=D9 (by simp) (keep (le_refl _) i2);refine A2 (AF (A2 (AF (A2 (AF (A2 (Ag (A5 ⟨Cg,A2 (Ag (A2 (AF (A5 ⟨B4,A2 (B6 (B9 (A2 (AF (A5 ⟨B4,A5 ⟨AR (by simp),AA ?_⟩⟩)))))⟩))))⟩))))))));generalize eG:g++g1++g2++g3=G at *;generalize eD:[D.im (BS o),_,_,_,_,_,_,_,_,_,_]=ds;have iD:∀X,X=a::b::(G++[.lst [.im (.int 0)]])->Iss X.length X [.tup (kT o),.tup (kT o2),t1,t2,t3,.non,.int 0,.str "",.tup [],.tup [.int 0],.lst [.int 0]] ds:=by
   rintro X rfl;subst eD;refine .cons (oI o _ _) (.cons (oI o2 _ _) (.cons (D9 (by simp) (keep (le_refl _) i1)) (.cons (D9 (by simp) (keep (le_refl _) i2)) (.cons (D9 (by simp) (keep (le_refl _) i3)) (.cons (AO .non) (.cons (AO (.int 0)) (.cons (AO (.str "")) (.cons (AO (.tup [])) (.cons (AO (.tup [.int 0])) (.one ?_))))))))));simp only[Is];exact⟨G.length+2,[.im (.int 0)],by simp,by omega,by simp,by simp,.one (AO (.int 0))⟩
  have bD:∀t∈[Tv.tup (kT o),.tup (kT o2),t1,t2,t3,.non,.int 0,.str "",.tup [],.tup [.int 0],.lst [.int 0]],Bv t:=by
   intro t ht;simp only[mem_cons,not_mem_nil,or_false]at ht;rcases ht with rfl|rfl|rfl|rfl|rfl|rfl|rfl|rfl|rfl|rfl|rfl
   .exact Bo.mono bo (by decide) (by decide) (by decide) (by decide)
   .exact Bo.mono bo2 (by decide) (by decide) (by decide) (by decide)
   .exact Bo.mono b1 (by decide) (by decide) (by decide) (by decide)
   .exact Bo.mono b2 (by decide) (by decide) (by decide) (by decide)
   .exact Bo.mono b3 (by decide) (by decide) (by decide) (by decide)
   all_goals refine⟨?_,?_,?_,?_⟩
   all_goals (simp only[Gq,Gqs,An.wt,wts,dep,Aq,An.tl]<;>decide +kernel)
  have lD:ds.length=11:=by subst eD;rfl
  clear eD;generalize eT:[Tv.tup (kT o),.tup (kT o2),t1,t2,t3,.non,.int 0,.str (Str.ofString ""),.tup [],.tup [.int 0],.lst [.int 0]]=ts at iD bD;clear eT;change WS _ [some (.ro ns),some (.mu 1),some (.im (.int (j:Int))),some (.im (.int (n:Int))),some (.im (Be ws)),some (.im (wI W)),some (.im (BS o)),some (.im (BS o2)),some d1,some (.mu (List.length (a::b::G++[MO.lst [D.im (I.int 0)]]))),z10,z11,z12,z13] _ _;rw[show(a::b::G++[MO.lst [D.im (I.int 0)]]).length=G.length+3 by simp,show a::b::G++[MO.lst [D.im (.int 0)]]++[MO.lst ds]=a::b::(G++[.lst [.im (.int 0)],.lst ds]) by simp];refine EC (O9 (GT (B6 (GT (A3 rfl (B5 (A2 (A3 rfl (A2 (A3 rfl (A2 (A3 rfl (A5 ((NL n1 n8 pm hT).mono ?_))))))))))))));rintro e1 x ⟨p1,a1,b1',g4,ts1,ds1,rfl,rfl,hT,ep1,s1,l1,bt1⟩;have q1:=s1.len;refine⟨G.length+3,p1,ds,ds1,rfl,rfl,by simp,ep1,AR (by omega),?_⟩;have eh:a1::b1'::(G++[MO.lst [D.im (.int 0)],MO.lst ds]++g4)++[MO.lst (ds++ds1)]=a1::b1'::(G++[MO.lst [D.im (.int 0)],MO.lst ds]++g4++[MO.lst (ds++ds1)]):=rfl;rw[eh];refine B5 (A2 (A3 rfl (A2 (A3 rfl (A2 (A3 rfl (A5 ((NL n1 n8 pm2 hT).mono ?_))))))));rintro e2 x ⟨p2,a2,b2',g5,ts2,ds2,rfl,rfl,hT,ep2,s2,l2,bt2⟩;have q2:=s2.len;refine⟨_,p2,ds++ds1,ds2,rfl,rfl,by simp,ep2,AR (by simp;omega),?_⟩;have I0:Iss (a2::b2'::(((G++[.lst [.im (.int 0)],.lst ds])++g4++[.lst (ds++ds1)])++g5)).length (a2::b2'::(((G++[.lst [.im (.int 0)],.lst ds])++g4++[.lst (ds++ds1)])++g5)) ts ds:=by
   have:=keeps (g':=[.lst ds]++g4++[.lst (ds++ds1)]++g5) (a':=a2) (b':=b2') (le_refl _) (iD _ rfl);simp only[append_assoc,cons_append,nil_append]at this ⊢;exact F3 (by simp) this
  have I1:Iss (a2::b2'::(((G++[.lst [.im (.int 0)],.lst ds])++g4++[.lst (ds++ds1)])++g5)).length (a2::b2'::(((G++[.lst [.im (.int 0)],.lst ds])++g4++[.lst (ds++ds1)])++g5)) ts1 ds1:=by
   have:=keeps (g':=[.lst (ds++ds1)]++g5) (a':=a2) (b':=b2') (le_refl _) s1;simp only[append_assoc,cons_append,nil_append]at this ⊢;exact F3 (by simp) this
  have IA:=(I0.app I1).app s2;have BA:∀t∈(ts++ts1)++ts2,Bv t:=λt ht=>by
   rcases mem_append.mp ht with ht|ht
   .rcases mem_append.mp ht with ht|ht
    .exact bD t ht
    .exact Bo.mono (bt1 t ht) (by decide) (by decide) (by decide) (by decide)
   .exact Bo.mono (bt2 t ht) (by decide) (by decide) (by decide) (by decide)
  generalize (ts++ts1)++ts2=tA at IA BA;generalize (ds++ds1)++ds2=dA at IA;generalize ((G++[.lst [.im (.int 0)],.lst ds])++g4++[.lst (ds++ds1)])++g5=H at IA;refine Cy (λl ls hd=>∃tr g' z9 z10 z11 z12 z13,ls=[some (.ro ns),some (.mu 1),some (.im (.int (j:Int))),some (.im (.int (n:Int))),some (.im (Be ws)),some (.im (wI W)),some (.im (BS o)),some (.im (BS o2)),some d1,z9,z10,z11,z12,z13]/\hd=a2::b2'::g'/\Iss hd.length hd tr l/\∀t∈tr,Bv t) ⟨tA,H,_,_,_,_,_,rfl,rfl,IA,BA⟩ ?_ ?_
  .rintro d r ls hd ⟨tr,g',z9,z10,z11,z12,z13,rfl,rfl,hs,hb⟩;cases tr with
   |nil=>simp only[Iss]at hs;cases hs
   |cons t tr=>
    simp only[Iss]at hs;obtain⟨d',r',e,hi,hs⟩:=hs;obtain⟨rfl,rfl⟩:=List.cons.inj e;refine⟨_,rfl,?_⟩;dsimp only[set_cons_zero,set_cons_succ];refine WP.mono (Qf n8 hok hl hP hW.len hi (hb t (by simp))) ?_;rintro f x ⟨z11,z12,z13,g6,rfl,rfl⟩;exact⟨Aa _,tr,g'++g6,_,_,_,_,_,rfl,rfl,F3 (by simp) (JN (le_refl _) hs),λu hu=>hb u (by simp[hu])⟩
  .rintro ls hd ⟨tr,g',z9,z10,z11,z12,z13,rfl,rfl,-,-⟩;exact⟨Aa _,.mk (j+1) _ _ _ _ _ _ _ _ _ _ _ _ _ _ _ rfl (by omega) rfl rfl hT⟩
 .rintro ls hd ⟨j,a,b,g,z2,z3,z4,z5,z6,z7,z8,z9,z10,z11,z12,z13,er,hj,rfl,rfl,hT⟩;exact AA (Ak (AF rfl))
def law_eq(ns:List Int):∃hd,Yl [.ro ns] []=some (.im (.bl true),hd):=by
 obtain⟨d,x,e,rfl⟩:=Wy ns;exact⟨x,e⟩
open PySem L2 PySem.W PyProof.Rows
abbrev xS:Xs:=[]
def all_mk{l:PySem.W.OpenLaw}{w:World}{K:PySem.W.Frag}{h:Heap}{mg:Str->Option Value}{fa:Addr}{c P:Str->Addr}(X:K.In h)(G:h.Ns mainGlobals mg)(hfa:mg "law"=some (.ref fa))(hx:HX xS mg h c P)(F:MK K):HG l w K xS mg c P fa M7:=by
 obtain⟨Z,h0,h1,h2,h3,h4,h5,h6,h7,h8,h9,h10,h11,h12,h13⟩:=F;have B:=(zsE Z).blt X G;refine Pa X G hfa hx (feE h0) bd1 rfl λbase hd bl=>?_;obtain⟨o_is_number,o_is_order,o_tape,o_pick,o_strange,o_bent,o_lis_number,o_cost,o_works,o_wishes,o_order,o_lis_order,o_near,o_law⟩:=oks (E:=enM l w K xS P mg base) B;have g1:=o_is_number ((feE h1).dn X G hx bd1 l w base);have g2:=o_is_order ((feE h2).dn X G hx bd3 l w base) g1;have g3:=o_tape ((feE h3).dn X G hx bd1 l w base);have g4:=o_pick ((feE h4).dn X G hx bd2 l w base);have g5:=o_strange ((feE h5).dn X G hx bd1 l w base) g4;have g6:=o_bent ((feE h6).dn X G hx bd3 l w base) g4 g5;have g7:=o_cost ((feE h7).dn X G hx bd2 l w base) g4;have g8:=o_works ((feE h8).dn X G hx bd3 l w base) g4 g7;have g9:=o_wishes ((feE h9).dn X G hx bd2 l w base) g4;have g10:=o_order ((feE h10).dn X G hx bd3 l w base) g4;have g11:=o_lis_number ((feE h11).dn X G hx bd1 l w base);have g12:=o_lis_order ((feE h12).dn X G hx bd3 l w base) g11;have g13:=o_near ((feE h13).dn X G hx bd3 l w base) g4;exact o_law ((feE h0).dn X G hx bd1 l w base) g2 g3 g4 g6 g8 g9 g10 g12 g13
end T09
theorem PySem.Challenge.cw_benchdays_k09_orders_by_kind_holds : PySem.Challenge.rw_benchdays_k09_orders_by_kind.Holds := by
 refine T09.early λK F d hd hdf=>L2.walkL T09.xS (l:=PySem.Challenge.rw_benchdays_k09_orders_by_kind) (n:=63) (k:=7) (F:=T09.Yl) rfl (by decide) hdf ⟨rfl,by decide,by decide,rfl⟩ (by intro x hx;cases hx) T09.law_eq (λw h Y=>Y) λw mg fa h c P X G hmg hx=>?_;rw[hd]at hmg;exact T09.all_mk X G hmg hx (F w)
