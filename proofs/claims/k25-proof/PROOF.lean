import PyProof.Rows.All
import Wide.All
import OpenK.AllK
import Wide.FinOn
import Lean
import PyProof.EqAt
import PyProof.EqKinds
import PyProof.TupleCall
import KE.KSortKey
import PyProof.ListMulRoad
import PyProof.Draws
import PyProof.EnumMake
import PyProof.ListNew
import KE.KRevIter
import KE.KMinKey
import PySem.Challenge.RW_benchdays_k25_whole_plans_meet_sets
set_option Elab.async false
set_option linter.all false
set_option maxRecDepth 100000
noncomputable section
set_option hygiene false in
local macro_rules | `(tactic| and_intros) => `(tactic| intro ρ σ H hd ls Q d hd' hR hL hm hQ)
open List(mem_cons mem_filter mem_range filterMap_cons mem_cons_self mem_cons_of_mem mem_append mem_append_left mem_append_right size_toArray append_nil nodup_cons of_mem_zip length_take mem_of_getElem? length_append length_map length_drop all_cons any_cons replicate_succ flatten_cons append_assoc nil_append map_nil map_cons find?_cons length_cons length_nil lookup_cons lookup_append mem_map all_eq_true take_of_length_le mem_singleton mem_iff_getElem? cons_append nodup_append map_map drop_eq_getElem_cons ext_getElem? map_snd_zip map_congr_left pairwise_map map_take map_append map_id filter_cons nodup_range set_cons_succ set_cons_zero pairwise_cons filter_sublist sum_cons filter_cons_of_pos filter_cons_of_neg ne_nil_of_mem length_filter_le filter_append length_range any_eq_true)
open Option(isSome_iff_exists isSome_map none_or map_some bind_some)
open Nat(lt_of_lt_of_le lt_irrefl ne_of_lt le_trans le_of_lt ne_of_gt le_refl le_succ lt_trans zero_le not_lt lt_succ_of_lt zero_add)
open Int(toNat_natCast)
def fW{α β:Type _}{o:Option α}{f:α->Option β}{b:β}(h:o.bind f=some b):∃a,o=some a/\f a=some b:=Option.bind_eq_some_iff.mp h
def fX{α β:Type _}{o:Option α}{f:α->β}{b:β}(h:o.map f=some b):∃a,o=some a/\f a=b:=Option.map_eq_some_iff.mp h
set_option compiler.extract_closed false
local macro_rules | `(tactic| omega) => `(tactic| first | lia | omega (config := {}))
namespace Ea
open PySem PySem.W
def dA(s:Stmt):Arguments:=match s with
 |.FunctionDef _ a _ _ _ _ _ _ _ _=>a
 |_=>{ posonlyargs:=[],args:=[],vararg:=none,kwonlyargs:=[],kw_defaults:=[],kwarg:=none,defaults:=[] }
def dB(s:Stmt):List Stmt:=match s with
 |.FunctionDef _ _ b _ _ _ _ _ _ _=>b
 |_=>[]
def dS(s:Stmt):Scope:=match s with
 |.FunctionDef _ _ _ _ _ _ sc _ _ _=>sc
 |_=>{ kind:=.function,names:=[],isGenerator:=false,isCoroutine:=false }
def tO(o:Obj):Option Addr:=match o.data with
 | .fields vs=>(match (vs[11]?:Option Value)with
  |some (Value.ref P)=>some P
  | _=>none)
 |_=>none
def At(K:Frag)(n:Str)(s:Stmt)(f:Addr)(cd:Value):Prop:=∃oc kV dc pm ct od an sl,nsIn K mainGlobals n=some (some (.ref f))/\K.lookup f=some ⟨oc,od,.func (fnOf n n (dA s) (dB s) (dS s) .none kV dc pm an cd ct),sl⟩/\codeIn K cd n=true/\keepIn K (.ref f)=true
def Fe(K:Frag)(n:Str)(s:Stmt):Prop:=∃f cd,At K n s f cd
def Fl(K:Frag)(n:Str)(s:Stmt)(p:Addr):Prop:=∃f ca ob,At K n s f (.ref ca)/\K.lookup ca=some ob/\tO ob=some p
section
variable{K:Frag}{n:Str}{s:Stmt}{f ca p:Addr}{oc kV dc pm cd ct:Value}{od an:Option Addr}{sl:Array (Option Value)}{ob:Obj}
def feI(a:nsIn K mainGlobals n=some (some (.ref f)))(l:K.lookup f=some ⟨oc,od,.func (fnOf n n (dA s) (dB s) (dS s) .none kV dc pm an cd ct),sl⟩)(c:codeIn K cd n=true)(k:keepIn K (.ref f)=true):Fe K n s:=⟨f,cd,_,_,_,_,_,_,_,_,a,l,c,k⟩
def flI(a:nsIn K mainGlobals n=some (some (.ref f)))(l:K.lookup f=some ⟨oc,od,.func (fnOf n n (dA s) (dB s) (dS s) .none kV dc pm an cd ct),sl⟩)(c:codeIn K cd n=true)(k:keepIn K (.ref f)=true)(u:cd=.ref ca)(t:K.lookup ca=some ob)(v:tO ob=some p):Fl K n s p:=by
 subst u;exact⟨f,ca,ob,⟨_,_,_,_,_,_,_,_,a,l,c,k⟩,t,v⟩
end
abbrev bc:List Str:=["list","tuple","len","range","repr","sum","min","max","abs","all","any","sorted","zip","isinstance","int","bool","str","set","enumerate","reversed","dict"]
def Zs(K:Frag):Prop:=∀n∈bc,nsIn K mainGlobals n=some none
def Zg(K:Frag)(l:List Str):Prop:=∀n∈l,nsIn K mainGlobals n=some none
def zs0{K:Frag}:Zg K []:=λ_ h=>nomatch h
def zs1{K:Frag}{n:Str}{l:List Str}(h:nsIn K mainGlobals n=some none)(r:Zg K l):Zg K (n::l):=λm hm=>by
 rcases mem_cons.mp hm with rfl|hm
 .exact h
 .exact r m hm
end Ea
namespace T25
open PySem PySem.W PyProof.Rows Ea
def top(i:Nat):Stmt:=PySem.Challenge.pw_benchdays_k25_whole_plans_meet_sets.main.body.getD i (.Pass ⟨0,0,0,0⟩)
def vw:PySem.Program:={ PySem.Challenge.pw_benchdays_k25_whole_plans_meet_sets with main:={ PySem.Challenge.pw_benchdays_k25_whole_plans_meet_sets.main with body:=[1,2,4,6,7,9,10,11,12,14,15,16,18,20,22,23,24,25,26,27,29,30,31,32,33,34,35,36,37,38,39,40,41,42,43].map top } }
def Q4(K:Frag):Prop:=Zs K/\Fe K "law" (top 43)/\Fe K "raised" (top 1)/\Fe K "heads" (top 2)/\Fe K "steps_at" (top 9)/\Fe K "cost_at" (top 10)/\Fe K "reached" (top 14)/\Fe K "behind" (top 15)/\Fe K "last_ones" (top 16)/\Fe K "without" (top 23)/\Fe K "gaps_filled" (top 24)/\Fe K "broken_off" (top 25)/\Fe K "length_of" (top 18)/\Fe K "bound_of" (top 20)/\Fe K "greatest_plan" (top 27)/\Fe K "_law_feed" (top 29)/\Fe K "_law_words" (top 31)/\Fe K "_law_next" (top 30)/\Fe K "_law_cost" (top 32)/\Fe K "_law_works" (top 33)/\Fe K "later_due" (top 11)/\Fe K "moved_cost" (top 12)/\Fe K "_law_far_works" (top 34)/\Fe K "_law_wishes" (top 35)/\Fe K "_law_heads" (top 37)/\Fe K "_law_reach" (top 38)/\Fe K "_law_costs" (top 36)/\Fe K "_law_bound" (top 39)/\Fe K "_law_is_int" (top 40)/\Fe K "_law_ends" (top 41)/\Fe K "_law_greatest" (top 42)/\∃p3 p9 p15,Fl K "stretches_of" (top 4) p3/\Fl K "cheapest_last" (top 22) p9/\Fl K "greatest_bound" (top 26) p15/\([p3,p9,p15]:List Addr).Nodup
def dQ{K:Frag}{p3 p9 p15:Addr}(z:Zs K)(h0:Fe K "law" (top 43))(h1:Fe K "raised" (top 1))(h2:Fe K "heads" (top 2))(h4:Fe K "steps_at" (top 9))(h5:Fe K "cost_at" (top 10))(h6:Fe K "reached" (top 14))(h7:Fe K "behind" (top 15))(h8:Fe K "last_ones" (top 16))(h10:Fe K "without" (top 23))(h11:Fe K "gaps_filled" (top 24))(h12:Fe K "broken_off" (top 25))(h13:Fe K "length_of" (top 18))(h14:Fe K "bound_of" (top 20))(h16:Fe K "greatest_plan" (top 27))(h17:Fe K "_law_feed" (top 29))(h18:Fe K "_law_words" (top 31))(h19:Fe K "_law_next" (top 30))(h20:Fe K "_law_cost" (top 32))(h21:Fe K "_law_works" (top 33))(h22:Fe K "later_due" (top 11))(h23:Fe K "moved_cost" (top 12))(h24:Fe K "_law_far_works" (top 34))(h25:Fe K "_law_wishes" (top 35))(h26:Fe K "_law_heads" (top 37))(h27:Fe K "_law_reach" (top 38))(h28:Fe K "_law_costs" (top 36))(h29:Fe K "_law_bound" (top 39))(h30:Fe K "_law_is_int" (top 40))(h31:Fe K "_law_ends" (top 41))(h32:Fe K "_law_greatest" (top 42))(h3:Fl K "stretches_of" (top 4) p3)(h9:Fl K "cheapest_last" (top 22) p9)(h15:Fl K "greatest_bound" (top 26) p15)(tn:([p3,p9,p15]:List Addr).Nodup):Q4 K:=⟨z,h0,h1,h2,h4,h5,h6,h7,h8,h10,h11,h12,h13,h14,h16,h17,h18,h19,h20,h21,h22,h23,h24,h25,h26,h27,h28,h29,h30,h31,h32,_,_,_,h3,h9,h15,tn⟩
local macro_rules | `(tactic| o_head $H) => `(tactic| (refine holds_open (r := PySem.Challenge.rw_benchdays_k25_whole_plans_meet_sets.row) (q := T25.vw) (loose := []) (Xt := λ s => xlAt T25.vw [] s && recOk (RowW.records (OpenRow.toRowW PySem.Challenge.rw_benchdays_k25_whole_plans_meet_sets.row)) s) (XP := XL T25.vw []) (Yf := Hook.obs $H) (Ya := Hook.val $H) (YP := Hook.says $H) (N := 100000) ?hl (Hook.of $H) (Hook.keeps $H) (λ s e => xl_of s (Bool.and_eq_true_iff.mp e).1) XL.keeps (by rfl) (by rfl) (by rfl) (λ s e => recFacts_of (Bool.and_eq_true_iff.mp e).2) (by rfl) (by first | assumption | decide +kernel) (by decide +kernel) ⟨rfl, rfl, rfl, rfl, rfl, by decide +kernel⟩ ?hw ?hc; (case hl => exact λ w => by kernel_rfl)))
set_option maxRecDepth 100000 in
set_option maxHeartbeats 0 in
def early(hG:∀(K:Params->Frag),(∀w:World,Q4 (K w.params))->∀d:DefRec,d.name="law"->d.params.defaults=[]->WalkO T25.vw [] (XL T25.vw []) (λw h=>(K w.params).In h) PySem.Challenge.rw_benchdays_k25_whole_plans_meet_sets.row.toRowW d [] (λf vs=>PySem.call f vs)):PySem.Challenge.rw_benchdays_k25_whole_plans_meet_sets.Holds:=by
 w_on;o_law;k_head;(case hw=>w_witness2)
 k_fill
 refine λw s₀ s₁ mg mb G Y=>hG _ ?F _ rfl rfl w s₀ s₁ mg mb G (km_in_of Y)
 case F=>
  intro w;refine' dQ ?z ?h0 ?h1 ?h2 ?h4 ?h5 ?h6 ?h7 ?h8 ?h10 ?h11 ?h12 ?h13 ?h14 ?h16 ?h17 ?h18 ?h19 ?h20 ?h21 ?h22 ?h23 ?h24 ?h25 ?h26 ?h27 ?h28 ?h29 ?h30 ?h31 ?h32 ?h3 ?h9 ?h15 ?tn
  case z=>(refine' zs1 _ (zs1 _ (zs1 _ (zs1 _ (zs1 _ (zs1 _ (zs1 _ (zs1 _ (zs1 _ (zs1 _ (zs1 _ (zs1 _ (zs1 _ (zs1 _ (zs1 _ (zs1 _ (zs1 _ (zs1 _ (zs1 _ (zs1 _ (zs1 _ (zs0)))))))))))))))))))))<;>k_is)
  case h0|h1|h2|h4|h5|h6|h7|h8|h10|h11|h12|h13|h14|h16|h17|h18|h19|h20|h21|h22|h23|h24|h25|h26|h27|h28|h29|h30|h31|h32=>(refine' feI ?a ?l ?c ?k;case a|l|c|k=>k_is)
  case h3|h9|h15=>(refine' flI ?a ?l ?c ?k ?u ?t ?v;(case a|l|c|k=>k_is);(case u=>rfl);(case t=>k_is);(case v=>rfl))
  case tn=>decide
end T25
namespace L2
open PySem PySem.Spec PyProof.Rows
abbrev Key:=Sum Int Str
def HV:Key->Value->Bool
 |.inl k,v=>Value.isInt k v
 |.inr x,v=>Value.isStrOf x v
def dN(w:World):Key->Int
 |.inl k=>hashInt k
 |.inr x=>hashStr w x
def BV:∀{k:Key} {v:Value},HV k v=true->(∃i t,k=Sum.inl i/\v=Value.int i t)∨(∃x t,k=Sum.inr x/\v=Value.str x t)
 |.inl i,v,h=>by
  obtain⟨t,e⟩:=Value.isInt_shape (k:=i) (v:=v) h;exact .inl ⟨i,t,rfl,e⟩
 |.inr x,v,h=>by
  obtain⟨t,e⟩:=Value.isStrOf_shape (x:=x) (v:=v) h;exact .inr ⟨x,t,rfl,e⟩
def Rx(i:Int)(t:Tok):HV (.inl i) (.int i t)=true:=by simp[HV,Value.isInt]
def Rv(x:Str)(t:Tok):HV (.inr x) (.str x t)=true:=by simp[HV,Value.isStrOf]
def bA(a b:Int):decide ((Sum.inl a:Key)=Sum.inl b)=(a==b):=by
 by_cases e:a=b
 .subst e;simp
 .have h:¬ (Sum.inl a:Key)=Sum.inl b:=λq=>e (Sum.inl.inj q);rw[decide_eq_false h];exact(beq_eq_false_iff_ne.mpr e).symm
def b7(a b:Str):decide ((Sum.inr a:Key)=Sum.inr b)=decide (a=b):=by
 by_cases e:a=b
 .subst e;simp
 .have h:¬ (Sum.inr a:Key)=Sum.inr b:=λq=>e (Sum.inr.inj q);rw[decide_eq_false h,decide_eq_false e]
def b9(a:Int)(b:Str):decide ((Sum.inl a:Key)=Sum.inr b)=false:=decide_eq_false (λq=>nomatch q)
def b8(a:Str)(b:Int):decide ((Sum.inr a:Key)=Sum.inl b)=false:=decide_eq_false (λq=>nomatch q)
def BY(prog:Program)(w:World):PySem.KeyKind prog w Key where
 is:=HV
 hash:=dN w
 inj:=λv a b ha hb=>by
  rcases BV ha with⟨i,t,rfl,rfl⟩|⟨x,t,rfl,rfl⟩
  .rcases BV hb with⟨j,u,rfl,e⟩|⟨y,u,rfl,e⟩
   .injection e with e1 _;rw[e1]
   .exact nomatch e
  .rcases BV hb with⟨j,u,rfl,e⟩|⟨y,u,rfl,e⟩
   .exact nomatch e
   .injection e with e1 _;rw[e1]
 byValue:=λk v h=>by
  rcases BV h with⟨i,t,rfl,rfl⟩|⟨x,t,rfl,rfl⟩<;>rfl
 pyHash:=λhv h=>by
  rcases BV hv with⟨i,t,rfl,rfl⟩|⟨x,t,rfl,rfl⟩
  .exact wpAny_pyHash_int h
  .exact wpAny_pyHash_str h
 eqBool:=λhu hv h=>by
  rcases BV hu with⟨i,t,rfl,rfl⟩|⟨x,t,rfl,rfl⟩
  .rcases BV hv with⟨j,u,rfl,rfl⟩|⟨y,u,rfl,rfl⟩
   .rw[bA]at h;exact wpAny_eqBool_int h
   .rw[b9]at h;exact SeqAt.EqAt.int_str i t y u _ _ _ _ h
  .rcases BV hv with⟨j,u,rfl,rfl⟩|⟨y,u,rfl,rfl⟩
   .rw[b8]at h;exact SeqAt.EqAt.str_int x t j u _ _ _ _ h
   .rw[b7]at h;exact wpAny_eqBool_str h
 «strs»:=λk x t v h=>by
  rcases BV h with⟨i,u,rfl,e⟩|⟨y,u,rfl,e⟩
  .exact nomatch e
  .injection e with e1 _
   subst e1;cases v<;>rfl
def Nc(prog:Program)(w:World)(i:Int)(t:Tok):(BY prog w).is (.inl i) (.int i t)=true:=Rx i t
def Nb(prog:Program)(w:World)(x:Str)(t:Tok):(BY prog w).is (.inr x) (.str x t)=true:=Rv x t
inductive V where
 |non|bl (b:Bool)|int (i:Int)|str (x:Str)|byt (b:Array UInt8)|flt (b:UInt64)|ref (a:Addr)|ty (n:String)
 deriving DecidableEq
def RelV:V->Value->Prop
 |.non,u=>u=Value.none
 |.bl b,u=>u=Value.bool b
 |.int i,u=>∃t,u=Value.int i t
 |.str x,u=>∃t,u=Value.str x t
 |.byt b,u=>∃t,u=Value.bytes b t
 |.flt b,u=>∃t,u=Value.float b t
 |.ref a,u=>u=Value.ref a
 |.ty n,u=>u=Value.type n
abbrev Vals:List V->List Value->Prop:=Paired RelV
def Vals.length{xs:List V}{us:List Value}(r:Vals xs us):xs.length=us.length:=Paired.length r
def Vals.get:∀{xs:List V} {us:List Value} {i:Nat} {x:V},Vals xs us->xs[i]?=some x->∃u,us[i]?=some u/\RelV x u
 |_,_,_,_,.nil,e=>by simp at e
 |_,_,0,_,.cons r _,e=>by simp at e;subst e;exact⟨_,rfl,r⟩
 |_,_,i+1,x,.cons _ t,e=>by
  obtain⟨u,h1,h2⟩:=Vals.get (i:=i) (x:=x) t (by simpa using e);exact⟨u,by simpa using h1,h2⟩
def Vals.set{x:V}{u:Value}(r:RelV x u):∀{xs:List V} {us:List Value} (i:Nat),Vals xs us->Vals (xs.set i x) (us.set i u)
 |_,_,_,.nil=>.nil
 |_,_,0,.cons _ t=>.cons r t
 |_,_,i+1,.cons q t=>.cons q (Vals.set r i t)
def Vals.append:∀{xs ys:List V} {us ws:List Value},Vals xs us->Vals ys ws->Vals (xs++ys) (us++ws)
 |_,_,_,_,.nil,s=>s
 |_,_,_,_,.cons r t,s=>.cons r (Vals.append t s)
def Vals.take:∀{xs:List V} {us:List Value} (n:Nat),Vals xs us->Vals (xs.take n) (us.take n)
 |_,_,0,_=>.nil
 |_,_,_+1,.nil=>.nil
 |_,_,n+1,.cons r t=>.cons r (Vals.take n t)
def Vals.drop:∀{xs:List V} {us:List Value} (n:Nat),Vals xs us->Vals (xs.drop n) (us.drop n)
 |_,_,0,r=>r
 |_,_,_+1,.nil=>.nil
 |_,_,n+1,.cons _ t=>Vals.drop n t
def RelO:Option V->Option Value->Prop
 |some v,some u=>RelV v u
 |none,none=>True
 |_,_=>False
def KV{κ:Type}:List (κ×V)->List (κ×Value)->Prop:=Paired λ(p:κ×V) (q:κ×Value)=>p.1=q.1/\RelV p.2 q.2
def kV:Key->V
 |.inl i=>.int i
 |.inr x=>.str x
inductive HO where
 /-- a list -/
 |lst (xs:List V)
 /-- a tuple (never changes) -/
 |tup (xs:List V)
 /-- a dict whose keys are ints and texts;one whose keys are tuples of ints and texts (the empty one is both) -/
 |dK (kvs:List (Key×V))|dT (kvs:List (List Key×V))
 /-- a set of ints: its members,its size -/
 |set (S:Int->Bool) (n:Nat)
 /-- an instance of the class at C,its dict at dx,its attributes -/
 |ins (C dx:Addr) (fs:List (Str×V))
 /-- the dict of the instance at x -/
 |own (x:Addr)
 /-- the dict of an exception -/
 |xd (fs:List (Str×V))
 /-- a bound method,f of x -/
 |met (f x:Addr)
 /-- a range object lo,lo+1,.. below hi -/
 |rng (lo hi:Int)
 /-- a thing that is known to the object (the script;a dict while a loop walks it): read,never written while it is so -/
 |frz (o:Obj) (u:HO)
 /-- a code object's table -/
 |tbl (ps:Array Value)
 /-- any other thing,by what is true of its one object (a def of one's own: SetO a S n:=HO.ext λh=>..) -/
 |ext (φ:Heap->Prop)
abbrev Hp:=Addr->Option HO
def upd(H:Hp)(a:Addr)(o:HO):Hp:=λb=>if b=a then some o else H b
def AI{H:Hp}{a:Addr}{o:HO}:upd H a o a=some o:=by unfold upd;rw[if_pos rfl]
def upd_ne{H:Hp}{a b:Addr}{o:HO}(h:b≠a):upd H a o b=H b:=by unfold upd;rw[if_neg h]
def cR{H:Hp}{a b:Addr}{o u:HO}(h:H a=some o)(h':H b=some u)(d:o≠u):a≠b:=by
 intro e;subst e;rw[h]at h';exact d (Option.some.inj h')
def AV{H:Hp}{a b:Addr}{o:HO}(h:H a=some o)(h':H b=none):a≠b:=by
 intro e;subst e;rw[h]at h';cases h'
def IsTupD(h:Heap)(a:Addr)(items:Array Value):Prop:=∃o,h.get? a=some o/\o.cls=.type "tuple"/\(∃n,o.data=.seq items n)/\o.dict=none
def IsTupD.t{h:Heap}{a:Addr}{items:Array Value}(x:IsTupD h a items):IsTup h a items:=let ⟨o,e,c,d,_⟩:=x;⟨o,e,c,d⟩
def IsTupD.new(h:Heap)(items:Array Value):IsTupD (h.push { cls:=.type "tuple",data:=.seq items }) h.objs.size items:=⟨_,Heap.get?_push_size _ rfl,rfl,⟨_,rfl⟩,rfl⟩
section
variable(P:Program)(w:World)
def ObjOk(H:Hp)(h:Heap)(a:Addr):HO->Prop
 |.lst xs=>xs.length<=sizeLine/\∃(its:List Value) (n:Nat),Vals xs its/\h.get? a=some { cls:=.type "list",data:=.seq its.toArray n }
 |.tup xs=>xs.length<=sizeLine/\∃its:List Value,Vals xs its/\IsTupD h a its.toArray
 |.dK kvs=>kvs.length<=sizeLine/\(a==sysModules)=false/\∃vs,KV kvs vs/\h.DictOf (BY P w) a vs
 |.dT kvs=>kvs.length<=sizeLine/\(a==sysModules)=false/\∃xs:List (List Key×Addr×Value),
  Paired (λ(p:List Key×V) (q:List Key×Addr×Value)=>p.1=q.1/\H q.2.1=some (.tup (p.1.map kV))/\RelV p.2 q.2.2) kvs xs /\
  ∃o es ep,h.get? a=some o/\o.ExactDict/\o.data=.dict es ep/\es.toList=xs.map (entryOfKey (tupleKind (BY P w)))/\(xs.map (·.1)).Nodup
 |.set S n=>h.SetOf (intKind P w) a S n
 |.ins C dx fs=>H dx=some (.own a)/\fs.length<=1000/\dx≠a/\h.get? a=some (PySem.W.instObj C dx)/\
  ∃mA,h.Ns1 dx mA/\(∀f,RelO (fs.lookup f) (mA f))/\PySem.Within mA (fs.map (·.1))
 |.own _=>∃o,h.get? a=some o
 |.xd fs=>∃mA,h.Ns1 a mA/\∀f,RelO (fs.lookup f) (mA f)
 |.rng lo hi=>∃t u v,h.get? a=some { cls:=.type "range",data:=.fields #[.int lo t,.int hi u,.int 1 v] }
 |.frz o u=>h.get? a=some o/\ObjOk H h a u
 |.tbl ps=>h.get? a=some { cls:=.none,data:=.fields ps }
 |.met f x=>h.get? a=some (PySem.W.methodObj (.ref f) (.ref x))
 |.ext φ=>φ h/\(∃o,h.get? a=some o)/\∀h1 h2:Heap,φ h1->(∀o,h1.get? a=some o->h2.get? a=some o)->φ h2
def HOk(H:Hp)(h:Heap):Prop:=∀a o,H a=some o->ObjOk P w H h a o
end
section
variable{P:Program}{w:World}{H H':Hp}{h h':Heap}{a:Addr}{o:HO}
def ObjOk.lt(x:ObjOk P w H h a o):a<h.objs.size:=by
 cases o with
 |lst xs=>obtain⟨_,_,_,_,e⟩:=x;exact Heap.lt_size e
 |tup xs=>obtain⟨_,_,_,o,e,_⟩:=x;exact Heap.lt_size e
 |dK kvs=>obtain⟨_,_,_,_,o,_,_,e,_⟩:=x;exact Heap.lt_size e
 |dT kvs=>obtain⟨_,_,_,_,o,_,_,e,_⟩:=x;exact Heap.lt_size e
 |set S n=>obtain⟨o,_,_,_,e,_⟩:=x;exact Heap.lt_size e
 |ins C dx fs=>obtain⟨_,_,_,e,_⟩:=x;exact Heap.lt_size e
 |own y=>obtain⟨_,e⟩:=x;exact Heap.lt_size e
 |xd fs=>obtain⟨_,⟨_,_,_,e,_⟩,_⟩:=x;exact Heap.lt_size e
 |rng lo hi=>obtain⟨_,_,_,e⟩:=x;exact Heap.lt_size e
 |frz ob u=>obtain⟨e,_⟩:=x;exact Heap.lt_size e
 |tbl ps=>exact Heap.lt_size (show h.get? a=some _ from x)
 |met f y=>exact Heap.lt_size (show h.get? a=some _ from x)
 |ext φ=>obtain⟨_,⟨_,e⟩,_⟩:=x;exact Heap.lt_size e
def Paired.mapP{α β:Type}{F G:α->β->Prop}:∀{l₁:List α} {l₂:List β},Paired F l₁ l₂->(∀a b,F a b->G a b)->Paired G l₁ l₂
 |_,_,.nil,_=>.nil
 |_,_,.cons r t,f=>.cons (f _ _ r) (Paired.mapP t f)
def ObjOk.stay(x:ObjOk P w H h a o)(k:∀b u,(b=a∨H b=some (.own a))->h.get? b=some u->h'.get? b=some u)
 (ho:∀b,H b=some (.own a)->H' b=some (.own a)) (ht:∀b xs,H b=some (.tup xs)->H' b=some (.tup xs)):ObjOk P w H' h' a o:=by
 induction o with
 |lst xs=>obtain⟨z,its,n,r,e⟩:=x;exact⟨z,its,n,r,k _ _ (.inl rfl) e⟩
 |tup xs=>obtain⟨z,its,r,ob,e,c⟩:=x;exact⟨z,its,r,ob,k _ _ (.inl rfl) e,c⟩
 |dK kvs=>obtain⟨z,y,vs,r,ob,es,ep,e,c⟩:=x;exact⟨z,y,vs,r,ob,es,ep,k _ _ (.inl rfl) e,c⟩
 |dT kvs=>
  obtain⟨z,y,xs,r,ob,es,ep,e,c⟩:=x;exact⟨z,y,xs,Paired.mapP r λp q z=>⟨z.1,ht _ _ z.2.1,z.2.2⟩,ob,es,ep,k _ _ (.inl rfl) e,c⟩
 |set S n=>obtain⟨ob,es,ep,t,e,c⟩:=x;exact⟨ob,es,ep,t,k _ _ (.inl rfl) e,c⟩
 |ins C dx fs=>
  obtain⟨d,z,ne,e,mA,⟨od,es,ep,e2,c⟩,r⟩:=x;exact⟨ho _ d,z,ne,k _ _ (.inl rfl) e,mA,⟨od,es,ep,k _ _ (.inr d) e2,c⟩,r⟩
 |own y=>obtain⟨ob,e⟩:=x;exact⟨ob,k _ _ (.inl rfl) e⟩
 |xd fs=>obtain⟨mA,⟨od,es,ep,e,c⟩,r⟩:=x;exact⟨mA,⟨od,es,ep,k _ _ (.inl rfl) e,c⟩,r⟩
 |rng lo hi=>obtain⟨t,u,v,e⟩:=x;exact⟨t,u,v,k _ _ (.inl rfl) e⟩
 |frz ob u ih=>obtain⟨e,q⟩:=x;exact⟨k _ _ (.inl rfl) e,ih q⟩
 |tbl ps=>
  have e:h.get? a=some { cls:=.none,data:=.fields ps }:=x;show h'.get? a=some { cls:=.none,data:=.fields ps };exact k a _ (.inl rfl) e
 |met f y=>
  have e:h.get? a=some (PySem.W.methodObj (.ref f) (.ref y)):=x;show h'.get? a=some (PySem.W.methodObj (.ref f) (.ref y));exact k a _ (.inl rfl) e
 |ext φ=>obtain⟨p,⟨o,e⟩,st⟩:=x;exact⟨st _ _ p λo q=>k _ _ (.inl rfl) q,⟨o,k _ _ (.inl rfl) e⟩,st⟩
def HOk.lt(x:HOk P w H h)(e:H a=some o):a<h.objs.size:=(x a o e).lt
def HOk.fresh(x:HOk P w H h)(e:h.objs.size<=a):H a=none:=by
 cases q:H a with
 |none=>rfl
 |some u=>exact absurd (lt_of_lt_of_le (x.lt q) e) (lt_irrefl _)
def HOk.kept(x:HOk P w H h)(k:∀b u,h.get? b=some u->h'.get? b=some u):HOk P w H h':=λa o e=>
 (x a o e).stay (λb u _ q=>k b u q) (λ_ q=>q) λ_ _ q=>q
def HOk.laid(x:HOk P w H h)(k:∀b u,h.get? b=some u->h'.get? b=some u)(hp:h.objs.size<=a)(new:ObjOk P w (upd H a o) h' a o):HOk P w (upd H a o) h':=λb u e=>by
 have hn:=x.fresh hp;by_cases hb:b=a
 .subst hb;rw[AI]at e;cases e;exact new
 .rw[upd_ne hb]at e;exact(x b u e).stay (λc v _ q=>k c v q) (λc q=>by rw[upd_ne (AV q hn)];exact q) λc xs q=>by rw[upd_ne (AV q hn)];exact q
end
def Rd(H:Hp)(a:Addr)(u:HO):Prop:=H a=some u∨∃o,H a=some (.frz o u)
def Rd.ok{P:Program}{w:World}{H:Hp}{h:Heap}{a:Addr}{u:HO}(r:Rd H a u)(x:HOk P w H h):ObjOk P w H h a u:=by
 rcases r with r|⟨o,r⟩
 .exact x a u r
 .obtain⟨_,q⟩:=x a _ r;exact q
def Mut:Option HO->Prop
 |some (.lst _)=>True
 |some (.dK _)=>True
 |some (.dT _)=>True
 |some (.set _ _)=>True
 |some (.ins _ _ _)=>True
 |some (.ext _)=>True
 |_=>False
section
variable{P:Program}{w:World}{H:Hp}{h h':Heap}{x e:Addr}{o':HO}
def HOk.write(ok:HOk P w H h)(mu:Mut (H x))(he:e=x∨H e=some (.own x))(k:∀b u,b≠e->h.get? b=some u->h'.get? b=some u)(heo:∃u,h'.get? e=some u)
 (new:ObjOk P w (upd H x o') h' x o'):HOk P w (upd H x o') h':=λb u q=>by
 have nown:∀c y,H c=some (.own y)->c≠x:=λc y r z=>by subst z;rw[r]at mu;exact mu
 have ntup:∀c xs,H c=some (.tup xs)->c≠x:=λc xs r z=>by subst z;rw[r]at mu;exact mu
 by_cases hb:b=x
 .subst hb;rw[AI]at q;cases q;exact new
 .rw[upd_ne hb]at q;by_cases hbe:b=e
  .have q':H b=some (.own x):=by
    rcases he with z|z
    .exact absurd (hbe.trans z) hb
    .rw[hbe];exact z
   rw[q]at q';cases q';obtain⟨v,hv⟩:=heo;exact⟨v,by rw[hbe];exact hv⟩
  .refine(ok b u q).stay (λc v hc r=>k c v ?_ r) (λc r=>by rw[upd_ne (nown c b r)];exact r) λc xs r=>by rw[upd_ne (ntup c xs r)];exact r
   rcases hc with rfl|hc
   .exact hbe
   .rintro rfl;rcases he with z|z
    .exact nown c b hc z
    .rw[hc]at z;cases z;exact hb rfl
end
structure Un(fs ex:List Addr)(H H':Hp)(h h':Heap):Prop where
 keep:∀b o,h.get? b=some o->H b=none->b∉fs->b∉ex->h'.get? b=some o
 slot:∀b o,h.get? b=some o->H b=none->b∈fs->b∉ex->∃sl,h'.get? b=some { o with slots:=sl }
 free:∀b o,h.get? b=some o->H b=none->b∉ex->H' b=none
 there:∀b o,h.get? b=some o->b∉ex->∃o',h'.get? b=some o'
 tups:∀b xs,H b=some (.tup xs)->H' b=some (.tup xs)
 frzs:∀b o u,H b=some (.frz o u)->H' b=some (.frz o u)
 tbls:∀b ps,H b=some (.tbl ps)->∃more,H' b=some (.tbl (ps++more))
section
variable{fs fs' ex ex':List Addr}{H H1 H2:Hp}{h h1 h2 h':Heap}{a x e:Addr}{o:HO}
def Un.any(u:Un fs ex H H1 h h1){b:Addr}{ob:Obj}(q:h.get? b=some ob)(n:H b=none)(hx:b∉ex):∃sl,h1.get? b=some { ob with slots:=sl }:=by
 by_cases hb:b∈fs
 .exact u.slot b ob q n hb hx
 .exact⟨ob.slots,u.keep b ob q n hb hx⟩
def Un.kept(k:∀b u,h.get? b=some u->h'.get? b=some u):Un fs ex H H h h':=
 ⟨λb ob q _ _ _=>k b ob q,λb ob q _ _ _=>⟨ob.slots,k b ob q⟩,λ_ _ _ n _=>n,λb ob q _=>⟨ob,k b ob q⟩,λ_ _ q=>q,λ_ _ _ q=>q,λ_ ps q=>⟨#[],by rw[q];simp⟩⟩
def Un.refl:Un fs ex H H h h:=Un.kept λ_ _ q=>q
def Un.laid(k:∀b u,h.get? b=some u->h'.get? b=some u)(hp:h.objs.size<=a)(hn:H a=none):Un fs ex H (upd H a o) h h' where
 keep:=λb u q _ _ _=>k b u q
 slot:=λb u q _ _ _=>⟨u.slots,k b u q⟩
 free:=λb u q n _=>by rw[upd_ne (ne_of_lt (lt_of_lt_of_le (Heap.lt_size q) hp))];exact n
 there:=λb u q _=>⟨u,k b u q⟩
 tups:=λb xs q=>by rw[upd_ne (AV q hn)];exact q
 frzs:=λb u xs q=>by rw[upd_ne (AV q hn)];exact q
 tbls:=λb ps q=>⟨#[],by rw[upd_ne (AV q hn),q];simp⟩
def Un.write(mu:Mut (H x))(he:e=x∨H e=some (.own x))(k:∀b u,b≠e->h.get? b=some u->h'.get? b=some u)(heo:∃u,h'.get? e=some u):Un fs ex H (upd H x o) h h':=by
 have hx:∀b,H b=none->b≠x:=λb n z=>by subst z;rw[n]at mu;exact mu
 have hb:∀b,H b=none->b≠e:=λb n z=>by
  subst z;rcases he with r|r
  .exact hx b n r
  .rw[n]at r;cases r
 have hm:∀b u,H b=some u->¬ Mut (some u)->b≠x:=λb u q nm z=>by subst z;rw[q]at mu;exact nm mu
 refine⟨λb u q n _ _=>k b u (hb b n) q,λb u q n _ _=>⟨u.slots,k b u (hb b n) q⟩,λb u q n _=>by rw[upd_ne (hx b n)];exact n,λb u q _=>?_,
  λb xs q=>by rw[upd_ne (hm b _ q λz=>z)];exact q,λb u xs q=>by rw[upd_ne (hm b _ q λz=>z)];exact q,λb ps q=>⟨#[],by rw[upd_ne (hm b _ q λz=>z),q];simp⟩⟩
 by_cases hbe:b=e
 .subst hbe;exact heo
 .exact⟨u,k b u hbe q⟩
end
def trk(h:Heap)(H:Hp):List Addr:=(List.range h.objs.size).filter λa=>(H a).isSome
def Fx(h:Heap)(H:Hp):Heap:=PySem.W.hideAll h (trk h H)
def S2(h:Heap)(H:Hp):(Fx h H).objs.size=h.objs.size:=PySem.W.hideAll_size _ _
def Uj{h:Heap}{H:Hp}{b:Addr}{o:Obj}(e:h.get? b=some o)(n:H b=none):(Fx h H).get? b=some o:=
 PySem.W.hideAll_get _ e λhm=>by
  have q:(H b).isSome=true:=(mem_filter.mp hm).2;rw[n]at q;simp at q
def Xd{h:Heap}{H:Hp}{b:Addr}{o:Obj}(e:(Fx h H).get? b=some o):h.get? b=some o/\H b=none:=by
 have e':h.get? b=some o:=PySem.W.of_hideAll (trk h H) e;refine⟨e',?_⟩;cases q:H b with
 |none=>rfl
 |some x=>
  have hm:b∈trk h H:=mem_filter.mpr ⟨mem_range.mpr (Heap.lt_size e'),by simp[q]⟩;have z:(Fx h H).get? b=none:=PySem.W.hideAll_none (trk h H) hm;rw[z]at e;cases e
def YQ(g h:Heap)(L:Addr):List (Addr×Obj):=(List.range h.objs.size).filterMap λa=>if a=L∨(g.get? a).isSome=true then none else(h.get? a).map λo=>(a,o)
def rest(g h:Heap)(L d:Addr):List (Addr×Obj):=(YQ g h L).filter λp=>decide (p.1≠d)
structure Mod(K:PySem.W.Frag)(mg:Str->Option Value)(base:Heap):Prop where
 kin:K.In base
 glob:base.Ns mainGlobals mg
 blt:∃mb,base.Ns builtinsNs mb/\∀x:Str,x≠"__name__"->mb x=bootBuiltins x
 nolimit:base.NoLimit
structure Cx where
 prog:Program
 w:World
 K:PySem.W.Frag
 mg:Str->Option Value
 base:Heap
 A:Around
 N:List Str
 s₀:Shared
 H₀:Hp
 env:Env
 outer:List Env
 stack:List Env
 ex:List Addr
 fn:Str->Bool
 calm:Bool
 pn:List (Addr×Obj)
 xe:Value->Shared->Prop
def frs(l:List Env):List Addr:=l.filterMap (·.frame)
abbrev Cx.fs(X:Cx):List Addr:=frs X.outer
def Vis(sc:Scope)(x:Str):Prop:=sc.names.lookup x=some .local∨sc.names.lookup x=some .cell∨sc.names.lookup x=some .free
def Loc(sc:Scope)(x:Str):Prop:=sc.names.lookup x=some .local∨sc.names.lookup x=some .cell
def di(env:Env)(h:Heap)(m:Str->Option Value)(x:Str)(u:Value):Prop:=
 (env.kindOf x=some .local/\m x=some u)∨((env.kindOf x=some .cell∨env.kindOf x=some .free)/\∃c,env.cells.lookup x=some c/\h.IsCell c (some u))
structure Cx.Ok(X:Cx):Prop where
 mod:Mod X.K X.mg X.base
 kind:X.env.scope.kind=.function
 glob:X.env.globals=mainGlobals
 blt:X.env.builtins=builtinsNs
 above:X.s₀.heap.objs.size<=X.env.locals
 inj:∀x y c,X.env.cells.lookup x=some c->X.env.cells.lookup y=some c->x=y
 has:∀x,(X.env.kindOf x=some .cell∨X.env.kindOf x=some .free)->∃c,X.env.cells.lookup x=some c
 cab:∀x c,X.fn x=true->X.env.cells.lookup x=some c->X.s₀.heap.objs.size<=c
 hd:X.calm=true->X.A.handled=none
 frames:X.A.frames=some X.stack
 stk:X.stack=X.outer∨(X.stack=X.env::X.outer/\X.env.frame=some X.env.locals)
 exf:∀b∈X.ex,b≠X.env.locals/\∀x c,X.env.cells.lookup x=some c->c≠b
 bs:∀b o,X.base.get? b=some o->X.s₀.heap.get? b=some o/\X.H₀ b=none
 bsz:X.base.objs.size<=X.s₀.heap.objs.size
 noex:∀b o,X.base.get? b=some o->b∉X.ex
 exfs:∀b∈X.ex,b∉X.fs
 funs:X.s₀.heap.FunFrames X.base X.outer
 frf:∀b∈X.fs,X.H₀ b=none
structure Inv(X:Cx)(pins:List (Addr×Obj))(σ:List (Option V))(H:Hp)(s:Shared):Prop where
 ok:X.Ok
 os:s.os=X.s₀.os
 bare:AllBare s.gens
 base:Un X.fs X.ex X.H₀ H X.s₀.heap s.heap
 loc:∃m,s.heap.Ns X.env.locals m/\∀(i:Nat) (x:Str) (v:V),X.N[i]?=some x->σ[i]?=some (some v)->Vis X.env.scope x->∃u,RelV v u/\di X.env s.heap m x u
 cell:∀x c,X.env.cells.lookup x=some c->∃v,s.heap.IsCell c v
 free:H X.env.locals=none
 freeC:∀x c,X.env.cells.lookup x=some c->H c=none
 pin:∀p∈X.pn++pins,s.heap.get? p.1=some p.2/\H p.1=none/\p.1≠X.env.locals/\p.1∉X.fs/\∀v,p.2.data≠.cell v
 hok:HOk X.prog X.w H s.heap
 len:σ.length=X.N.length
section
variable{X:Cx}{pins:List (Addr×Obj)}{σ:List (Option V)}{H H':Hp}{s:Shared}{h':Heap}
def Cx.Ok.nofr(ok:X.Ok){b:Addr}{o:Obj}(e:X.base.get? b=some o):b∉X.fs:=λhb=>by
 have:=(ok.funs.mem hb).1;rw[e]at this;cases this
def Inv.bs(I:Inv X pins σ H s):∀b o,X.base.get? b=some o->s.heap.get? b=some o/\H b=none:=λb o e=>
 ⟨I.base.keep b o (I.ok.bs b o e).1 (I.ok.bs b o e).2 (I.ok.nofr e) (I.ok.noex b o e),I.base.free b o (I.ok.bs b o e).1 (I.ok.bs b o e).2 (I.ok.noex b o e)⟩
def Inv.bk(I:Inv X pins σ H s):∀b o,X.base.get? b=some o->s.heap.get? b=some o:=λb o e=>(I.bs b o e).1
def Inv.mod(I:Inv X pins σ H s):Mod X.K X.mg X.base:=I.ok.mod
def Inv.kIn(I:Inv X pins σ H s):X.K.In s.heap:=I.ok.mod.kin.keeps I.bk
def Inv.nolimit(I:Inv X pins σ H s):s.heap.NoLimit:=I.ok.mod.nolimit.keeps I.bk
def Inv.fr(I:Inv X pins σ H s):∃m,Fr X.base X.env.locals s.heap m:=
 let ⟨m,hn,_⟩:=I.loc
 ⟨m,hn,I.bk,le_trans I.ok.bsz I.ok.above⟩
def Inv.lt(I:Inv X pins σ H s):X.env.locals<s.heap.objs.size:=let ⟨_,hn,_⟩:=I.loc;hn.lt
def Inv.sz(I:Inv X pins σ H s):X.s₀.heap.objs.size<=s.heap.objs.size:=le_trans I.ok.above (le_of_lt I.lt)
def Inv.nofs(I:Inv X pins σ H s){a:Addr}(h:s.heap.objs.size<=a):a∉X.fs:=λhb=>by
 obtain⟨_,o,ho,_⟩:=I.ok.funs.mem hb;exact absurd (lt_of_lt_of_le (Heap.lt_size ho) (le_trans I.sz h)) (lt_irrefl _)
def Inv.cne(I:Inv X pins σ H s):∀x c,X.env.cells.lookup x=some c->c≠X.env.locals:=λx c e z=>by
 obtain⟨v,o,ho,hd⟩:=I.cell x c e;obtain⟨m,⟨o',es,ep,ho',hd',_⟩,_⟩:=I.loc;rw[z,ho']at ho;cases ho;rw[hd']at hd;cases hd
def Inv.funs(I:Inv X pins σ H s):s.heap.FunFrames X.base X.outer:=by
 have all:∀(l:List Env),(∀b∈frs l,b∈X.fs)->X.s₀.heap.FunFrames X.base l->s.heap.FunFrames X.base l:=by
  intro l
  induction l with
  |nil=>intro _ _;trivial
  |cons env r ih=>
   intro hs hl;obtain⟨hk,⟨L,o,hf,hn,ho,hd⟩,hr⟩:=hl;have hL:L∈X.fs:=hs L (by unfold frs;rw[filterMap_cons,hf];exact mem_cons_self);obtain⟨sl,e⟩:=I.base.slot L o ho (I.ok.frf L hL) hL λz=>I.ok.exfs L z hL;exact⟨hk,⟨L,_,hf,hn,e,hd⟩,ih (λb hb=>hs b (by unfold frs;rw[filterMap_cons,hf];exact mem_cons_of_mem _ hb)) hr⟩
 exact all X.outer (λ_ hb=>hb) I.ok.funs
def Inv.stack(I:Inv X pins σ H s):s.heap.FunFrames X.base X.stack:=by
 rcases I.ok.stk with e|⟨e,hf⟩
 .rw[e];exact I.funs
 .rw[e];obtain⟨m,hn,_⟩:=I.loc;refine .cons (by rw[I.ok.kind];decide) hf hn ?_ I.funs;exact Heap.get?_none_of_le (le_trans I.ok.bsz I.ok.above)
def Inv.stkSub(I:Inv X pins σ H s):∀b∈frs X.stack,b∈X.env.locals::X.fs:=λb hb=>by
 rcases I.ok.stk with e|⟨e,hf⟩
 .rw[e]at hb;exact mem_cons_of_mem _ hb
 .rw[e]at hb;unfold frs at hb;rw[filterMap_cons,hf]at hb;exact hb
def Inv.stkFree(I:Inv X pins σ H s):∀b∈frs X.stack,H b=none:=λb hb=>by
 rcases mem_cons.mp (I.stkSub b hb)with e|hb
 .rw[e];exact I.free
 .obtain⟨_,o,ho,_⟩:=I.ok.funs.mem hb;exact I.base.free b o ho (I.ok.frf b hb) λz=>I.ok.exfs b z hb
def Inv.step{g':Array GenState}{t':Nat}{d':Drawn}{ch:List Addr}(I:Inv X pins σ H s)
 (hch:∀b∈ch,(b∈X.ex∨X.s₀.heap.objs.size<=b)/\b≠X.env.locals/\(∀x c,X.env.cells.lookup x=some c->c≠b)/\∀p∈X.pn++pins,p.1≠b)
 (keep:∀b o,b≠X.env.locals->b∉X.fs->b∉ch->s.heap.get? b=some o->H b=none->h'.get? b=some o)
 (slot:∀b o,b≠X.env.locals->b∈X.fs->b∉ch->s.heap.get? b=some o->H b=none->∃sl,h'.get? b=some { o with slots:=sl }) (free:∀b o,b∉ch->s.heap.get? b=some o->H b=none->H' b=none)
 (there:∀b o,b∉ch->s.heap.get? b=some o->∃o',h'.get? b=some o')
 (tups:∀b xs,H b=some (.tup xs)->H' b=some (.tup xs)) (frzs:∀b o u,H b=some (.frz o u)->H' b=some (.frz o u)) (tbls:∀b ps,H b=some (.tbl ps)->∃more,H' b=some (.tbl (ps++more)))
 (ns:∀m,s.heap.Ns X.env.locals m->h'.Ns X.env.locals m) (hok:HOk X.prog X.w H' h') (hg:AllBare g'):
 Inv X pins σ H' { s with heap:=h',gens:=g',drawn:=d',toks:=t' }:=by
 have neL:∀b o,X.s₀.heap.get? b=some o->b≠X.env.locals:=λb o e=>ne_of_lt (lt_of_lt_of_le (Heap.lt_size e) I.ok.above);have neC:∀b o,X.s₀.heap.get? b=some o->b∉X.ex->b∉ch:=λb o e hx hb=>by
  rcases(hch b hb).1 with z|z
  .exact hx z
  .exact absurd (lt_of_lt_of_le (Heap.lt_size e) z) (lt_irrefl _)
 have cellK:∀x c,X.env.cells.lookup x=some c->∀v,s.heap.IsCell c v->h'.IsCell c v:=λx c e v ⟨o,ho,hd⟩=>by
  have nch:c∉ch:=λz=>(hch c z).2.2.1 x c e rfl;by_cases hc:c∈X.fs
  .obtain⟨sl,q⟩:=slot c o (I.cne x c e) hc nch ho (I.freeC x c e);exact⟨_,q,hd⟩
  .exact⟨o,keep c o (I.cne x c e) hc nch ho (I.freeC x c e),hd⟩
 refine⟨I.ok,I.os,hg,⟨λb o e n hb hx=>?_,λb o e n hb hx=>?_,λb o e n hx=>?_,λb o e hx=>?_,λb xs e=>tups b xs (I.base.tups b xs e),λb o xs e=>frzs b o xs (I.base.frzs b o xs e),λb ps e=>?_⟩,?_,λx c e=>?_,?_,λx c e=>?_,λp hp=>?_,hok,I.len⟩
 .exact keep b o (neL b o e) hb (neC b o e hx) (I.base.keep b o e n hb hx) (I.base.free b o e n hx)
 .obtain⟨sl,e1⟩:=I.base.slot b o e n hb hx;obtain⟨sl',e2⟩:=slot b _ (neL b o e) hb (neC b o e hx) e1 (I.base.free b o e n hx);exact⟨sl',e2⟩
 .obtain⟨o',e1⟩:=I.base.there b o e hx;exact free b o' (neC b o e hx) e1 (I.base.free b o e n hx)
 .obtain⟨o',e1⟩:=I.base.there b o e hx;exact there b o' (neC b o e hx) e1
 .obtain⟨m1,e1⟩:=I.base.tbls b ps e;obtain⟨m2,e2⟩:=tbls b _ e1;exact⟨m1++m2,by rw[e2,Array.append_assoc]⟩
 .obtain⟨m,hn,hl⟩:=I.loc;refine⟨m,ns m hn,λi x v e1 e2 e3=>?_⟩;obtain⟨u,r,l⟩:=hl i x v e1 e2 e3;refine⟨u,r,?_⟩;rcases l with l|⟨k,c,e,z⟩
  .exact .inl l
  .exact .inr ⟨k,c,e,cellK x c e _ z⟩
 .obtain⟨v,z⟩:=I.cell x c e;exact⟨v,cellK x c e v z⟩
 .obtain⟨m,⟨o,_,_,ho,_⟩,_⟩:=I.loc;exact free _ o (λz=>(hch _ z).2.1 rfl) ho I.free
 .obtain⟨v,o,ho,hd⟩:=I.cell x c e;exact free c o (λz=>(hch c z).2.2.1 x c e rfl) ho (I.freeC x c e)
 .obtain⟨e,n,ne,nf,d⟩:=I.pin p hp;have nch:p.1∉ch:=λz=>(hch p.1 z).2.2.2 p hp rfl;exact⟨keep p.1 p.2 ne nf nch e n,free p.1 p.2 nch e n,ne,nf,d⟩
def Inv.un{t':Nat}(I:Inv X pins σ H s)(u:Un X.fs [] H H' s.heap h')(hok:HOk X.prog X.w H' h'):Inv X pins σ H' { s with heap:=h',toks:=t' }:=by
 obtain⟨m,⟨o,es,ep,ho,r⟩,_⟩:=id I.loc;obtain⟨sl,hL⟩:=u.any ho I.free (by simp);exact I.step (g':=s.gens) (d':=s.drawn) (ch:=[]) (λ_ z=>nomatch z) (λb o _ hb _ e n=>u.keep b o e n hb (by simp)) (λb o _ hb _ e n=>u.slot b o e n hb (by simp)) (λb o _ e n=>u.free b o e n (by simp)) (λb o _ e=>u.there b o e (by simp)) u.tups u.frzs u.tbls (λm' hm=>by
  obtain⟨o',es',ep',ho',r'⟩:=hm;rw[ho]at ho';cases ho';exact⟨_,es',ep',hL,r'⟩) hok I.bare
def Inv.call{g':Array GenState}{t':Nat}{d':Drawn}{ch:List Addr}(I:Inv X pins σ H s)(u:Un (frs X.stack) ch H H' s.heap h')(hok:HOk X.prog X.w H' h')(hg:AllBare g')
 (hch:∀b∈ch,(b∈X.ex∨X.s₀.heap.objs.size<=b)/\b≠X.env.locals/\(∀x c,X.env.cells.lookup x=some c->c≠b)/\∀p∈X.pn++pins,p.1≠b):
 Inv X pins σ H' { s with heap:=h',gens:=g',drawn:=d',toks:=t' }:=by
 obtain⟨m,⟨o,es,ep,ho,r⟩,_⟩:=id I.loc;obtain⟨sl,hL⟩:=u.any ho I.free λz=>(hch _ z).2.1 rfl;exact I.step (ch:=ch) hch (λb o hL hb hc e n=>u.keep b o e n (λz=>(mem_cons.mp (I.stkSub b z)).elim hL hb) hc) (λb o _ _ hc e n=>u.any e n hc) (λb o hc e n=>u.free b o e n hc) (λb o hc e=>u.there b o e hc) u.tups u.frzs u.tbls (λm' hm=>by
  obtain⟨o',es',ep',ho',r'⟩:=hm;rw[ho]at ho';cases ho';exact⟨_,es',ep',hL,r'⟩) hok hg
def Inv.turned{t':Nat}{it:Addr}(I:Inv X pins σ H s)(k:∀b o,b≠it->s.heap.get? b=some o->h'.get? b=some o)(hn:H it=none)(hL:it≠X.env.locals)
 (h1:it∈X.ex∨X.s₀.heap.objs.size<=it) (h2:∀x c,X.env.cells.lookup x=some c->c≠it) (h3:∀p∈X.pn++pins,p.1≠it):Inv X pins σ H { s with heap:=h',toks:=t' }:=by
 have nit:∀b u,H b=some u->b≠it:=λb u e z=>by rw[z,hn]at e;cases e
 refine I.step (g':=s.gens) (d':=s.drawn) (ch:=[it]) (λb hb=>?_) (λb o _ _ hc e _=>k b o (λz=>hc (by simp[z])) e) (λb o _ _ hc e _=>⟨o.slots,k b o (λz=>hc (by simp[z])) e⟩) (λ_ _ _ _ n=>n)
  (λb o hc e=>⟨o,k b o (λz=>hc (by simp[z])) e⟩) (λ_ _ e=>e) (λ_ _ _ e=>e) (λb ps e=>⟨#[],by rw[e];simp⟩) (λm hm=>?_) (λb u e=>?_) I.bare
 .have e:b=it:=by simpa using hb
  subst e;exact⟨h1,hL,h2,h3⟩
 .obtain⟨o,es,ep,ho,r⟩:=hm;exact⟨o,es,ep,k _ o (Ne.symm hL) ho,r⟩
 .refine(I.hok b u e).stay (λc v hc q=>k c v ?_ q) (λ_ q=>q) λ_ _ q=>q;rcases hc with z|z
  .rw[z];exact nit b u e
  .exact nit c _ z
def Inv.tok(I:Inv X pins σ H s)(t:Nat):Inv X pins σ H { s with toks:=t }:=I.un (h':=s.heap) (t':=t) Un.refl I.hok
def Inv.kept{t':Nat}(I:Inv X pins σ H s)(k:∀b u,s.heap.get? b=some u->h'.get? b=some u):Inv X pins σ H { s with heap:=h',toks:=t' }:=I.un (Un.kept k) (I.hok.kept k)
def Inv.laid{a:Addr}{o:HO}{t':Nat}(I:Inv X pins σ H s)(k:∀b u,s.heap.get? b=some u->h'.get? b=some u)(hp:s.heap.objs.size<=a)(new:ObjOk X.prog X.w (upd H a o) h' a o):
 Inv X pins σ (upd H a o) { s with heap:=h',toks:=t' }:=I.un (Un.laid k hp (I.hok.fresh hp)) (I.hok.laid k hp new)
def Inv.write{x e:Addr}{o:HO}{t':Nat}(I:Inv X pins σ H s)(mu:Mut (H x))(he:e=x∨H e=some (.own x))(k:∀b u,b≠e->s.heap.get? b=some u->h'.get? b=some u)(heo:∃u,h'.get? e=some u)
 (new:ObjOk X.prog X.w (upd H x o) h' x o):Inv X pins σ (upd H x o) { s with heap:=h',toks:=t' }:=I.un (Un.write mu he k heo) (I.hok.write mu he k heo new)
def Inv.pins_of{pins':List (Addr×Obj)}(I:Inv X pins σ H s)(h:∀p∈pins',s.heap.get? p.1=some p.2/\H p.1=none/\p.1≠X.env.locals/\p.1∉X.fs/\∀v,p.2.data≠.cell v):Inv X pins' σ H s:=
 ⟨I.ok,I.os,I.bare,I.base,I.loc,I.cell,I.free,I.freeC,λp hp=>(mem_append.mp hp).elim (λz=>I.pin p (mem_append_left _ z)) (h p),I.hok,I.len⟩
def Mo{N:List Str}(hN:N.Nodup){i j:Nat}{x:Str}(a:N[i]?=some x)(b:N[j]?=some x):i=j:=by
 obtain⟨h1,e1⟩:=List.getElem?_eq_some_iff.mp a;obtain⟨h2,e2⟩:=List.getElem?_eq_some_iff.mp b;exact(List.getElem_inj hN).mp (e1.trans e2.symm)
def Kc{M:Model}{A:Around}{E:Value->Shared->Prop}{i:Nat}{x:Str}{v:V}{u:Value}{Q:Unit->Shared->Prop}(I:Inv X pins σ H s)(hN:X.N.Nodup)(hi:X.N[i]?=some x)(hx:Loc X.env.scope x)(r:RelV v u)
 (h:∀s',Inv X pins (σ.set i (some v)) H s'->(∃a,Heap.SameBut a s.heap s'.heap/\(a=X.env.locals∨X.env.cells.lookup x=some a))->Q () s') (hf:X.fn x=true∨X.env.scope.names.lookup x=some .local:=by first|exact .inl rfl|exact .inr rfl|assumption):wpAny M A (storeName X.env x u) Q E s:=by
 obtain⟨m,hn,hl⟩:=id I.loc;have hcls:(X.env.scope.kind==.class||(X.env.scope.kind==.module&&X.env.locals != X.env.globals))=false:=by rw[I.ok.kind];rfl
 have hiσ:i<σ.length:=by rw[I.len];exact(List.getElem?_eq_some_iff.mp hi).1
 have cne:=I.cne;have tracked:∀{a:Addr} {h':Heap},(∃o,s.heap.get? a=some o/\H a=none)->Heap.SameBut a s.heap h'->HOk X.prog X.w H h':=λ{a h'} ha hs b ob e=>by
  obtain⟨_,_,hfree⟩:=ha;refine(I.hok b ob e).stay (λc w' hc q=>(hs.2 c ?_).trans q) (λ_ q=>q) λ_ _ q=>q;rintro rfl;rcases hc with rfl|hc
  .rw[hfree]at e;cases e
  .rw[hfree]at hc;cases hc
 rcases hx with hk|hk
 .refine wpAny_storeName_local hk hn (λh' hn' hs=>?_) hcls;obtain⟨oL,_,_,hoL,_⟩:=id hn;refine h _ ⟨I.ok,I.os,I.bare,⟨λb o e n hb hx=>?_,λb o e n hb hx=>?_,I.base.free,λb o e hx=>?_,I.base.tups,I.base.frzs,I.base.tbls⟩,⟨_,hn',λj y v' e1 e2 e3=>?_⟩,λy c e=>?_,I.free,I.freeC,λp hp=>?_,tracked ⟨oL,hoL,I.free⟩ hs,by simpa using I.len⟩ ⟨_,hs,.inl rfl⟩
  .exact(hs.2 b (ne_of_lt (lt_of_lt_of_le (Heap.lt_size e) I.ok.above))).trans (I.base.keep b o e n hb hx)
  .obtain⟨sl,e1⟩:=I.base.slot b o e n hb hx;exact⟨sl,(hs.2 b (ne_of_lt (lt_of_lt_of_le (Heap.lt_size e) I.ok.above))).trans e1⟩
  .obtain⟨o',e1⟩:=I.base.there b o e hx;exact⟨o',(hs.2 b (ne_of_lt (lt_of_lt_of_le (Heap.lt_size e) I.ok.above))).trans e1⟩
  .by_cases hj:j=i
   .subst hj;rw[hi]at e1;cases e1;rw[List.getElem?_set_self hiσ]at e2;cases e2;exact⟨u,r,.inl ⟨hk,by simp⟩⟩
   .rw[List.getElem?_set_ne (Ne.symm hj)]at e2;obtain⟨u',r',q⟩:=hl j y v' e1 e2 e3;refine⟨u',r',?_⟩;rcases q with⟨k,e⟩|⟨k,c,e,z⟩
    .refine .inl ⟨k,?_⟩;have:y≠x:=λe=>hj (Mo hN e1 (e ▸ hi));simp[this,e]
    .exact .inr ⟨k,c,e,z.sameBut hs (cne y c e)⟩
  .obtain⟨w',z⟩:=I.cell y c e;exact⟨w',z.sameBut hs (cne y c e)⟩
  .obtain⟨e,n,ne,nf,d⟩:=I.pin p hp;exact⟨(hs.2 p.1 ne).trans e,n,ne,nf,d⟩
 .have hfn:X.fn x=true:=by
   rcases hf with z|z
   .exact z
   .rw[z]at hk;cases hk
  obtain⟨c,hc⟩:=I.ok.has x (.inl hk);obtain⟨w',z⟩:=I.cell x c hc;refine wpAny_storeName_cell I.ok.kind hk hc z (λh' hc' hs=>?_);obtain⟨oc,hoc,hocd⟩:=id z;refine h { s with heap:=h' } ⟨I.ok,I.os,I.bare,⟨λb o e n hb hx=>?_,λb o e n hb hx=>?_,I.base.free,λb o e hx=>?_,I.base.tups,I.base.frzs,I.base.tbls⟩,⟨m,hn.sameBut hs (Ne.symm (cne x c hc)),λj y v' e1 e2 e3=>?_⟩,λy c' e=>?_,I.free,I.freeC,λp hp=>?_,tracked ⟨oc,hoc,I.freeC x c hc⟩ hs,by simpa using I.len⟩ ⟨c,hs,.inr hc⟩
  .exact(hs.2 b (ne_of_lt (lt_of_lt_of_le (Heap.lt_size e) (I.ok.cab x c hfn hc)))).trans (I.base.keep b o e n hb hx)
  .obtain⟨sl,e1⟩:=I.base.slot b o e n hb hx;exact⟨sl,(hs.2 b (ne_of_lt (lt_of_lt_of_le (Heap.lt_size e) (I.ok.cab x c hfn hc)))).trans e1⟩
  .obtain⟨o',e1⟩:=I.base.there b o e hx;exact⟨o',(hs.2 b (ne_of_lt (lt_of_lt_of_le (Heap.lt_size e) (I.ok.cab x c hfn hc)))).trans e1⟩
  .by_cases hj:j=i
   .subst hj;rw[hi]at e1;cases e1;rw[List.getElem?_set_self hiσ]at e2;cases e2;exact⟨u,r,.inr ⟨.inl hk,c,hc,hc'⟩⟩
   .rw[List.getElem?_set_ne (Ne.symm hj)]at e2;obtain⟨u',r',q⟩:=hl j y v' e1 e2 e3;refine⟨u',r',?_⟩;rcases q with q|⟨k,c',e,z'⟩
    .exact .inl q
    .refine .inr ⟨k,c',e,z'.sameBut hs ?_⟩;rintro rfl;exact hj (Mo hN e1 (I.ok.inj _ _ _ e hc ▸ hi))
  .by_cases hcc:c'=c
   .subst hcc;exact⟨_,hc'⟩
   .obtain⟨w2,z2⟩:=I.cell y c' e;exact⟨w2,z2.sameBut hs hcc⟩
  .obtain⟨e,n,ne,nf,d⟩:=I.pin p hp;refine⟨(hs.2 p.1 ?_).trans e,n,ne,nf,d⟩;intro q;rw[q,hoc]at e;have q':oc=p.2:=Option.some.inj e;exact d w' (by rw[<- q'];exact hocd)
def ID{M:Model}{A:Around}{E:Value->Shared->Prop}{i:Nat}{x:Str}{v:V}{u:Value}{Q:Unit->Shared->Prop}(I:Inv X pins σ H s)(hN:X.N.Nodup)(hi:X.N[i]?=some x)(hx:Loc X.env.scope x)(r:RelV v u)
 (h:∀s',Inv X pins (σ.set i (some v)) H s'->Q () s') (hf:X.fn x=true∨X.env.scope.names.lookup x=some .local:=by first|exact .inl rfl|exact .inr rfl|assumption):wpAny M A (storeName X.env x u) Q E s:=
 Kc I hN hi hx r (λs' I' _=>h s' I') hf
def Inv.call'{s':Shared}{ch:List Addr}(I:Inv X pins σ H s)(ho:s'.os=s.os)(u:Un (frs X.stack) ch H H' s.heap s'.heap)(hok:HOk X.prog X.w H' s'.heap)(hg:AllBare s'.gens)
 (hch:∀b∈ch,(b∈X.ex∨X.s₀.heap.objs.size<=b)/\b≠X.env.locals/\(∀x c,X.env.cells.lookup x=some c->c≠b)/\∀p∈X.pn++pins,p.1≠b):Inv X pins σ H' s':=by
 obtain⟨h',g',d',t',o'⟩:=s';have e:o'=s.os:=ho;subst e;exact I.call (g':=g') (t':=t') (d':=d') u hok hg hch
end
abbrev XK:=Value->Option Addr->Hp->Prop
abbrev St:=List (Option V)
abbrev VK:=V->Hp->Prop
abbrev TE:=St->Hp->VK->Prop
abbrev TT:=St->Hp->(Bool->Hp->Prop)->Prop
abbrev TA:=St->Hp->(List V->Hp->Prop)->Prop
structure Ends where
 nx:St->Hp->Prop
 rt:VK
 bk:St->Hp->Prop:=λ_ _=>False
 ct:St->Hp->Prop:=λ_ _=>False
abbrev TS:=Ends->St->Hp->Prop
def EP(X:Cx)(pins:List (Addr×Obj))(σ:St)(Q:VK)(u:Value)(s':Shared):Prop:=∃v H',Inv X pins σ H' s'/\RelV v u/\Q v H'
def TP(X:Cx)(pins:List (Addr×Obj))(σ:St)(Q:Bool->Hp->Prop)(b:Bool)(s':Shared):Prop:=∃H',Inv X pins σ H' s'/\Q b H'
def AP(X:Cx)(pins:List (Addr×Obj))(σ:St)(Q:List V->Hp->Prop)(us:List Value)(s':Shared):Prop:=∃vs H',Inv X pins σ H' s'/\Vals vs us/\Q vs H'
def SP(X:Cx)(pins:List (Addr×Obj))(D:Ends)(f:Flow)(s':Shared):Prop:=
 match f with
 |.next=>∃σ' H',Inv X pins σ' H' s'/\D.nx σ' H'
 |.brk=>∃σ' H',Inv X pins σ' H' s'/\D.bk σ' H'
 |.cont=>∃σ' H',Inv X pins σ' H' s'/\D.ct σ' H'
 |.ret u=>∃v σ' H',Inv X pins σ' H' s'/\RelV v u/\D.rt v H'
def PE(X:Cx)(e:Expr)(t:TE):Prop:=
 ∀(pins:List (Addr×Obj)) (s:Shared) (σ:St) (H:Hp) (Q:VK),Inv X pins σ H s->t σ H Q->wpAny (model X.prog X.w) X.A (eval e X.env) (EP X pins σ Q) X.xe s
def PT(X:Cx)(e:Expr)(t:TT):Prop:=
 ∀(pins:List (Addr×Obj)) (s:Shared) (σ:St) (H:Hp) (Q:Bool->Hp->Prop),Inv X pins σ H s->t σ H Q->wpAny (model X.prog X.w) X.A (isTrue e X.env (eval e X.env)) (TP X pins σ Q) X.xe s
def PW(X:Cx)(e:Expr)(t:TT):Prop:=
 ∀(whole:Sem Value) (pins:List (Addr×Obj)) (s:Shared) (σ:St) (H:Hp) (Q:Bool->Hp->Prop),Inv X pins σ H s->t σ H Q->wpAny (model X.prog X.w) X.A (isTrue e X.env whole) (TP X pins σ Q) X.xe s
def PW.pt{X:Cx}{e:Expr}{t:TT}(h:PW X e t):PT X e t:=h _
def PA(X:Cx)(es:List Expr)(t:TA):Prop:=
 ∀(pos:Pos) (pins:List (Addr×Obj)) (s:Shared) (σ:St) (H:Hp) (Q:List V->Hp->Prop),Inv X pins σ H s->t σ H Q->wpAny (model X.prog X.w) X.A (spliced (backTo pos (starEach es X.env))) (AP X pins σ Q) X.xe s
def PS(X:Cx)(st:Stmt)(t:TS):Prop:=
 ∀(pins:List (Addr×Obj)) (s:Shared) (σ:St) (H:Hp) (D:Ends),Inv X pins σ H s->t D σ H->wpAny (model X.prog X.w) X.A (exec st X.env) (SP X pins D) X.xe s
def PSs(X:Cx)(st:List Stmt)(t:TS):Prop:=
 ∀(pins:List (Addr×Obj)) (s:Shared) (σ:St) (H:Hp) (D:Ends),Inv X pins σ H s->t D σ H->wpAny (model X.prog X.w) X.A (execs st X.env) (SP X pins D) X.xe s
def thn{α:Type}{t:Sem α}{Q Q':α->Shared->Prop}{M:Model}{A:Around}{E:Value->Shared->Prop}{s:Shared}(h:wpAny M A t Q E s)(hQ:∀a s,Q a s->Q' a s):wpAny M A t Q' E s:=wpAny_mono h hQ λ_ _ x=>x
section
variable{X:Cx}
def bin{a b:Expr}{ta tb:TE}(ha:PE X a ta)(hb:PE X b tb){pins:List (Addr×Obj)}{s:Shared}{σ:St}{H:Hp}{R:V->V->Hp->Prop}(I:Inv X pins σ H s)(h:ta σ H λx H1=>tb σ H1 λy H2=>R x y H2)
 {α:Type} {Q:α->Shared->Prop} {f:Value->Value->Sem α}
 (hf:∀v u s2 x y H2,Inv X pins σ H2 s2->RelV x v->RelV y u->R x y H2->wpAny (model X.prog X.w) X.A (f v u) Q X.xe s2):
 wpAny (model X.prog X.w) X.A (eval a X.env) (λv s₁=>wpAny (model X.prog X.w) X.A (eval b X.env) (λu s₂=>wpAny (model X.prog X.w) X.A (f v u) Q X.xe s₂) X.xe s₁) X.xe s:=by
 refine thn (ha pins s σ H _ I h) λv s1 ⟨x,H1,I1,r1,q1⟩=>?_;refine thn (hb pins s1 σ H1 _ I1 q1) λu s2 ⟨y,H2,I2,r2,q2⟩=>?_;exact hf v u s2 x y H2 I2 r1 r2 q2
def Ss(i:Nat):TE:=λσ H Q=>∃v,σ[i]?=some (some v)/\Q v H
def tC(v:V):TE:=λ_ H Q=>Q v H
def aJ{i:Nat}{x:Str}{pos:Pos}(hN:X.N[i]?=some x)(hv:Vis X.env.scope x)(hd:(x==("__debug__":Str))=false:=by decide)(hcd:(x==("__classdict__":Str))=false:=by decide):PE X (.Name x pos) (Ss i):=by
 intro pins s σ H Q I h;obtain⟨v,e,h⟩:=h;obtain⟨m,hn,hl⟩:=I.loc;obtain⟨u,r,l⟩:=hl i x v hN e hv;have fin:EP X pins σ Q u s:=⟨v,H,I,r,h⟩
 rcases l with⟨hk,hm⟩|⟨hk,c,hc,hcell⟩
 .exact wpAny_Name (wpAny_loadName_local I.ok.kind hk hn hm fin) hd
 .rcases hk with hk|hk
  .exact wpAny_Name (wpAny_loadName_cell I.ok.kind hk hc hcell fin) hd
  .exact wpAny_Name (wpAny_loadName_free I.ok.kind hk hc hcell fin hcd) hd
def aR{i j pos}:PE X (.Constant (.int i) j pos) (tC (.int i)):=λ_ _ _ H _ I h=>wpAny_Constant_int ⟨.int i,H,I.tok _,⟨_,rfl⟩,h⟩
def cM{b j pos}:PE X (.Constant (.bool b) j pos) (tC (.bl b)):=λ_ _ _ H _ I h=>Constant_bool ⟨.bl b,H,I,rfl,h⟩
def aO{j pos}:PE X (.Constant .none j pos) (tC .non):=λ_ _ _ H _ I h=>Constant_none ⟨.non,H,I,rfl,h⟩
def aL{x j pos}:PE X (.Constant (.str x) j pos) (tC (.str x)):=λ_ _ _ H _ I h=>Calls.Constant_str ⟨.str x,H,I.tok _,⟨_,rfl⟩,h⟩
def Gl(X:Cx)(x:Str):Prop:=X.env.kindOf x=some .globalImplicit
def OE{E:Value->Shared->Prop}{pins:List (Addr×Obj)}{s:Shared}{σ:St}{H:Hp}{x:Str}{u:Value}{pos:Pos}{Q:Value->Shared->Prop}(I:Inv X pins σ H s)(hg:Gl X x)(hm:X.mg x=some u)(h:Q u s)
 (hd:(x==("__debug__":Str))=false:=by decide):wpAny (model X.prog X.w) X.A (eval (.Name x pos) X.env) Q E s:=
 Calls.Name_function_global I.ok.kind hg (Calls.loadGlobal_global (by rw[I.ok.glob];exact I.mod.glob.keeps I.bk) hm h) hd
def DL{E:Value->Shared->Prop}{pins:List (Addr×Obj)}{s:Shared}{σ:St}{H:Hp}{x:Str}{u:Value}{pos:Pos}{Q:Value->Shared->Prop}(I:Inv X pins σ H s)(hg:Gl X x)(hm:X.mg x=none)(hv:bootBuiltins x=some u)(h:Q u s)
 (hn:x≠"__name__":=by decide) (hd:(x==("__debug__":Str))=false:=by decide):wpAny (model X.prog X.w) X.A (eval (.Name x pos) X.env) Q E s:=by
 obtain⟨mb,h1,h2⟩:=I.mod.blt;exact Calls.Name_function_global I.ok.kind hg (Calls.loadGlobal_builtin (by rw[I.ok.glob];exact I.mod.glob.keeps I.bk) hm (by rw[I.ok.blt];exact h1.keeps I.bk) ((h2 x hn).trans hv) h) hd
variable{a b:Expr}{ta tb:TE}{pos:Pos}
def PC(X:Cx)(op:CmpOp)(a b:Expr)(t:TE):Prop:=
 ∀(pins:List (Addr×Obj)) (s:Shared) (σ:St) (H:Hp) (Q:VK),Inv X pins σ H s->t σ H Q ->
   wpAny (model X.prog X.w) X.A (eval a X.env) (λv s₁=>wpAny (model X.prog X.w) X.A (eval b X.env) (λu s₂=>wpAny (model X.prog X.w) X.A (compareOp op v u) (EP X pins σ Q) X.xe s₂) X.xe s₁) X.xe s
def UR(b:Expr){op:CmpOp}(h:op≠.In)(h2:op≠.NotIn):behindInMarks op b=false:=by
 have e1:(op==CmpOp.In)=false:=by cases op<;>first|rfl|exact absurd rfl h
 have e2:(op==CmpOp.NotIn)=false:=by cases op<;>first|rfl|exact absurd rfl h2
 cases b<;>simp[behindInMarks,e1,e2]
def T1(ta:TE):TE:=λσ H Q=>ta σ H λx H1=>Q (.bl (decide (x=.non))) H1
def RelV.none_iff{x:V}{v:Value}(r:RelV x v):(v==Value.none)=decide (x=.non):=by
 cases x with
 |non=>cases r;rfl
 |bl _=>cases r;rfl
 |int _=>obtain⟨t,rfl⟩:=r;rfl
 |str _=>obtain⟨t,rfl⟩:=r;rfl
 |byt _=>obtain⟨t,rfl⟩:=r;rfl
 |flt _=>obtain⟨t,rfl⟩:=r;rfl
 |ref _=>cases r;rfl
 |ty _=>cases r;rfl
def aV{j pos'}(ha:PE X a ta):PC X .Is a (.Constant .none j pos') (T1 ta):=by
 intro pins s σ H Q I h;refine thn (ha pins s σ H _ I h) λv s1 ⟨x,H1,I1,r1,q1⟩=>?_;exact Constant_none (is_none_gen ⟨.bl _,H1,I1,by rw[r1.none_iff];rfl,q1⟩)
def tB(t:TE):TT:=λσ H Q=>t σ H λx H1=>∃c,x=.bl c/\Q c H1
def Mi{op:CmpOp}{t:TE}(h:PC X op a b t)(h1:behindInMarks op b=false:=by first|exact UR _ (by decide) (by decide)|rfl):PT X (.Compare a [op] [b] pos) (tB t):=by
 intro pins s σ H Q I hw;refine wpAny_isTrue_Compare1 (thn (h pins s σ H _ I hw) λv s1 h1=>thn h1 λu s2 h2=>thn h2 λc s3 ⟨x,H1,I1,r1,q1⟩=>?_) h1;obtain⟨d,rfl,q⟩:=q1;cases r1;exact wpAny_truthy_bool ⟨H1,I1,q⟩
variable{tA tB':TT}{rest:List Expr}
def T7(t u:TT):TT:=λσ H Q=>t σ H λc H1=>if c=true then u σ H1 Q else Q false H1
def tOr(t u:TT):TT:=λσ H Q=>t σ H λc H1=>if c=true then Q true H1 else u σ H1 Q
def Sy(t:TT):TT:=λσ H Q=>t σ H λc H1=>Q (!c) H1
def XD(ha:PT X a tA):PW X (.BoolOp .And [a] pos) tA:=by
 intro wh pins s σ H Q I h;refine isTrue_and (thn (ha pins s σ H Q I h) λc s1 e=>?_);cases c with
 |true=>exact isTrue_and_nil e
 |false=>exact e
def Zz(ha:PT X a tA):PW X (.BoolOp .Or [a] pos) tA:=by
 intro wh pins s σ H Q I h;refine isTrue_or (thn (ha pins s σ H Q I h) λc s1 e=>?_);cases c with
 |false=>exact isTrue_or_nil e
 |true=>exact e
def a7(ha:PT X a tA)(hb:PW X (.BoolOp .And (b::rest) pos) tB'):PW X (.BoolOp .And (a::b::rest) pos) (T7 tA tB'):=by
 intro wh pins s σ H Q I h;refine isTrue_and (thn (ha pins s σ H _ I h) λc s1 ⟨H1,I1,q1⟩=>?_);cases c with
 |true=>exact hb wh pins s1 σ H1 Q I1 q1
 |false=>exact⟨H1,I1,q1⟩
def cI(ha:PT X a tA)(hb:PW X (.BoolOp .Or (b::rest) pos) tB'):PW X (.BoolOp .Or (a::b::rest) pos) (tOr tA tB'):=by
 intro wh pins s σ H Q I h;refine isTrue_or (thn (ha pins s σ H _ I h) λc s1 ⟨H1,I1,q1⟩=>?_);cases c with
 |true=>exact⟨H1,I1,q1⟩
 |false=>exact hb wh pins s1 σ H1 Q I1 q1
def a8(ha:PT X a tA):PT X (.UnaryOp .Not a pos) (Sy tA):=by
 intro pins s σ H Q I h;exact isTrue_not (ha pins s σ H (λc H1=>Q (!c) H1) I h)
def Oq(ta tb:TE):TE:=λσ H Q=>ta σ H λx H1=>∃c,x=.bl c/\if c=true then tb σ H1 Q else Q (.bl false) H1
def On(ta:TE):TE:=λσ H Q=>ta σ H λx H1=>∃c,x=.bl c/\Q (.bl (!c)) H1
def aM{op}{t:TE}(h:PE X a t):PE X (.BoolOp op [a] pos) t:=λpins s σ H Q I hw=>BoolOp_one (h pins s σ H Q I hw)
def aT(ha:PE X a ta)(hb:PE X (.BoolOp .And (b::rest) pos) tb):PE X (.BoolOp .And (a::b::rest) pos) (Oq ta tb):=by
 intro pins s σ H Q I h;refine BoolOp_and (thn (ha pins s σ H _ I h) λv s1 ⟨x,H1,I1,r1,q1⟩=>?_);obtain⟨c,rfl,q1⟩:=q1;cases r1;refine wpAny_truthy_bool ?_;cases c with
 |true=>exact hb pins s1 σ H1 Q I1 q1
 |false=>exact⟨.bl false,H1,I1,rfl,q1⟩
def aN(ha:PE X a ta):PE X (.UnaryOp .Not a pos) (On ta):=by
 intro pins s σ H Q I h;refine UnaryOp_ (thn (ha pins s σ H _ I h) λv s1 ⟨x,H1,I1,r1,q1⟩=>?_);obtain⟨c,rfl,q1⟩:=q1;cases r1;exact not_of (wpAny_truthy_bool ⟨.bl (!c),H1,I1,rfl,q1⟩)
def tIf(t:TT)(ta tb:TE):TE:=λσ H Q=>t σ H λc H1=>if c=true then ta σ H1 Q else tb σ H1 Q
def UG{c:Expr}(hc:PT X c tA)(ha:PE X a ta)(hb:PE X b tb):PE X (.IfExp c a b pos) (tIf tA ta tb):=by
 intro pins s σ H Q I h;refine wpAny_IfExp (thn (hc pins s σ H _ I h) λd s1 ⟨H1,I1,q1⟩=>?_);cases d with
 |true=>exact ha pins s1 σ H1 Q I1 q1
 |false=>exact hb pins s1 σ H1 Q I1 q1
end
def SqL(K:PySem.W.Frag)(H:Hp)(a:Addr)(xs:List V):Prop:=
 Rd H a (.lst xs) ∨
  ∃(o:Obj) (its:Array Value) (n:Nat),K.lookup a=some o/\o.cls=.type "list"/\o.dict=none/\o.data=.seq its n/\its.size<=sizeLine/\Vals xs its.toList
def SqT(K:PySem.W.Frag)(H:Hp)(a:Addr)(xs:List V):Prop:=
 Rd H a (.tup xs) ∨
  ∃(o:Obj) (its:Array Value) (n:Nat),K.lookup a=some o/\o.cls=.type "tuple"/\o.dict=none/\o.data=.seq its n/\its.size<=sizeLine/\Vals xs its.toList
def dg:Value->Option V
 |.none=>some .non
 |.bool b=>some (.bl b)
 |.int i _=>some (.int i)
 |.str x _=>some (.str x)
 |.bytes b _=>some (.byt b)
 |.float b _=>some (.flt b)
 |.ref a=>some (.ref a)
 |.type n=>some (.ty n)
 |_=>none
def RelV.abs{x:V}{u:Value}(r:RelV x u):dg u=some x:=by
 cases x with
 |non=>cases r;rfl
 |bl _=>cases r;rfl
 |int _=>obtain⟨t,rfl⟩:=r;rfl
 |str _=>obtain⟨t,rfl⟩:=r;rfl
 |byt _=>obtain⟨t,rfl⟩:=r;rfl
 |flt _=>obtain⟨t,rfl⟩:=r;rfl
 |ref _=>cases r;rfl
 |ty _=>cases r;rfl
def RelV.inj{x y:V}{u:Value}(r:RelV x u)(q:RelV y u):x=y:=Option.some.inj (r.abs.symm.trans q.abs)
def Vals.inj:∀{xs ys:List V} {us:List Value},Vals xs us->Vals ys us->xs=ys
 |_,_,_,.nil,.nil=>rfl
 |_,_,_,.cons r t,.cons r' t'=>by rw[r.inj r',Vals.inj t t']
section
variable{X:Cx}{pins:List (Addr×Obj)}{σ:St}{H:Hp}{s:Shared}{a:Addr}{xs ys:List V}
def SqL.of{K:PySem.W.Frag}(h:H a=some (.lst xs)):SqL K H a xs:=.inl (.inl h)
def SqT.of{K:PySem.W.Frag}(h:H a=some (.tup xs)):SqT K H a xs:=.inl (.inl h)
def Inv.list(I:Inv X pins σ H s)(h:SqL X.K H a xs):∃its:List Value,Vals xs its/\PlainL s.heap a its.toArray/\xs.length<=sizeLine:=by
 rcases h with h|⟨o,its,n,hk,hc,hd,hs,hz,r⟩
 .obtain⟨z,its,n,r,e⟩:=h.ok I.hok;exact⟨its,r,⟨_,n,e,rfl,rfl,rfl⟩,z⟩
 .refine⟨its.toList,r,⟨o,n,I.kIn a o hk,hc,hd,by simpa using hs⟩,?_⟩;have e:=r.length;simp only[Array.length_toList]at e;omega
def Inv.tuple(I:Inv X pins σ H s)(h:SqT X.K H a xs):∃its:List Value,Vals xs its/\IsTup s.heap a its.toArray/\xs.length<=sizeLine:=by
 rcases h with h|⟨o,its,n,hk,hc,_,hs,hz,r⟩
 .obtain⟨z,its,r,p⟩:=h.ok I.hok;exact⟨its,r,p.t,z⟩
 .refine⟨its.toList,r,⟨o,I.kIn a o hk,hc,n,by simpa using hs⟩,?_⟩;have e:=r.length;simp only[Array.length_toList]at e;omega
def Inv.list_inj(I:Inv X pins σ H s)(h:SqL X.K H a xs)(h':SqL X.K H a ys):xs=ys:=by
 obtain⟨its,r,⟨o,n,e,_,_,d⟩,_⟩:=I.list h;obtain⟨its',r',⟨o',n',e',_,_,d'⟩,_⟩:=I.list h';rw[e]at e';cases e';rw[d]at d'
 injection d' with d1 _
 have:its=its':=by simpa using congrArg Array.toList d1
 subst this;exact r.inj r'
def Inv.tuple_inj(I:Inv X pins σ H s)(h:SqT X.K H a xs)(h':SqT X.K H a ys):xs=ys:=by
 obtain⟨its,r,⟨o,e,_,n,d⟩,_⟩:=I.tuple h;obtain⟨its',r',⟨o',e',_,n',d'⟩,_⟩:=I.tuple h';rw[e]at e';cases e';rw[d]at d'
 injection d' with d1 _
 have:its=its':=by simpa using congrArg Array.toList d1
 subst this;exact r.inj r'
end
abbrev Cx.wish(X:Cx)(E:Value->Shared->Prop):Cx:={ X with xe:=E }
abbrev Cx.nox(X:Cx):Cx:=X.wish λ_ _=>False
def Cx.Ok.wish{X:Cx}(ok:X.Ok)(E:Value->Shared->Prop):(X.wish E).Ok:=
 ⟨ok.mod,ok.kind,ok.glob,ok.blt,ok.above,ok.inj,ok.has,ok.cab,ok.hd,ok.frames,ok.stk,ok.exf,ok.bs,ok.bsz,ok.noex,ok.exfs,ok.funs,ok.frf⟩
def Cx.Ok.unwish{X:Cx}{E:Value->Shared->Prop}(ok:(X.wish E).Ok):X.Ok:=
 ⟨ok.mod,ok.kind,ok.glob,ok.blt,ok.above,ok.inj,ok.has,ok.cab,ok.hd,ok.frames,ok.stk,ok.exf,ok.bs,ok.bsz,ok.noex,ok.exfs,ok.funs,ok.frf⟩
section
variable{X:Cx}{pins:List (Addr×Obj)}{σ:St}{H:Hp}{s:Shared}{E:Value->Shared->Prop}
def Inv.wish(I:Inv X pins σ H s)(E:Value->Shared->Prop):Inv (X.wish E) pins σ H s:=⟨I.ok.wish E,I.os,I.bare,I.base,I.loc,I.cell,I.free,I.freeC,I.pin,I.hok,I.len⟩
def Inv.unwish(I:Inv (X.wish E) pins σ H s):Inv X pins σ H s:=⟨I.ok.unwish,I.os,I.bare,I.base,I.loc,I.cell,I.free,I.freeC,I.pin,I.hok,I.len⟩
def SP.unwish{D:Ends}{f:Flow}{s':Shared}(h:SP (X.wish E) pins D f s'):SP X pins D f s':=by
 cases f with
 |next=>obtain⟨σ',H',I,q⟩:=h;exact⟨σ',H',I.unwish,q⟩
 |brk=>obtain⟨σ',H',I,q⟩:=h;exact⟨σ',H',I.unwish,q⟩
 |cont=>obtain⟨σ',H',I,q⟩:=h;exact⟨σ',H',I.unwish,q⟩
 |ret u=>obtain⟨v,σ',H',I,r,q⟩:=h;exact⟨v,σ',H',I.unwish,r,q⟩
def PSs.nox{st:List Stmt}{t:TS}(h:PSs X.nox st t):PSs X st t:=λpins s σ H D I hw=>
 wpAny_mono (h pins s σ H D (I.wish _) hw) (λ_ _ q=>q.unwish) λ_ _ z=>False.elim z
end
section
variable{X:Cx}{st:Stmt}{rest:List Stmt}{t u:TS}{e:Expr}{te:TE}{pos:Pos}
def Iy:TS:=λD σ H=>D.nx σ H
def Sv(t u:TS):TS:=λD σ H=>t { D with nx:=u D } σ H
def XF:PSs X [] Iy:=λ_ _ σ H _ I h=>wpAny_execs_nil ⟨σ,H,I,h⟩
def U9(h1:PS X st t)(h2:PSs X rest u):PSs X (st::rest) (Sv t u):=by
 intro pins s σ H D I h;refine wpAny_execs_cons (thn (h1 pins s σ H { D with nx:=u D } I h) λf s1 q=>?_);cases f with
 |next=>
  obtain⟨σ',H',I',q⟩:=q;exact h2 pins s1 σ' H' D I' q
 |ret v=>exact q
 |brk=>exact q
 |cont=>exact q
def XE(h1:PS X st t):PSs X [st] t:=by
 intro pins s σ H D I h;refine wpAny_execs_cons (thn (h1 pins s σ H D I h) λf s1 q=>?_);cases f with
 |next=>exact wpAny_execs_nil q
 |ret v=>exact q
 |brk=>exact q
 |cont=>exact q
def XH:PS X (.Pass pos) Iy:=λ_ _ σ H _ I h=>wpAny_Pass ⟨σ,H,I,h⟩
def Inv.quiet{pins:List (Addr×Obj)}{σ:St}{H:Hp}{s:Shared}(I:Inv X pins σ H s):interactive X.env=false:=by simp[interactive,I.ok.kind]
def Oo(te:TE):TS:=λD σ H=>te σ H λ_ H1=>D.nx σ H1
def XI(he:PE X e te)(hs:swapsWith e none pos.line X.env=pure false:=by rfl):PS X (.Expr e pos) (Oo te):=by
 intro pins s σ H D I h;exact wpAny_Expr_any (thn (he pins s σ H _ I h) λv s1 ⟨x,H1,I1,r1,q1⟩=>⟨σ,H1,I1,q1⟩) I.quiet hs
def Sw(te:TE):TS:=λD σ H=>te σ H D.rt
def aA(he:PE X e te):PS X (.Return (some e) pos) (Sw te):=by
 intro pins s σ H D I h;exact wpAny_Return_some (thn (he pins s σ H _ I h) λv s1 ⟨x,H1,I1,r1,q1⟩=>⟨x,σ,H1,I1,r1,q1⟩)
def T2(c:TT)(t u:TS):TS:=λD σ H=>c σ H λb H1=>if b=true then t D σ H1 else u D σ H1
def cJ{c:Expr}{a b:List Stmt}{tc:TT}(hc:PT X c tc)(ha:PSs X a t)(hb:PSs X b u):PS X (.If c a b pos) (T2 tc t u):=by
 intro pins s σ H D I h;refine wpAny_If (thn (hc pins s σ H _ I h) λd s1 ⟨H1,I1,q1⟩=>?_);cases d with
 |true=>exact ha pins s1 σ H1 D I1 q1
 |false=>exact hb pins s1 σ H1 D I1 q1
def M3:TS:=λ_ _ _=>False
def UB:PS X st M3:=λ_ _ _ _ _ _ h=>h.elim
end
abbrev TG:=V->St->Hp->(St->Hp->Prop)->Prop
abbrev TGs:=List V->St->Hp->(St->Hp->Prop)->Prop
def PG(X:Cx)(target:Expr)(t:TG):Prop:=
 ∀(pins:List (Addr×Obj)) (s:Shared) (σ:St) (H:Hp) (v:V) (u:Value) (Q:St->Hp->Prop),Inv X pins σ H s->RelV v u->t v σ H Q ->
   wpAny (model X.prog X.w) X.A (assign target X.env u) (λ_ s'=>∃σ' H',Inv X pins σ' H' s'/\Q σ' H') X.xe s
def PGs(X:Cx)(ts:List Expr)(t:TGs):Prop:=
 ∀(pins:List (Addr×Obj)) (s:Shared) (σ:St) (H:Hp) (vs:List V) (us:List Value) (Q:St->Hp->Prop),Inv X pins σ H s->Vals vs us->t vs σ H Q ->
   wpAny (model X.prog X.w) X.A (assignInOrder ((assignEach ts X.env).map (·.2)) us) (λ_ s'=>∃σ' H',Inv X pins σ' H' s'/\Q σ' H') X.xe s
abbrev V6:=V->V->V->Hp->(Hp->Prop)->Prop
def bg(X:Cx)(t:V6):Prop:=
 ∀(pins:List (Addr×Obj)) (s:Shared) (σ:St) (H:Hp) (o i v:V) (ov iv u:Value) (Q:Hp->Prop),Inv X pins σ H s->RelV o ov->RelV i iv->RelV v u->t o i v H Q ->
   wpAny (model X.prog X.w) X.A (setItem ov iv u) (λ_ s'=>∃H',Inv X pins σ H' s'/\Q H') X.xe s
abbrev TIp:=V->V->Hp->VK->Prop
def PIp(X:Cx)(op:Operator)(t:TIp):Prop:=
 ∀(pins:List (Addr×Obj)) (s:Shared) (σ:St) (H:Hp) (x y:V) (v u:Value) (Q:VK),Inv X pins σ H s->RelV x v->RelV y u->t x y H Q ->
   wpAny (model X.prog X.w) X.A (inplaceOp op v u) (EP X pins σ Q) X.xe s
section
variable{X:Cx}{pos:Pos}
def Dj(i:Nat):TG:=λv σ H Q=>Q (σ.set i (some v)) H
def XT{i:Nat}{x:Str}(hN:X.N.Nodup)(hi:X.N[i]?=some x)(hx:Loc X.env.scope x)(hf:X.fn x=true∨X.env.scope.names.lookup x=some .local:=by first|exact .inl rfl|exact .inr rfl|assumption):PG X (.Name x pos) (Dj i):=by
 intro pins s σ H v u Q I r h;exact wpAny_assign_Name (ID I hN hi hx r (λs' I'=>⟨_,H,I',h⟩) hf)
def Uq:TGs:=λvs σ H Q=>vs=[]/\Q σ H
def Po(t:TG)(u:TGs):TGs:=λvs σ H Q=>∃v r,vs=v::r/\t v σ H λσ' H'=>u r σ' H' Q
def XR:PGs X [] Uq:=by
 intro pins s σ H vs us Q I r h;obtain⟨e,h⟩:=h;subst e;cases r;exact assignInOrder_nil ⟨σ,H,I,h⟩
def UD{e:Expr}{es:List Expr}{t:TG}{u:TGs}(h1:PG X e t)(h2:PGs X es u)
 (hs:(assignEach (e::es) X.env).map (·.2)=assign e X.env::(assignEach es X.env).map (·.2):=by rfl):PGs X (e::es) (Po t u):=by
 intro pins s σ H vs us Q I r h;obtain⟨v,vr,e1,h⟩:=h;subst e1;cases r with
 |cons r rr=>
  rw[hs];refine assignInOrder_cons (thn (h1 pins s σ H _ _ _ I r h) λ_ s1 ⟨σ1,H1,I1,q1⟩=>?_);exact h2 pins s1 σ1 H1 _ _ Q I1 rr q1
def Pl(K:PySem.W.Frag)(n:Nat)(t:TGs):TG:=λv σ H Q=>∃a xs,v=.ref a/\SqT K H a xs/\xs.length=n/\t xs σ H Q
def aF{es:List Expr}{k:Nat}{t:TGs}{n:Nat}(hc:X.calm=true)(h:PGs X es t)
 (hn:(assignEach es X.env).length=n:=by rfl) (hst:(assignEach es X.env).findIdx? (·.1)=none:=by rfl):PG X (.Tuple es k pos) (Pl X.K n t):=by
 intro pins s σ H v u Q I r hw;obtain⟨a,xs,e1,hq,hl,hw⟩:=hw;subst e1;cases r;obtain⟨its,rv,ht,hz⟩:=I.tuple hq;refine assign_Tuple_tuple (I.ok.hd hc) ht (by simp[hn,<- hl,rv.length]) hst λh' hx=>?_;have I1:Inv X pins σ H { s with heap:=h' }:=I.kept (t':=s.toks) λb o e=>hx b o (ne_of_lt (Heap.lt_size e)) e;exact h pins _ σ H xs _ Q I1 (by simpa using rv) hw
def Uo(to ti:TE)(t:V6):TG:=λv σ H Q=>to σ H λo H1=>ti σ H1 λi H2=>t o i v H2 λH3=>Q σ H3
def aG{o i:Expr}{to ti:TE}{t:V6}(ho:PE X o to)(hi:PE X i ti)(hs:bg X t)
 (ha:∀v,assign (.Subscript o i pos) X.env v=(do
  let ov <- holding [v] (eval o X.env)
  let iv <- holding [v,ov] (eval i X.env)
  standAt pos
  holding [v,ov,iv] (setItem ov iv v)
  release [v,ov,iv] []):=by intro _;rfl):PG X (.Subscript o i pos) (Uo to ti t):=by
 intro pins s σ H v u Q I r h;rw[ha];refine wpAny_bind (wpAny_holding (thn (ho pins s σ H _ I h) λov s1 ⟨x,H1,I1,r1,q1⟩=>?_));refine wpAny_bind (wpAny_holding (thn (hi pins s1 σ H1 _ I1 q1) λiv s2 ⟨y,H2,I2,r2,q2⟩=>?_));refine wpAny_bind (wpAny_standAt (wpAny_bind (wpAny_holding (thn (hs pins s2 σ H2 x y v ov iv u _ I2 r1 r2 r q2) λ_ s3 ⟨H3,I3,q3⟩=>?_))));exact wpAny_release ⟨σ,H3,I3,q3⟩
def EQ(te:TE)(g:TG):TS:=λD σ H=>te σ H λx H1=>g x σ H1 D.nx
def RQ{tg e:Expr}{te:TE}{g:TG}(he:PE X e te)(hg:PG X tg g)(hs:swapsWithSole [tg] e pos.line X.env=pure false:=by rfl)(hw:swappedStores [tg] e X.env=pure none:=by rfl)
 (h1:(assignEach [tg] X.env).map (·.2)=[assign tg X.env]:=by rfl):PS X (.Assign [tg] e pos) (EQ te g):=by
 intro pins s σ H D I h;refine wpAny_Assign_stores (thn (he pins s σ H _ I h) λv s1 ⟨x,H1,I1,r1,q1⟩=>?_) hs hw;rw[h1];exact thn (hg pins s1 σ H1 x v _ I1 r1 q1) λ_ s2 q=>q
def a9{i:Nat}{x:Str}{e:Expr}{te:TE}{pos':Pos}(hN:X.N.Nodup)(hi:X.N[i]?=some x)(hx:Loc X.env.scope x)(he:PE X e te)(hs:swapsWith e (some (.Name x pos')) pos.line X.env=pure false:=by rfl)(hf:X.fn x=true∨X.env.scope.names.lookup x=some .local:=by first|exact .inl rfl|exact .inr rfl|assumption):
 PS X (.Assign [.Name x pos'] e pos) (EQ te (Dj i)):=by
 intro pins s σ H D I h;refine wpAny_Assign_Name (thn (he pins s σ H _ I h) λv s1 ⟨y,H1,I1,r1,q1⟩=>?_) hs;exact ID I1 hN hi hx r1 (λs2 I2=>⟨_,H1,I2,q1⟩) hf
def T6(i:Nat)(te:TE)(ti:TIp):TS:=λD σ H=>∃x,σ[i]?=some (some x)/\te σ H λy H1=>ti x y H1 λz H2=>D.nx (σ.set i (some z)) H2
def aC{i:Nat}{x:Str}{e:Expr}{te:TE}{op:Operator}{ti:TIp}{pos':Pos}(hN:X.N.Nodup)(hi:X.N[i]?=some x)(hx:Loc X.env.scope x)(he:PE X e te)(ho:PIp X op ti)(hf:X.fn x=true∨X.env.scope.names.lookup x=some .local:=by first|exact .inl rfl|exact .inr rfl|assumption):
 PS X (.AugAssign (.Name x pos') op e pos) (T6 i te ti):=by
 intro pins s σ H D I h;obtain⟨v,e1,h⟩:=h;obtain⟨m,hn,hl⟩:=I.loc;have vis:Vis X.env.scope x:=by rcases hx with k|k;exact .inl k;exact .inr (.inl k)
 obtain⟨u,r,l⟩:=hl i x v hi e1 vis;refine wpAny_AugAssign_Name ?_;have go:wpAny (model X.prog X.w) X.A (eval e X.env) (λw s₂=>wpAny (model X.prog X.w) X.A (inplaceOp op u w) (λr s₃=>wpAny (model X.prog X.w) X.A (storeName X.env x r) (λ_=>SP X pins D .next) X.xe s₃) X.xe s₂) X.xe s:=by
  refine thn (he pins s σ H _ I h) λw s1 ⟨y,H1,I1,r1,q1⟩=>?_;refine thn (ho pins s1 σ H1 v y u w _ I1 r r1 q1) λz s2 ⟨zv,H2,I2,r2,q2⟩=>?_;exact ID I2 hN hi hx r2 (λs3 I3=>⟨_,H2,I3,q2⟩) hf
 rcases l with⟨hk,hm⟩|⟨hk,c,hc,hcell⟩
 .exact wpAny_loadName_local I.ok.kind hk hn hm go
 .rcases hk with hk|hk
  .exact wpAny_loadName_cell I.ok.kind hk hc hcell go
  .rcases hx with k|k
   .have:X.env.scope.names.lookup x=some .free:=hk;rw[k]at this;cases this
   .have:X.env.scope.names.lookup x=some .free:=hk;rw[k]at this;cases this
end
section
variable{X:Cx}{pos:Pos}
def M2(c:TT)(tb:TS):TS:=λD σ H=>∃W:Nat->St->Hp->Prop,(∃m,W m σ H)/\∀m σ H,W m σ H ->
 c σ H λb H1=>if b=true then ∃N:St->Hp->Prop,(∀σ' H',N σ' H'->∃m',m'<m/\W m' σ' H')/\tb { D with nx:=N,ct:=N,bk:=D.nx } σ H1 else D.nx σ H1
def UA{c:Expr}{body:List Stmt}{tc:TT}{tb:TS}(hp:PassesOwn (model X.prog X.w) X.A X.env X.xe)(hc:PT X c tc)(hb:PSs X body tb):PS X (.While c body [] pos) (M2 tc tb):=by
 intro pins s σ H D I h;obtain⟨W,⟨m0,w0⟩,turn⟩:=h;refine wpAny_While (codeAny_whileLoop (λn s'=>∃σ' H',Inv X pins σ' H' s'/\W n σ' H') ?_ m0 ⟨σ,H,I,w0⟩);rintro n s1 ⟨σ1,H1,I1,w1⟩;refine wpAny_passesOwn hp (thn (hc pins s1 σ1 H1 _ I1 (turn n σ1 H1 w1)) λb s2 ⟨H2,I2,q2⟩=>?_);cases b with
 |true=>
  obtain⟨N,hN,q2⟩:=q2;rw[if_pos rfl];refine wpAny_passesOwn hp (thn (hb pins s2 σ1 H2 _ I2 q2) λf s3 q3=>?_);cases f with
  |next=>
   obtain⟨σ3,H3,I3,n3⟩:=q3;obtain⟨m',hm,w3⟩:=hN σ3 H3 n3;exact⟨m',hm,σ3,H3,I3,w3⟩
  |cont=>
   obtain⟨σ3,H3,I3,n3⟩:=q3;obtain⟨m',hm,w3⟩:=hN σ3 H3 n3;exact⟨m',hm,σ3,H3,I3,w3⟩
  |brk=>exact q3
  |ret v=>exact q3
 |false=>
  rw[if_neg Bool.false_ne_true];exact wpAny_execs_nil ⟨σ1,H2,I2,q2⟩
end
structure It where
 go:Nat->Hp->Prop
 yld:Nat->Hp->V->Hp->Prop
 stop:Nat->Hp->Prop
def FpOk(X:Cx)(pins:List (Addr×Obj))(H:Hp)(b:Addr):Prop:=
 H b=none/\b≠X.env.locals/\b∉X.fs/\(b∈X.ex∨X.s₀.heap.objs.size<=b)/\(∀x c,X.env.cells.lookup x=some c->c≠b)/\∀p∈X.pn++pins,p.1≠b
def Inv.fpOk{X:Cx}{pins:List (Addr×Obj)}{σ:St}{H H':Hp}{s:Shared}{b:Addr}(I:Inv X pins σ H s)(hb:s.heap.objs.size<=b)(hn:H' b=none):FpOk X pins H' b:=by
 refine⟨hn,ne_of_gt (lt_of_lt_of_le I.lt hb),I.nofs hb,.inr (le_trans I.sz hb),λx c e z=>?_,λp hp z=>?_⟩
 .obtain⟨v,q⟩:=I.cell x c e;exact absurd (lt_of_lt_of_le q.lt (by rw[z];exact hb)) (lt_irrefl _)
 .exact absurd (lt_of_lt_of_le (Heap.lt_size (I.pin p hp).1) (by rw[z];exact hb)) (lt_irrefl _)
structure Turn(P:Program)(w:World)(K:PySem.W.Frag)(tg:Expr)(J:It)(fp:List Addr)(it:Addr)(tn:Nat->Heap->Prop):Prop where
 mem:it∈fp
 obj:∀i h,tn i h->∀b∈fp,∃o,h.get? b=some o/\∀v,o.data≠.cell v
 keep:∀i h h',tn i h->(∀b∈fp,∀o,h.get? b=some o->h'.get? b=some o)->tn i h'
 item:∀(X:Cx),X.prog=P->X.w=w->X.K=K->X.calm=true->∀(i:Nat) (pins:List (Addr×Obj)) (s:Shared) (σ:St) (H:Hp) (E:Value->Shared->Prop),Inv X pins σ H s->(∀b∈fp,FpOk X pins H b)->tn i s.heap->J.go i H ->
  wpAny (model P w) X.A (pyNext (.ref it)) (λr s1=>∃u,r=some u /\
   wpAny (model P w) X.A (letOwnedTupleGo tg (.ref it) u) (λ_ s2=>∃x H',Inv X pins σ H' s2/\RelV x u/\J.yld i H x H'/\tn (i+1) s2.heap/\∀b∈fp,H' b=none) E s1) E s
 done:∀(X:Cx),X.prog=P->X.w=w->X.K=K->X.calm=true->∀(i:Nat) (pins:List (Addr×Obj)) (s:Shared) (σ:St) (H:Hp) (E:Value->Shared->Prop),Inv X pins σ H s->(∀b∈fp,FpOk X pins H b)->tn i s.heap->J.stop i H ->
  wpAny (model P w) X.A (pyNext (.ref it)) (λr s1=>r=none/\Inv X pins σ H s1) E s
 self:∀(A:Around) (i:Nat) (s:Shared) (Q:Value->Shared->Prop) (E:Value->Shared->Prop),tn i s.heap->Q (.ref it) s->wpAny (model P w) A (pyIter (.ref it)) Q E s
abbrev TI:=St->Hp->(It->Hp->Prop)->Prop
def PIE(X:Cx)(pins:List (Addr×Obj))(σ:St)(tg:Expr)(R:It->Hp->Prop)(itv:Value)(s2:Shared):Prop:=
 ∃(it:Addr) (fp:List Addr) (tn:Nat->Heap->Prop) (J:It) (H':Hp),itv=.ref it/\Inv X pins σ H' s2/\Turn X.prog X.w X.K tg J fp it tn/\tn 0 s2.heap/\(∀b∈fp,FpOk X pins H' b)/\R J H'
def PI(X:Cx)(tg iter:Expr)(wi:TI):Prop:=
 ∀(pins:List (Addr×Obj)) (s:Shared) (σ:St) (H:Hp) (R:It->Hp->Prop),Inv X pins σ H s->wi σ H R ->
   wpAny (model X.prog X.w) X.A (eval iter X.env) (λv s1=>wpAny (model X.prog X.w) X.A (pyIter v) (PIE X pins σ tg R) X.xe s1) X.xe s
def Pk{M:Model}{A:Around}{E:Value->Shared->Prop}{s:Shared}{tg:Expr}{it:Addr}{u:Value}{o:Obj}{n:String}{vs:Array Value}{Q:Unit->Shared->Prop}(ho:s.heap.get? it=some o)(hc:o.cls=.type n)(hd:o.data=.fields vs)
 (hn:["enumerate","zip","dict_itemiterator","dict_reverseitemiterator","odict_iterator","itertools.zip_longest","itertools.pairwise"].contains n=false) (hQ:Q () s):wpAny M A (letOwnedTupleGo tg (.ref it) u) Q E s:=by
 unfold letOwnedTupleGo;cases tg<;>first
  |exact wpAny_pure hQ
  | (cases u<;>first
   |exact wpAny_pure hQ
   | (refine wpAny_bind (wpAny_load ho ?_)
      rw[hc,hd];show wpAny M A (if(["enumerate","zip","dict_itemiterator","dict_reverseitemiterator","odict_iterator","itertools.zip_longest","itertools.pairwise"].contains n&&vs[0]?==some (rawInt _))=true then _ else _) Q E s;rw[if_neg (by intro h;rw[hn,Bool.false_and]at h;cases h)];exact wpAny_pure hQ))
def Itl(K:PySem.W.Frag)(a:Addr):It:=
 ⟨λi H=>∃xs x,SqL K H a xs/\xs[i]?=some x,λi H x H'=>H'=H/\∀xs,SqL K H a xs->xs[i]?=some x,λi H=>∃xs,SqL K H a xs/\xs.length<=i⟩
def Itt(K:PySem.W.Frag)(a:Addr):It:=
 ⟨λi H=>∃xs x,SqT K H a xs/\xs[i]?=some x,λi H x H'=>H'=H/\∀xs,SqT K H a xs->xs[i]?=some x,λi H=>∃xs,SqT K H a xs/\xs.length<=i⟩
def Itr(lo:Int)(n:Nat):It:=⟨λi _=>i<n,λi H x H'=>H'=H/\x=.int (lo+i),λi _=>n<=i⟩
def QP{P:Program}{w:World}{K:PySem.W.Frag}{tg:Expr}(a it:Addr):Turn P w K tg (Itl K a) [it] it (λi h=>h.IsListIter it a i) where
 mem:=by simp
 obj:=λi h st b hb=>by
  have e:b=it:=by simpa using hb
  subst e;obtain⟨o,e,c,d⟩:=st;exact⟨o,e,λv z=>by rw[d]at z;cases z⟩
 keep:=λi h h' st k=>st.at λo e=>k it (by simp) o e
 item:=by
  intro X hP hw hK hc i pins s σ H E I hf st hg;subst hP hw hK;obtain⟨xs,x,hq,hx⟩:=hg;obtain⟨its,rv,p,hz⟩:=I.list hq;obtain⟨u,hu,ru⟩:=rv.get hx;obtain⟨f0,f1,f2,f3,f4,f5⟩:=hf it (by simp);refine wpAny_pyNext_list_item st p.isList (x:=u) (by simpa using hu) λh' st' sb=>?_;have I1:Inv X pins σ H { s with heap:=h' }:=I.turned (t':=s.toks) (λb o hb e=>(sb.2 b hb).trans e) f0 f1 f3 f4 f5;obtain⟨o,e,c,d⟩:=id st';exact⟨u,rfl,Pk (s:={ s with heap:=h' }) e c d (by decide) ⟨x,H,I1,ru,⟨rfl,λys hy=>by rw[I.list_inj hy hq];exact hx⟩,st',λb hb=>(hf b hb).1⟩⟩
 done:=by
  intro X hP hw hK hc i pins s σ H E I hf st hg;subst hP hw hK;obtain⟨xs,hq,hx⟩:=hg;obtain⟨its,rv,p,hz⟩:=I.list hq;obtain⟨f0,f1,f2,f3,f4,f5⟩:=hf it (by simp);have hl:=rv.length;exact wpAny_pyNext_list_end (I.ok.hd hc) st p.isList (by simp;omega) λh' eb=>⟨rfl,I.turned (t':=s.toks) (λb o hb e=>eb b o hb e) f0 f1 f3 f4 f5⟩
 self:=λ_ _ _ _ _ st h=>wpAny_pyIter_listiter st h
def Oi{P:Program}{w:World}{K:PySem.W.Frag}{tg:Expr}(a it:Addr):Turn P w K tg (Itt K a) [it] it (λi h=>h.IsTupleIter it a i) where
 mem:=by simp
 obj:=λi h st b hb=>by
  have e:b=it:=by simpa using hb
  subst e;obtain⟨o,e,c,d⟩:=st;exact⟨o,e,λv z=>by rw[d]at z;cases z⟩
 keep:=λi h h' st k=>st.at λo e=>k it (by simp) o e
 item:=by
  intro X hP hw hK hc i pins s σ H E I hf st hg;subst hP hw hK;obtain⟨xs,x,hq,hx⟩:=hg;obtain⟨its,rv,p,hz⟩:=I.tuple hq;obtain⟨u,hu,ru⟩:=rv.get hx;obtain⟨f0,f1,f2,f3,f4,f5⟩:=hf it (by simp);refine wpAny_pyNext_tuple_item st (show s.heap.IsTuple a its.toArray from p) (x:=u) (by simpa using hu) λh' st' sb=>?_;have I1:Inv X pins σ H { s with heap:=h' }:=I.turned (t':=s.toks) (λb o hb e=>(sb.2 b hb).trans e) f0 f1 f3 f4 f5;obtain⟨o,e,c,d⟩:=id st';exact⟨u,rfl,Pk (s:={ s with heap:=h' }) e c d (by decide) ⟨x,H,I1,ru,⟨rfl,λys hy=>by rw[I.tuple_inj hy hq];exact hx⟩,st',λb hb=>(hf b hb).1⟩⟩
 done:=by
  intro X hP hw hK hc i pins s σ H E I hf st hg;subst hP hw hK;obtain⟨xs,hq,hx⟩:=hg;obtain⟨its,rv,p,hz⟩:=I.tuple hq;obtain⟨f0,f1,f2,f3,f4,f5⟩:=hf it (by simp);have hl:=rv.length;exact wpAny_pyNext_tuple_end (I.ok.hd hc) st (show s.heap.IsTuple a its.toArray from p) (by simp;omega) λh' eb=>⟨rfl,I.turned (t':=s.toks) (λb o hb e=>eb b o hb e) f0 f1 f3 f4 f5⟩
 self:=λ_ _ _ _ _ st h=>wpAny_pyIter_tupleiter st h
def Oj{P:Program}{w:World}{K:PySem.W.Frag}{tg:Expr}(it:Addr)(lo:Int)(n:Nat):Turn P w K tg (Itr lo n) [it] it (λi h=>IsRangeIter h it (lo+(i:Nat)*1) ((n:Int)-(i:Nat)) 1) where
 mem:=by simp
 obj:=λi h st b hb=>by
  have e:b=it:=by simpa using hb
  subst e;exact⟨_,st,λv z=>by
   have z':Data.fields _=Data.cell v:=z;cases z'⟩
 keep:=λi h h' st k=>k it (by simp) _ st
 item:=by
  intro X hP hw hK hc i pins s σ H E I hf st hg;subst hP hw hK;obtain⟨f0,f1,f2,f3,f4,f5⟩:=hf it (by simp);have W:=Walks.range (prog:=X.prog) (w:=X.w) (I.ok.hd hc) it lo 1 n;refine W.item i s _ _ hg st λv h' tk hv st' kk=>?_;obtain⟨t,rfl⟩:=hv;have I1:Inv X pins σ H { s with heap:=h',toks:=tk }:=I.turned (λb o hb e=>kk b o (by simpa using hb) e) f0 f1 f3 f4 f5;refine⟨_,rfl,Pk (s:={ s with heap:=h',toks:=tk }) (n:="range_iterator") st' rfl rfl (by decide) ⟨.int (lo+i),H,I1,⟨t,?_⟩,⟨rfl,rfl⟩,st',λb hb=>(hf b hb).1⟩⟩;rw[Int.mul_one]
 done:=by
  intro X hP hw hK hc i pins s σ H E I hf st hg;subst hP hw hK;obtain⟨f0,f1,f2,f3,f4,f5⟩:=hf it (by simp);exact wpAny_pyNext_range_end (I.ok.hd hc) st (by have:n<=i:=hg;omega) λh' eb=>⟨rfl,I.turned (t':=s.toks) (λb o hb e=>eb b o hb e) f0 f1 f3 f4 f5⟩
 self:=λ_ _ _ _ _ st h=>wpAny_pyIter_rangeiter st h
section
variable{X:Cx}{tg:Expr}
def Fw(K:PySem.W.Frag)(tl:TE):TI:=λσ H R=>tl σ H λx H1=>∃a,x=.ref a/\(∃xs,SqL K H1 a xs)/\R (Itl K a) H1
def N1(K:PySem.W.Frag)(tl:TE):TI:=λσ H R=>tl σ H λx H1=>∃a,x=.ref a/\(∃xs,SqT K H1 a xs)/\R (Itt K a) H1
def XQ{l:Expr}{tl:TE}(hl:PE X l tl):PI X tg l (Fw X.K tl):=by
 intro pins s σ H R I h;refine thn (hl pins s σ H _ I h) λv s1 ⟨x,H1,I1,r1,q1⟩=>?_;obtain⟨a,e,⟨xs,hq⟩,q⟩:=q1;subst e;cases r1;obtain⟨its,rv,p,hz⟩:=I1.list hq;refine wpAny_pyIter_list p.isList ?_;refine⟨s1.heap.objs.size,[s1.heap.objs.size],_,_,H1,rfl,I1.kept (t':=s1.toks) λb o e=>Heap.get?_push_of_some _ e,QP a _,⟨_,Heap.get?_push_size _ rfl,rfl,rfl⟩,λb hb=>?_,q⟩;have e:b=s1.heap.objs.size:=by simpa using hb
 subst e;exact I1.fpOk (le_refl _) (I1.hok.fresh (le_refl _))
def aE{l:Expr}{tl:TE}(hl:PE X l tl):PI X tg l (N1 X.K tl):=by
 intro pins s σ H R I h;refine thn (hl pins s σ H _ I h) λv s1 ⟨x,H1,I1,r1,q1⟩=>?_;obtain⟨a,e,⟨xs,hq⟩,q⟩:=q1;subst e;cases r1;obtain⟨its,rv,p,hz⟩:=I1.tuple hq;refine wpAny_pyIter_tuple (show s1.heap.IsTuple a its.toArray from p) ?_;refine⟨s1.heap.objs.size,[s1.heap.objs.size],_,_,H1,rfl,I1.kept (t':=s1.toks) λb o e=>Heap.get?_push_of_some _ e,Oi a _,⟨_,Heap.get?_push_size _ rfl,rfl,rfl⟩,λb hb=>?_,q⟩;have e:b=s1.heap.objs.size:=by simpa using hb
 subst e;exact I1.fpOk (le_refl _) (I1.hok.fresh (le_refl _))
def Mb{pins:List (Addr×Obj)}{σ:St}{H:Hp}{s:Shared}{R:It->Hp->Prop}{E:Value->Shared->Prop}{lo hi:Int}{t u v:Tok}{tk:Nat}(I:Inv X pins σ H s)(h1:-(2^62)<=lo)(h2:lo<2^62)(h3:-(2^62)<=hi)(h4:hi<2^62)
 (q:R (Itr lo (hi-lo).toNat) H):wpAny (model X.prog X.w) X.A (pyIter (.ref s.heap.objs.size)) (PIE X pins σ tg R) E { s with heap:=s.heap.push { cls:=.type "range",data:=.fields #[.int lo t,.int hi u,.int 1 v] },toks:=tk }:=by
 refine wpAny_pyIter_range (IsRange.new ..) (small_one h1 h2 h3 h4) ?_;have I1:Inv X pins σ H { s with heap:=s.heap.push { cls:=.type "range",data:=.fields #[.int lo t,.int hi u,.int 1 v] },toks:=tk }:=I.kept λb o e=>Heap.get?_push_of_some _ e;refine⟨(s.heap.push { cls:=.type "range",data:=.fields #[.int lo t,.int hi u,.int 1 v] }).objs.size,[(s.heap.push { cls:=.type "range",data:=.fields #[.int lo t,.int hi u,.int 1 v] }).objs.size],_,_,H,rfl,
  I1.kept (t':=tk) λb o e=>Heap.get?_push_of_some _ e,Oj _ lo (hi-lo).toNat,?_,λb hb=>?_,q⟩
 .have e1:lo+((0:Nat):Int)*1=lo:=by simp
  have e2:(((hi-lo).toNat:Nat):Int)-((0:Nat):Int)=Builtin.Range.rangeSize lo hi 1:=by rw[rangeSize_one];split<;>omega
  show IsRangeIter _ _ (lo+((0:Nat):Int)*1) ((((hi-lo).toNat:Nat):Int)-((0:Nat):Int)) 1;rw[e1,e2];exact Heap.get?_push_size _ rfl
 .have e:b=(s.heap.push { cls:=.type "range",data:=.fields #[.int lo t,.int hi u,.int 1 v] }).objs.size:=by simpa using hb
  subst e;exact I1.fpOk (le_refl _) (I1.hok.fresh (le_refl _))
def Pj(ta:TA):TI:=λσ H R=>ta σ H λvs H1=>∃j:Int,vs=[.int j]/\-(2^62)<=j/\j<2^62/\R (Itr 0 j.toNat) H1
def Pi(ta:TA):TI:=λσ H R=>ta σ H λvs H1=>∃i j:Int,vs=[.int i,.int j]/\(-(2^62)<=i/\i<2^62/\-(2^62)<=j/\j<2^62)/\R (Itr i (j-i).toNat) H1
def RW{a:Expr}{ta:TA}{p pos:Pos}(hg:Gl X "range")(hm:X.mg "range"=none)(ha:PA X [a] ta)(hs:starEach [a] X.env=[(false,eval a X.env)]:=by rfl):PI X tg (.Call (.Name "range" p) [a] [] pos) (Pj ta):=by
 intro pins s σ H R I h;refine Call_ (DL I hg hm boot_range (PyProof.Rows.callWith_type1 (thn (ha pos pins s σ H _ I h) λus s1 ⟨vs,H1,I1,r1,q1⟩=>?_) hs rfl));obtain⟨j,e,q1,q2,q⟩:=q1;subst e;cases r1 with
 |cons r rr=>
  cases rr;obtain⟨t,rfl⟩:=r;exact call_range_1 (Mb I1 (by omega) (by omega) q1 q2 (by simpa using q))
def RV{a b:Expr}{ta:TA}{p pos:Pos}(hg:Gl X "range")(hm:X.mg "range"=none)(ha:PA X [a,b] ta)(hs:starEach [a,b] X.env=[(false,eval a X.env),(false,eval b X.env)]:=by rfl)(hs2:starEach [b] X.env=[(false,eval b X.env)]:=by rfl):
 PI X tg (.Call (.Name "range" p) [a,b] [] pos) (Pi ta):=by
 intro pins s σ H R I h;refine Call_ (DL I hg hm boot_range (PyProof.Rows.callWith_type1 (thn (ha pos pins s σ H _ I h) λus s1 ⟨vs,H1,I1,r1,q1⟩=>?_) (by rw[hs,hs2]) (by rw[hs2];rfl)));obtain⟨i,j,e,⟨q1,q2,q3,q4⟩,q⟩:=q1;subst e;cases r1 with
 |cons r rr=>
  cases rr with
  |cons r' rr=>
   cases rr;obtain⟨t,rfl⟩:=r;obtain⟨t',rfl⟩:=r';exact call_range_2 (Mb I1 q1 q2 q3 q4 q)
def T3(wi:TI)(g:TG)(tb:TS):TS:=λD σ H=>wi σ H λJ H1=>∃W:Nat->Nat->St->Hp->Prop,(∃m,W 0 m σ H1)/\∀i m σ H,W i m σ H ->
 (J.stop i H/\D.nx σ H)∨(J.go i H/\∃N:St->Hp->Prop,(∀σ' H',N σ' H'->∃m',m'<m/\W (i+1) m' σ' H')/\∀x H',J.yld i H x H'->g x σ H' λσ2 H2=>tb { D with nx:=N,ct:=N,bk:=D.nx } σ2 H2)
def EV(fp:List Addr)(h:Heap):List (Addr×Obj):=fp.filterMap λb=>(h.get? b).map λo=>(b,o)
def Br{fp:List Addr}{h:Heap}{b:Addr}{o:Obj}(hb:b∈fp)(e:h.get? b=some o):(b,o)∈EV fp h:=List.mem_filterMap.mpr ⟨b,hb,by rw[e];rfl⟩
def Rh{fp:List Addr}{h:Heap}{p:Addr×Obj}(hp:p∈EV fp h):p.1∈fp/\h.get? p.1=some p.2:=by
 obtain⟨b,hb,e⟩:=List.mem_filterMap.mp hp;cases q:h.get? b with
 |none=>rw[q]at e;cases e
 |some o=>
  rw[q]at e;have e':(b,o)=p:=Option.some.inj e;subst e';exact⟨hb,q⟩
def Inv.pinned{pins:List (Addr×Obj)}{σ:St}{H:Hp}{s:Shared}{fp:List Addr}(I:Inv X pins σ H s)(hf:∀b∈fp,FpOk X pins H b)(ho:∀b∈fp,∃o,s.heap.get? b=some o/\∀v,o.data≠.cell v):Inv X (pins++EV fp s.heap) σ H s:=
 I.pins_of λp hp=>(mem_append.mp hp).elim (λz=>I.pin p (mem_append_right _ z)) λz=>by
  obtain⟨hb,e⟩:=Rh z;obtain⟨f0,f1,f2,_⟩:=hf p.1 hb;obtain⟨o,e',d⟩:=ho p.1 hb;rw[e]at e';cases e';exact⟨e,f0,f1,f2,d⟩
def Inv.unpinned{pins pl:List (Addr×Obj)}{σ:St}{H:Hp}{s:Shared}(I:Inv X (pins++pl) σ H s):Inv X pins σ H s:=I.pins_of λp hp=>I.pin p (mem_append_right _ (mem_append_left _ hp))
def aB{iter:Expr}{body:List Stmt}{wi:TI}{g:TG}{tb:TS}{pos:Pos}(hp:PassesOwn (model X.prog X.w) X.A X.env X.xe)(hc:X.calm=true)(hi:PI X tg iter wi)(hg:PG X tg g)(hb:PSs X body tb)
 (hs:∀x,foldedSetIterable iter X.env x=pure x:=by intro _;rfl):PS X (.For tg iter body [] pos) (T3 wi g tb):=by
 intro pins s σ H D I h;refine wpAny_For (thn (hi pins s σ H _ I h) λv s1 h1=>thn h1 λitv s2 h2=>?_) hs;obtain⟨it,fp,tn,J,H2,e,I2,T,st2,f2,W,⟨m0,w0⟩,turn⟩:=h2;subst e
 -- what stays true of the iterator's objects through the loop
 have stat:∀{H':Hp},(∀b∈fp,H' b=none)->∀b∈fp,FpOk X pins H' b:=λhn b hb=>⟨hn b hb,(f2 b hb).2⟩
 refine codeAny_forLoop_any (λn s'=>∃i σ' H',Inv X pins σ' H' s'/\tn i s'.heap/\(∀b∈fp,H' b=none)/\W i n σ' H') ?_ m0 ⟨0,σ,H2,I2,st2,λb hb=>(f2 b hb).1,w0⟩;rintro n s3 ⟨i,σ3,H3,I3,st3,fr3,w3⟩;rcases turn i n σ3 H3 w3 with⟨stop,qn⟩|⟨go,N,hN,step⟩
 .refine wpAny_passesOwn hp (thn (T.done X rfl rfl rfl hc i pins s3 σ3 H3 X.xe I3 (stat fr3) st3 stop) λr s4 ⟨hr,I4⟩=>?_);subst hr;exact wpAny_execs_nil ⟨σ3,H3,I4,qn⟩
 .refine wpAny_passesOwn hp (thn (T.item X rfl rfl rfl hc i pins s3 σ3 H3 X.xe I3 (stat fr3) st3 go) λr s4 ⟨u,hr,h4⟩=>?_);subst hr;refine wpAny_passesOwn hp (thn h4 λ_ s5 ⟨x,H5,I5,r5,y5,st5,fr5⟩=>?_);have I5':=I5.pinned (stat fr5) (T.obj _ _ st5);refine wpAny_passesOwn hp (thn (hg _ s5 σ3 H5 x u _ I5' r5 (step x H5 y5)) λ_ s6 ⟨σ6,H6,I6,q6⟩=>?_);refine wpAny_passesOwn hp (thn (hb _ s6 σ6 H6 _ I6 q6) λf s7 q7=>?_);have again:∀{σ7:St} {H7:Hp},Inv X (pins++EV fp s5.heap) σ7 H7 s7->N σ7 H7->∃m,m<n/\∃i σ' H',Inv X pins σ' H' s7/\tn i s7.heap/\(∀b∈fp,H' b=none)/\W i m σ' H':=λ{σ7 H7} I7 n7=>by
   obtain⟨m',hm,w7⟩:=hN σ7 H7 n7;refine⟨m',hm,i+1,σ7,H7,I7.unpinned,T.keep _ _ _ st5 λb hb o e=>(I7.pin (b,o) (mem_append_right _ (mem_append_right _ (Br hb e)))).1,λb hb=>?_,w7⟩;obtain⟨o,e,d⟩:=T.obj _ _ st5 b hb;exact(I7.pin (b,o) (mem_append_right _ (mem_append_right _ (Br hb e)))).2.1
  cases f with
  |next=>obtain⟨σ7,H7,I7,n7⟩:=q7;exact again I7 n7
  |cont=>obtain⟨σ7,H7,I7,n7⟩:=q7;exact again I7 n7
  |brk=>obtain⟨σ7,H7,I7,q7⟩:=q7;exact⟨σ7,H7,I7.unpinned,q7⟩
  |ret v=>obtain⟨x7,σ7,H7,I7,r7,q7⟩:=q7;exact⟨x7,σ7,H7,I7.unpinned,r7,q7⟩
end
abbrev R2:=V->V->Hp->VK->Prop
def OpR(X:Cx)(f:Value->Value->Sem Value)(r:R2):Prop:=
 ∀(pins:List (Addr×Obj)) (s:Shared) (σ:St) (H:Hp) (x y:V) (v u:Value) (Q:VK),Inv X pins σ H s->RelV x v->RelV y u->r x y H Q ->
   wpAny (model X.prog X.w) X.A (f v u) (EP X pins σ Q) X.xe s
def UnR(X:Cx)(f:Value->Sem Value)(r:V->Hp->VK->Prop):Prop:=
 ∀(pins:List (Addr×Obj)) (s:Shared) (σ:St) (H:Hp) (x:V) (v:Value) (Q:VK),Inv X pins σ H s->RelV x v->r x H Q ->
   wpAny (model X.prog X.w) X.A (f v) (EP X pins σ Q) X.xe s
def CallR(X:Cx)(f:Value)(r:List V->Hp->VK->Prop):Prop:=
 ∀(pins:List (Addr×Obj)) (s:Shared) (σ:St) (H:Hp) (xs:List V) (us:List Value) (Q:VK),Inv X pins σ H s->Vals xs us->r xs H Q ->
   wpAny (model X.prog X.w) X.A (call f us) (EP X pins σ Q) X.xe s
def dh(X:Cx)(r:V->Hp->(Bool->Hp->Prop)->Prop):Prop:=
 ∀(pins:List (Addr×Obj)) (s:Shared) (σ:St) (H:Hp) (x:V) (v:Value) (Q:Bool->Hp->Prop),Inv X pins σ H s->RelV x v->r x H Q ->
   wpAny (model X.prog X.w) X.A (truthy v) (TP X pins σ Q) X.xe s
def tOp(r:R2)(ta tb:TE):TE:=λσ H Q=>ta σ H λx H1=>tb σ H1 λy H2=>r x y H2 Q
def tUn(r:V->Hp->VK->Prop)(ta:TE):TE:=λσ H Q=>ta σ H λx H1=>r x H1 Q
def rI(C:Int->Int->Prop)(g:Int->Int->V):R2:=λx y H Q=>∃i j,x=.int i/\y=.int j/\C i j/\Q (g i j) H
def rI0(g:Int->Int->V):R2:=λx y H Q=>∃i j,x=.int i/\y=.int j/\Q (g i j) H
def rU(g:Int->V):V->Hp->VK->Prop:=λx H Q=>∃i,x=.int i/\Q (g i) H
section
variable{X:Cx}{a b c:Expr}{ta tb tc:TE}{pos:Pos}
def V2(ha:PE X a ta)(hb:PE X b tb){pins:List (Addr×Obj)}{s:Shared}{σ:St}{H:Hp}{R:V->V->Hp->Prop}(I:Inv X pins σ H s)
 (h:ta σ H λx H1=>tb σ H1 λy H2=>R x y H2) {Q:Value->Shared->Prop} {f:Value->Value->Sem Value}
 (hf:∀v u s2 x y H2,Inv X pins σ H2 s2->RelV x v->RelV y u->R x y H2->wpAny (model X.prog X.w) X.A (f v u) Q X.xe s2):
 wpAny (model X.prog X.w) X.A (eval a X.env) (λv s₁=>wpAny (model X.prog X.w) X.A (eval b X.env) (λu s₂=>wpAny (model X.prog X.w) X.A (f v u) Q X.xe s₂) X.xe s₁) X.xe s:=by
 refine thn (ha pins s σ H _ I h) λv s1 ⟨x,H1,I1,r1,q1⟩=>?_;refine thn (hb pins s1 σ H1 _ I1 q1) λu s2 ⟨y,H2,I2,r2,q2⟩=>?_;exact hf v u s2 x y H2 I2 r1 r2 q2
def PQ{op:Operator}{r:R2}(ho:OpR X (binaryOp op) r)(ha:PE X a ta)(hb:PE X b tb):PE X (.BinOp a op b pos) (tOp r ta tb):=by
 intro pins s σ H Q I h;exact wpAny_BinOp (V2 ha hb I h λv u s2 x y H2 I2 rx ry q=>ho pins s2 σ H2 x y v u Q I2 rx ry q)
def cK{op:UnaryOp}{r:V->Hp->VK->Prop}(ho:UnR X (unaryOp op) r)(ha:PE X a ta):PE X (.UnaryOp op a pos) (tUn r ta):=by
 intro pins s σ H Q I h;exact UnaryOp_ (thn (ha pins s σ H _ I h) λv s1 ⟨x,H1,I1,r1,q1⟩=>ho pins s1 σ H1 x v Q I1 r1 q1)
def opI{f:Value->Value->Sem Value}{C:Int->Int->Prop}{g:Int->Int->Int}
 (rule:∀(i j:Int) (t u:Tok) (s:Shared) (Q:Value->Shared->Prop) (E:Value->Shared->Prop),C i j->Q (.int (g i j) s.toks) { s with toks:=s.toks+1 }->wpAny (model X.prog X.w) X.A (f (.int i t) (.int j u)) Q E s):
 OpR X f (rI C λi j=>.int (g i j)):=by
 intro pins s σ H x y v u Q I rx ry h;obtain⟨i,j,rfl,rfl,hc,q⟩:=h;obtain⟨t,rfl⟩:=rx;obtain⟨t',rfl⟩:=ry;exact rule i j t t' s _ _ hc ⟨.int (g i j),H,I.tok _,⟨_,rfl⟩,q⟩
def UO{f:Value->Value->Sem Value}{g:Int->Int->Int}
 (rule:∀(i j:Int) (t u:Tok) (s:Shared) (Q:Value->Shared->Prop) (E:Value->Shared->Prop),Q (.int (g i j) s.toks) { s with toks:=s.toks+1 }->wpAny (model X.prog X.w) X.A (f (.int i t) (.int j u)) Q E s):
 OpR X f (rI0 λi j=>.int (g i j)):=by
 intro pins s σ H x y v u Q I rx ry h;obtain⟨i,j,rfl,rfl,q⟩:=h;obtain⟨t,rfl⟩:=rx;obtain⟨t',rfl⟩:=ry;exact rule i j t t' s _ _ ⟨.int (g i j),H,I.tok _,⟨_,rfl⟩,q⟩
def PV{f:Value->Value->Sem Value}{g:Int->Int->Bool}
 (rule:∀(i j:Int) (t u:Tok) (s:Shared) (Q:Value->Shared->Prop) (E:Value->Shared->Prop),Q (.bool (g i j)) s->wpAny (model X.prog X.w) X.A (f (.int i t) (.int j u)) Q E s):
 OpR X f (rI0 λi j=>.bl (g i j)):=by
 intro pins s σ H x y v u Q I rx ry h;obtain⟨i,j,rfl,rfl,q⟩:=h;obtain⟨t,rfl⟩:=rx;obtain⟨t',rfl⟩:=ry;exact rule i j t t' s _ _ ⟨.bl (g i j),H,I,rfl,q⟩
def bi(i j:Int):Prop:=0<j/\j<1073741824
def Q6(i j:Int):Prop:=0<=j/\j<=1000000/\i.natAbs<2^64
def CMul(i j:Int):Prop:=(-(2^64)<i/\i<2^64)∨(-(2^64)<j/\j<2^64)
def CMul.ok{i j:Int}(h:CMul i j):IntMulOk i j:=by
 rcases h with⟨h1,h2⟩|⟨h1,h2⟩
 .exact .of_left (intBits_le_64 h1 h2)
 .exact .of_right (intBits_le_64 h1 h2)
def Oh(k:Nat):(0:Int)<=2^k:=by
 rw[two_pow_cast];exact Int.natCast_nonneg _
def ai:OpR X (binaryOp .Add) (rI0 λi j=>.int (i+j)):=UO λ_ _ _ _ _ _ _ q=>add_int q
def aX:OpR X (binaryOp .Sub) (rI0 λi j=>.int (i-j)):=UO λ_ _ _ _ _ _ _ q=>sub_int q
def ad:OpR X (binaryOp .Mult) (rI CMul λi j=>.int (i*j)):=opI λ_ _ _ _ _ _ _ hc q=>mul_int q hc.ok
def XZ:OpR X (binaryOp .FloorDiv) (rI bi λi j=>.int (i/j)):=opI λi j _ _ _ _ _ hc q=>by
 have h1:(0:Int)<j:=hc.1;have h2:j<1073741824:=hc.2;exact floordiv_int (by omega) (by rw[Int.fdiv_eq_ediv_of_nonneg i (by omega)];exact q) (.inl (PyProof.noPylong_small (by omega)))
def ae:OpR X (binaryOp .Mod) (rI (λ_ j=>0<j) λi j=>.int (i%j)):=opI λi j _ _ _ _ _ hc q=>by
 have h1:(0:Int)<j:=hc;exact mod_int' (by omega) (by rw[Int.fmod_eq_emod_of_nonneg i (by omega)];exact q)
def ab:OpR X (binaryOp .Pow) (rI Q6 λi j=>.int (i^j.toNat)):=opI λ_ _ _ _ _ _ _ hc q=>pow_int_small hc.1 hc.2.1 hc.2.2 q
def aZ:OpR X (binaryOp .LShift) (rI Q6 λi j=>.int (i*2^j.toNat)):=opI λ_ _ _ _ _ _ _ hc q=>lshift_int_small hc.1 hc.2.1 hc.2.2 q
def aY:OpR X (binaryOp .RShift) (rI (λ_ j=>0<=j) λi j=>.int (i/2^j.toNat)):=opI λi j _ _ _ _ _ hc q=>
 rshift_int hc (by rw[Int.fdiv_eq_ediv_of_nonneg i (Oh _)];exact q)
def ah:OpR X (binaryOp .BitAnd) (rI0 λi j=>.int (Builtin.bitAnd i j)):=UO λ_ _ _ _ _ _ _ q=>and_int q
def unI{f:Value->Sem Value}{g:Int->Int}
 (rule:∀(i:Int) (t:Tok) (s:Shared) (Q:Value->Shared->Prop) (E:Value->Shared->Prop),Q (.int (g i) s.toks) { s with toks:=s.toks+1 }->wpAny (model X.prog X.w) X.A (f (.int i t)) Q E s):
 UnR X f (rU λi=>.int (g i)):=by
 intro pins s σ H x v Q I rx h;obtain⟨i,rfl,q⟩:=h;obtain⟨t,rfl⟩:=rx;exact rule i t s _ _ ⟨.int (g i),H,I.tok _,⟨_,rfl⟩,q⟩
def Yb:UnR X (unaryOp .USub) (rU λi=>.int (-i)):=unI λ_ _ _ _ _ q=>neg_int q
end
def MH:V->V->Bool
 |.non,.non=>true|.non,.int _=>true|.int _,.non=>true|.non,.bl _=>true|.bl _,.non=>true|.non,.str _=>true|.str _,.non=>true
 |.int _,.int _=>true|.bl _,.bl _=>true|.str _,.str _=>true|.byt _,.byt _=>true
 |.int _,.str _=>true|.str _,.int _=>true|.bl _,.str _=>true|.str _,.bl _=>true
 |_,_=>false
def rEq:R2:=λx y H Q=>MH x y=true/\Q (.bl (decide (x=y))) H
def rNe:R2:=λx y H Q=>MH x y=true/\Q (.bl (!decide (x=y))) H
def OR{i j:Int}:decide (V.int i=V.int j)=(i==j):=by
 rw[Bool.eq_iff_iff];simp
def SL{i j:Bool}:decide (V.bl i=V.bl j)=(i==j):=by
 rw[Bool.eq_iff_iff];simp
def OQ{i j:Str}:decide (V.str i=V.str j)=(i==j):=by
 rw[Bool.eq_iff_iff];simp
def OS{i j:Array UInt8}:decide (V.byt i=V.byt j)=(i.toList==j.toList):=by
 rw[Bool.eq_iff_iff];cases i;cases j;simp
section
variable{X:Cx}{a b c:Expr}{ta tb tc:TE}{pos:Pos}
def Ac{pins:List (Addr×Obj)}{σ:St}{H:Hp}{s:Shared}{Q:VK}{k k':Bool}(I:Inv X pins σ H s)(q:Q (.bl k) H)(e:k=k'):EP X pins σ Q (.bool k') s:=by
 subst e;exact⟨.bl k,H,I,rfl,q⟩
def VX:OpR X (compareOp .Eq) rEq:=by
 intro pins s σ H x y v u Q I rx ry h;obtain⟨hs,q⟩:=h;cases x with
 |non=>
  cases rx;cases y with
  |non=>cases ry;exact PySem.EqNone.eq_none_none (Ac I q (by simp))
  |bl j=>cases ry;exact PySem.EqNone.eq_none_bool (Ac I q (by simp))
  |int j=>obtain⟨t',rfl⟩:=ry;exact PySem.EqNone.eq_none_int (Ac I q (by simp))
  |str j=>obtain⟨t',rfl⟩:=ry;exact PySem.EqNone.eq_none_str (Ac I q (by simp))
  |_=>exact absurd (show false=true from hs) Bool.false_ne_true
 |bl i=>
  cases rx;cases y with
  |non=>cases ry;exact PySem.EqNone.eq_bool_none (Ac I q (by simp))
  |bl j=>cases ry;exact eq_bool (Ac I q SL)
  |str j=>obtain⟨t',rfl⟩:=ry;exact PySem.EqMixed.eq_bool_str (Ac I q (by simp))
  |_=>exact absurd (show false=true from hs) Bool.false_ne_true
 |int i=>
  obtain⟨t,rfl⟩:=rx;cases y with
  |non=>cases ry;exact PySem.EqNone.eq_int_none (Ac I q (by simp))
  |int j=>obtain⟨t',rfl⟩:=ry;exact eq_int (Ac I q OR)
  |str j=>obtain⟨t',rfl⟩:=ry;exact PySem.EqMixed.eq_int_str (Ac I q (by simp))
  |_=>exact absurd (show false=true from hs) Bool.false_ne_true
 |str i=>
  obtain⟨t,rfl⟩:=rx;cases y with
  |non=>cases ry;exact PySem.EqNone.eq_str_none (Ac I q (by simp))
  |bl j=>cases ry;exact PySem.EqMixed.eq_str_bool (Ac I q (by simp))
  |int j=>obtain⟨t',rfl⟩:=ry;exact PySem.EqMixed.eq_str_int (Ac I q (by simp))
  |str j=>obtain⟨t',rfl⟩:=ry;exact eq_str (Ac I q OQ)
  |_=>exact absurd (show false=true from hs) Bool.false_ne_true
 |byt i=>
  obtain⟨t,rfl⟩:=rx;cases y with
  |byt j=>obtain⟨t',rfl⟩:=ry;exact PySem.W.eq_bytes (Ac I q OS)
  |_=>exact absurd (show false=true from hs) Bool.false_ne_true
 |_=>cases y<;>exact absurd (show false=true from hs) Bool.false_ne_true
def VT:OpR X (compareOp .NotEq) rNe:=by
 intro pins s σ H x y v u Q I rx ry h;obtain⟨hs,q⟩:=h;cases x with
 |non=>
  cases rx;cases y with
  |non=>cases ry;exact PySem.EqNone.ne_none_none (Ac I q (by simp))
  |bl j=>cases ry;exact PySem.EqNone.ne_none_bool (Ac I q (by simp))
  |int j=>obtain⟨t',rfl⟩:=ry;exact PySem.EqNone.ne_none_int (Ac I q (by simp))
  |str j=>obtain⟨t',rfl⟩:=ry;exact PySem.EqNone.ne_none_str (Ac I q (by simp))
  |_=>exact absurd (show false=true from hs) Bool.false_ne_true
 |bl i=>
  cases rx;cases y with
  |non=>cases ry;exact PySem.EqNone.ne_bool_none (Ac I q (by simp))
  |bl j=>cases ry;exact ne_bool (Ac I q (congrArg not SL))
  |str j=>obtain⟨t',rfl⟩:=ry;exact PySem.EqMixed.ne_bool_str (Ac I q (by simp))
  |_=>exact absurd (show false=true from hs) Bool.false_ne_true
 |int i=>
  obtain⟨t,rfl⟩:=rx;cases y with
  |non=>cases ry;exact PySem.EqNone.ne_int_none (Ac I q (by simp))
  |int j=>obtain⟨t',rfl⟩:=ry;exact ne_int (Ac I q (congrArg not OR))
  |str j=>obtain⟨t',rfl⟩:=ry;exact PySem.EqMixed.ne_int_str (Ac I q (by simp))
  |_=>exact absurd (show false=true from hs) Bool.false_ne_true
 |str i=>
  obtain⟨t,rfl⟩:=rx;cases y with
  |non=>cases ry;exact PySem.EqNone.ne_str_none (Ac I q (by simp))
  |bl j=>cases ry;exact PySem.EqMixed.ne_str_bool (Ac I q (by simp))
  |int j=>obtain⟨t',rfl⟩:=ry;exact PySem.EqMixed.ne_str_int (Ac I q (by simp))
  |str j=>obtain⟨t',rfl⟩:=ry;exact ne_str (Ac I q (congrArg not OQ))
  |_=>exact absurd (show false=true from hs) Bool.false_ne_true
 |byt i=>
  obtain⟨t,rfl⟩:=rx;cases y with
  |byt j=>obtain⟨t',rfl⟩:=ry;exact PySem.W.ne_bytes (Ac I q (congrArg not OS))
  |_=>exact absurd (show false=true from hs) Bool.false_ne_true
 |_=>cases y<;>exact absurd (show false=true from hs) Bool.false_ne_true
def VU:OpR X (compareOp .Lt) (rI0 λi j=>.bl (decide (i<j))):=PV λ_ _ _ _ _ _ _ q=>lt_int q
def VV:OpR X (compareOp .LtE) (rI0 λi j=>.bl (decide (i<=j))):=PV λ_ _ _ _ _ _ _ q=>le_int q
def VW:OpR X (compareOp .Gt) (rI0 λi j=>.bl (decide (j<i))):=PV λ_ _ _ _ _ _ _ q=>gt_int q
def cO:OpR X (compareOp .GtE) (rI0 λi j=>.bl (decide (j<=i))):=PV λ_ _ _ _ _ _ _ q=>ge_int q
def OpR.or{f:Value->Value->Sem Value}{r r':R2}(h:OpR X f r)(h':OpR X f r'):OpR X f (λx y H Q=>r x y H Q∨r' x y H Q):=by
 intro pins s σ H x y v u Q I rx ry q;rcases q with q|q
 .exact h pins s σ H x y v u Q I rx ry q
 .exact h' pins s σ H x y v u Q I rx ry q
def Ga(b:Expr){op:CmpOp}(h:op≠.In:=by decide)(h2:op≠.NotIn:=by decide):behindInMarks op b=false:=by
 have e1:(op==CmpOp.In)=false:=by cases op<;>first|rfl|exact absurd rfl h
 have e2:(op==CmpOp.NotIn)=false:=by cases op<;>first|rfl|exact absurd rfl h2
 cases b<;>simp[behindInMarks,e1,e2]
def XX{op:CmpOp}{r:R2}(ho:OpR X (compareOp op) r)(ha:PE X a ta)(hb:PE X b tb)(hm:behindInMarks op b=false):PE X (.Compare a [op] [b] pos) (tOp r ta tb):=by
 intro pins s σ H Q I h;exact wpAny_Compare1 (V2 ha hb I h λv u s2 x y H2 I2 rx ry q=>ho pins s2 σ H2 x y v u Q I2 rx ry q) hm
def Ei(t:TE):TT:=λσ H Q=>t σ H λx H'=>∃k,x=.bl k/\Q k H'
def HK{op:CmpOp}{r:R2}(ho:OpR X (compareOp op) r)(ha:PE X a ta)(hb:PE X b tb)(hm:behindInMarks op b=false):PT X (.Compare a [op] [b] pos) (Ei (tOp r ta tb)):=by
 intro pins s σ H Q I h;refine wpAny_isTrue_Compare1 (thn (ha pins s σ H _ I h) λv s1 ⟨x,H1,I1,r1,q1⟩=>thn (hb pins s1 σ H1 _ I1 q1) λu s2 ⟨y,H2,I2,r2,q2⟩=>
  thn (ho pins s2 σ H2 x y v u _ I2 r1 r2 q2) λc s3 ⟨z,H3,I3,r3,k,e,q3⟩=>?_) hm
 subst e;cases r3;exact wpAny_truthy_bool ⟨H3,I3,q3⟩
def M5(r r':R2)(ta tb tc:TE):TE:=λσ H Q=>ta σ H λx H1=>tb σ H1 λy H2=>r x y H2 λz H3=>∃k,z=.bl k /\
 (if k=true then tc σ H3 λw' H4=>r' y w' H4 Q else Q (.bl false) H3)
def U8{op op':CmpOp}{r r':R2}(ho:OpR X (compareOp op) r)(ho':OpR X (compareOp op') r')(ha:PE X a ta)(hb:PE X b tb)(hc:PE X c tc)
 (hm:lastMarks [op,op'] [b,c]=false:=by with_unfolding_all rfl):PT X (.Compare a [op,op'] [b,c] pos) (Ei (M5 r r' ta tb tc)):=by
 intro pins s σ H Q I h;refine isTrue_chain (thn (ha pins s σ H _ I h) λv s1 ⟨x,H1,I1,r1,q1⟩=>test_link (thn (hb pins s1 σ H1 _ I1 q1) λu s2 ⟨y,H2,I2,r2,q2⟩=>
  thn (ho pins s2 σ H2 x y v u _ I2 r1 r2 q2) λd s3 ⟨z,H3,I3,r3,k,e,q3⟩=>?_)) hm
 subst e;cases r3;refine wpAny_truthy_bool ?_;cases k with
 |false=>
  obtain⟨k',e',q'⟩:=q3;cases e';exact ite_ff ⟨H3,I3,q'⟩
 |true=>
  refine ite_tt (test_last (thn (hc pins s3 σ H3 _ I3 q3) λw' s4 ⟨z',H4,I4,r4,q4⟩=>thn (ho' pins s4 σ H4 y z' u w' _ I4 r2 r4 q4) λd' s5 ⟨z2,H5,I5,r5,k2,e2,q5⟩=>?_));subst e2;cases r5;exact wpAny_truthy_bool ⟨H5,I5,q5⟩
def NS(K:PySem.W.Frag)(x:V)(H:Hp)(k:Bool):Prop:=
 match x with
 |.non=>k=false
 |.bl b=>k=b
 |.int i=>k=(i != 0)
 |.str y=>y.length<=sizeLine/\k=((y.length:Int) != 0)
 |.byt y=>y.size<=sizeLine/\k=((y.size:Int) != 0)
 |.ref p=>(∃xs,SqL K H p xs/\k=!xs.isEmpty)∨(∃xs,SqT K H p xs/\k=!xs.isEmpty)∨∃kvs,H p=some (.dK kvs)/\k=!kvs.isEmpty
 |_=>False
def Pf{κ:Type}{kvs:List (κ×V)}{vs:List (κ×Value)}(r:KV kvs vs):(!vs.isEmpty)=!kvs.isEmpty:=by
 cases r<;>rfl
def JY{xs:List V}{its:List Value}(r:Vals xs its):(!its.toArray.isEmpty)=!xs.isEmpty:=by
 cases r<;>simp
def Go:(sizeLine:Nat)<2^63:=by rw[sizeLine_eq];decide
def Yc:dh X (λx H Q=>∃k,NS X.K x H k/\Q k H):=by
 intro pins s σ H x v Q I rx h;obtain⟨k,e,q⟩:=h;have hl:=Go;have hs:sizeLine=16777216:=sizeLine_eq;cases x with
 |non=>
  cases rx;have e':k=false:=e;subst e';exact truthy_none ⟨H,I,q⟩
 |bl b=>
  cases rx;have e':k=b:=e;subst e';exact wpAny_truthy_bool ⟨H,I,q⟩
 |int i=>
  obtain⟨t,rfl⟩:=rx;have e':k=(i != 0):=e;subst e';exact PySem.P.truthy_int ⟨H,I,q⟩
 |str y=>
  obtain⟨t,rfl⟩:=rx;obtain⟨hy,e'⟩:y.length<=sizeLine/\k=((y.length:Int) != 0):=e;subst e';exact PySem.P.truthy_str (by omega) ⟨H,I.tok _,q⟩
 |byt y=>
  obtain⟨t,rfl⟩:=rx;obtain⟨hy,e'⟩:y.size<=sizeLine/\k=((y.size:Int) != 0):=e;subst e';exact PySem.W.truthy_bytes (by omega) ⟨H,I.tok _,q⟩
 |ref p=>
  cases rx;have e':(∃xs,SqL X.K H p xs/\k=!xs.isEmpty)∨(∃xs,SqT X.K H p xs/\k=!xs.isEmpty)∨∃kvs,H p=some (.dK kvs)/\k=!kvs.isEmpty:=e;rcases e' with⟨xs,hx,e'⟩|⟨xs,hx,e'⟩|⟨kvs,hx,e'⟩
  .subst e';obtain⟨its,r,pl,hz⟩:=I.list hx;have hlen:=r.length;exact wpAny_truthy_list pl.isList (by simp only[size_toArray];omega) ⟨H,I.tok _,by rw[JY r];exact q⟩
  .subst e';obtain⟨its,r,pl,hz⟩:=I.tuple hx;have hlen:=r.length;exact truthy_tuple pl (by simp only[size_toArray];omega) ⟨H,I.tok _,by rw[JY r];exact q⟩
  .subst e';obtain⟨hz,hS,vs,r,m⟩:kvs.length<=sizeLine/\(p==sysModules)=false/\∃vs,KV kvs vs/\s.heap.DictOf (BY X.prog X.w) p vs:=I.hok p _ hx;have hlen:kvs.length=vs.length:=Paired.length r;exact wpAny_truthy_dict hS m (by omega) ⟨H,I.tok _,by rw[Pf r];exact q⟩
 |_=>exact(show False from e).elim
def U7(ha:PE X a ta)(he:∀whole,isTrue a X.env whole=(do let v <- whole;standAt a.pos;holding [v] (truthy v))):
 PT X a (λσ H Q=>ta σ H λx H'=>∃k,NS X.K x H' k/\Q k H'):=by
 intro pins s σ H Q I h;exact isTrue_plain (thn (ha pins s σ H _ I h) λv s1 ⟨x,H1,I1,r1,q1⟩=>Yc pins s1 σ H1 x v Q I1 r1 q1) (he _)
def BX{x:V}{us:List Value}(r:Vals [x] us):∃u,us=[u]/\RelV x u:=by
 cases r with
 |cons r1 r2=>cases r2;exact⟨_,rfl,r1⟩
def Og{x y:V}{us:List Value}(r:Vals [x,y] us):∃u w',us=[u,w']/\RelV x u/\RelV y w':=by
 cases r with
 |cons r1 r2=>
  cases r2 with
  |cons r3 r4=>cases r4;exact⟨_,_,rfl,r1,r3⟩
def SW(hc:X.calm=true):CallR X (.builtin "max") (λxs H Q=>∃i j,xs=[.int i,.int j]/\Q (.int (if j>i then j else i)) H):=by
 intro pins s σ H xs us Q I r h;obtain⟨i,j,rfl,q⟩:=h;obtain⟨u,w',rfl,⟨t,rfl⟩,⟨t',rfl⟩⟩:=Og r;refine max_two_ints (I.ok.hd hc) λh' tk k=>⟨_,H,I.kept k,?_,q⟩
 by_cases hj:j>i
 .rw[if_pos hj,if_pos hj];exact⟨_,rfl⟩
 .rw[if_neg hj,if_neg hj];exact⟨_,rfl⟩
def SV(hc:X.calm=true):CallR X (.builtin "min") (λxs H Q=>∃i j,xs=[.int i,.int j]/\Q (.int (if j<i then j else i)) H):=by
 intro pins s σ H xs us Q I r h;obtain⟨i,j,rfl,q⟩:=h;obtain⟨u,w',rfl,⟨t,rfl⟩,⟨t',rfl⟩⟩:=Og r;refine min_two_ints (I.ok.hd hc) λh' tk k=>⟨_,H,I.kept k,?_,q⟩
 by_cases hj:j<i
 .rw[if_pos hj,if_pos hj];exact⟨_,rfl⟩
 .rw[if_neg hj,if_neg hj];exact⟨_,rfl⟩
def SY:CallR X (.type "int") (λxs H Q=>(∃i,xs=[.int i]/\Q (.int i) H)∨∃k,xs=[.bl k]/\Q (.int (if k then 1 else 0)) H):=by
 intro pins s σ H xs us Q I r h;rcases h with⟨i,rfl,q⟩|⟨k,rfl,q⟩
 .obtain⟨u,rfl,t,rfl⟩:=BX r;exact call_int_int ⟨.int i,H,I,⟨_,rfl⟩,q⟩
 .obtain⟨u,rfl,r1⟩:=BX r;cases r1;exact call_int_bool ⟨.int (if k then 1 else 0),H,I.tok _,⟨_,rfl⟩,q⟩
end
def RelO.some_of{v:V}{o:Option Value}(r:RelO (some v) o):∃u,o=some u/\RelV v u:=by
 cases o with
 |none=>exact(show False from r).elim
 |some u=>exact⟨u,rfl,r⟩
structure Room(k:Nat)(A:Around):Prop where
 hd:A.handled=none
 dp:A.depth+3*k+5<recursionLimit
 un:A.units+16*k+200<cLine
 gd:A.guards=some []
def Room.mono{j k:Nat}{A:Around}(r:Room k A)(h:j<=k):Room j A:=⟨r.hd,by have:=r.dp;omega,by have:=r.un;omega,r.gd⟩
def Room.deeper{k:Nat}{A:Around}(r:Room (k+1) A)(env:Env):Room k (A.deeper env):=
 ⟨r.hd,by have:=r.dp;show A.depth+1+3*k+5<_;omega,by have:=r.un;show A.units+3+16*k+200<_;omega,by first|exact r.gd|(simpa [Around.deeper,Around.under,Code.guards,Code.isGuard,pushGuards]using r.gd)⟩
def Room.in1{k:Nat}{A:Around}(r:Room (k+1) A):Room k A.in1:=
 ⟨r.hd,by have:=r.dp;show A.depth+3*k+5<_;omega,by have:=r.un;show A.units+1+16*k+200<_;omega,r.gd⟩
def Room.depth{k:Nat}{A:Around}(r:Room k A):A.depth<recursionLimit:=by have:=r.dp;omega
def Room.units{k:Nat}{A:Around}(r:Room k A):A.units+64<cLine:=by have:=r.un;omega
def BR:TA:=λ_ H Q=>Q [] H
def BH(ta:TE)(tr:TA):TA:=λσ H Q=>ta σ H λx H1=>tr σ H1 λxs H2=>Q (x::xs) H2
section
variable{X:Cx}{e:Expr}{es:List Expr}{te:TE}{t:TA}{pos:Pos}
def Bw:PA X [] BR:=λ_ _ _ _ H Q I h=>Calls.spliced_nil ⟨[],H,I,.nil,h⟩
def Bi(ha:PE X e te)(hr:PA X es t)(hs:starEach (e::es) X.env=(false,eval e X.env)::starEach es X.env:=by rfl):PA X (e::es) (BH te t):=by
 intro pos pins s σ H Q I h;rw[hs];show wpAny _ _ (spliced ((false,eval e X.env)::backTo pos (starEach es X.env))) _ _ s;refine Calls.spliced_cons (thn (ha pins s σ H _ I h) λu s1 ⟨x,H1,I1,r1,q1⟩=>?_);exact thn (hr pos pins s1 σ H1 _ I1 q1) λus s2 ⟨xs,H2,I2,r2,q2⟩=>⟨x::xs,H2,I2,.cons r1 r2,q2⟩
def Su(t:TA):TE:=λσ H Q=>t σ H λxs H1=>xs.length<=sizeLine/\∀p,H1 p=none->Q (.ref p) (upd H1 p (.tup xs))
def Sz(t:TA):TE:=λσ H Q=>t σ H λxs H1=>xs.length<=sizeLine/\∀p,H1 p=none->Q (.ref p) (upd H1 p (.lst xs))
def aK{x1}(h:PA X es t):PE X (.Tuple es x1 pos) (Su t):=by
 intro pins s σ H Q I hq;refine wpAny_Tuple_spliced (thn (h pos pins s σ H _ I hq) λus s1 ⟨xs,H1,I1,r,z,q⟩=>⟨by rw[<- r.length];exact z,?_⟩);have hf:H1 s1.heap.objs.size=none:=I1.hok.fresh (le_refl _);refine⟨.ref s1.heap.objs.size,upd H1 s1.heap.objs.size (.tup xs),I1.laid (t':=s1.toks) (λb u e=>Heap.get?_push_of_some _ e) (le_refl _) ?_,rfl,q _ hf⟩;exact⟨z,us,r,⟨_,Heap.get?_push_size _ rfl,rfl,⟨_,rfl⟩,rfl⟩⟩
def aP(h:PA X es t):PE X (.List es pos) (Sz t):=by
 intro pins s σ H Q I hq;refine wpAny_List_spliced (thn (h pos pins s σ H _ I hq) λus s1 ⟨xs,H1,I1,r,z,q⟩=>⟨by rw[<- r.length];exact z,?_⟩);have hf:H1 s1.heap.objs.size=none:=I1.hok.fresh (le_refl _);refine⟨.ref s1.heap.objs.size,upd H1 s1.heap.objs.size (.lst xs),I1.laid (t':=s1.toks) (λb u e=>Heap.get?_push_of_some _ e) (le_refl _) ?_,rfl,q _ hf⟩;exact⟨z,us,0,r,Heap.get?_push_size _ rfl⟩
end
abbrev Sp:=List V->Hp->VK->XK->Prop
abbrev CXT:=List Env->Hp->Shared->XK->Value->Shared->Prop
structure Env0(P:Program)(w:World)(K:PySem.W.Frag)(mg:Str->Option Value)(base:Heap)(A:Around)(outer:List Env)(s:Shared)(H:Hp):Prop where
 frames:A.frames=some outer
 mod:Mod K mg base
 bs:∀b o,base.get? b=some o->s.heap.get? b=some o/\H b=none
 bsz:base.objs.size<=s.heap.objs.size
 funs:s.heap.FunFrames base outer
 frf:∀b∈frs outer,H b=none
 hok:HOk P w H s.heap
 bare:AllBare s.gens
def CE(outer:List Env)(P:Program)(w:World)(H:Hp)(s:Shared)(Q:VK)(u:Value)(s':Shared):Prop:=
 ∃v H',s'.os=s.os/\AllBare s'.gens/\Un (frs outer) [] H H' s.heap s'.heap/\HOk P w H' s'.heap/\RelV v u/\Q v H'
def CR(CX:CXT)(outer:List Env)(P:Program)(w:World)(H:Hp)(s:Shared)(Q:VK)(E:XK)(r:Result)(s':Shared):Prop:=
 match r with
 |.ok (.ret u)=>CE outer P w H s Q u s'
 |.ok _=>False
 |.error e=>CX outer H s E e s'
structure FnOk(P:Program)(w:World)(K:PySem.W.Frag)(mg:Str->Option Value)(base:Heap)(CX:CXT)(k:Nat)(f:Addr)(fd:FuncData)(ps:List Str)(sp:Sp):Prop where
 len:∀vs H Q E,sp vs H Q E->vs.length=ps.length
 run:∀(A:Around) (outer:List Env) (s:Shared) (H:Hp) (args:Args) (us:List Value) (vs:List V) (Q:VK) (E:XK),Room k A->Env0 P w K mg base A outer s H->BindsTo s fd args (ps.zip us)->Vals vs us->sp vs H Q E ->
  codeAny (model P w) A (.call (.ref f) args) (CR CX outer P w H s Q E) s
def FnOk.mono{P:Program}{w:World}{K:PySem.W.Frag}{mg:Str->Option Value}{base:Heap}{CX:CXT}{j k:Nat}{f:Addr}{fd:FuncData}{ps:List Str}{sp:Sp}(F:FnOk P w K mg base CX j f fd ps sp)(h:j<=k):
 FnOk P w K mg base CX k f fd ps sp:=⟨F.len,λA outer s H args us vs Q E hr=>F.run A outer s H args us vs Q E (hr.mono h)⟩
section
variable{X:Cx}{pins:List (Addr×Obj)}{σ:St}{H:Hp}{s s':Shared}
def Inv.env0(I:Inv X pins σ H s):Env0 X.prog X.w X.K X.mg X.base X.A X.stack s H:=
 ⟨I.ok.frames,I.ok.mod,I.bs,le_trans I.ok.bsz I.sz,I.stack,I.stkFree,I.hok,I.bare⟩
def Inv.after{Q:VK}{u:Value}(I:Inv X pins σ H s)(h:CE X.stack X.prog X.w H s Q u s'):EP X pins σ Q u s':=by
 obtain⟨v,H',os,bare,un,hok,r,q⟩:=h;obtain⟨hh,g,d,t,os'⟩:=s';obtain rfl:os'=s.os:=os;exact⟨v,H',I.call (h':=hh) (g':=g) (d':=d) (t':=t) (ch:=[]) un hok bare (λb z=>absurd z (by simp)),r,q⟩
end
def C2(sp:Sp)(dvs:List V)(E:XK)(t:TA):TE:=λσ H Q=>t σ H λvs H1=>sp (vs++dvs) H1 Q E
def Binds(K:PySem.W.Frag)(fd:FuncData)(ps:List Str)(ds:List Value):Prop:=
 ∀(s:Shared) (us:List Value),K.In s.heap->(us++ds).length=ps.length->BindsTo s fd ⟨us,[]⟩ (ps.zip (us++ds))
def Binds.all{K:PySem.W.Frag}{fd:FuncData}{ps:List Str}(h:∀us:List Value,us.length=ps.length->bindArgs fd ⟨us,[]⟩=pure (ps.zip us)):Binds K fd ps []:=λs us _ hl=>by
 rw[append_nil]at hl ⊢;exact .of_eq (h us hl)
def Jq(CX:CXT)(X:Cx)(E:XK):Prop:=∀(pins:List (Addr×Obj)) (σ:St) (H:Hp) (s:Shared) (e:Value) (s':Shared),Inv X pins σ H s->CX X.stack H s E e s'->X.xe e s'
section
variable{X:Cx}{CX:CXT}{k:Nat}{f C:Addr}{fd:FuncData}{ps:List Str}{sp:Sp}{dvs:List V}{ds:List Value}{E:XK}{x m:Str}{p pos apos:Pos}{e o:Expr}{es:List Expr}{ta:TE}{t:TA}
def Qm{pins:List (Addr×Obj)}{σ:St}{H:Hp}{s:Shared}{Q:VK}{us:List Value}{vs:List V}(F:FnOk X.prog X.w X.K X.mg X.base CX k f fd ps sp)(hr:Room k X.A)(hb:Binds X.K fd ps ds)(hd:Vals dvs ds)(hx:Jq CX X E)
 (I:Inv X pins σ H s) (r:Vals vs us) (h:sp (vs++dvs) H Q E):wpAny (model X.prog X.w) X.A (call (.ref f) us) (EP X pins σ Q) X.xe s:=by
 have r2:Vals (vs++dvs) (us++ds):=r.append hd;have hl:(us++ds).length=ps.length:=by rw[<- r2.length];exact F.len _ _ _ _ h
 refine wpAny_call (codeAny_mono (F.run X.A X.stack s H ⟨us,[]⟩ (us++ds) (vs++dvs) Q E hr I.env0 (hb s us I.kIn hl) r2 h) λr s' hq=>?_);cases r with
 |error e=>exact hx pins σ H s e s' I hq
 |ok fl=>
  cases fl with
  |ret u=>exact I.after hq
  |next=>exact False.elim hq
  |brk=>exact False.elim hq
  |cont=>exact False.elim hq
def XY(F:FnOk X.prog X.w X.K X.mg X.base CX k f fd ps sp)(hr:Room k X.A)(hg:Gl X x)(hm:X.mg x=some (.ref f))(hk:PySem.W.keepIn X.K (.ref f)=true)(hb:Binds X.K fd ps ds)(hd:Vals dvs ds)(hx:Jq CX X E)
 (ha:PA X (e::es) t) (hdb:(x==("__debug__":Str))=false:=by decide) (he:starEach (e::es) X.env=(false,eval e X.env)::starEach es X.env:=by rfl) (hpl:(backTo pos (starEach es X.env)).any (·.1)=false:=by rfl):
 PE X (.Call (.Name x p) (e::es) [] pos) (C2 sp dvs E t):=by
 intro pins s σ H Q I h;refine wpAny_Call_Name_kw (OE I hg hm ?_ hdb);refine PySem.W.callWith_K (h₀:=X.base) I.ok.mod.kin hk (thn (ha pos pins s σ H _ I h) λus s1 ⟨vs,H1,I1,r,q⟩=>⟨I1.kIn,?_⟩) he hpl;exact Qm F hr hb hd hx I1 r q
def UK(F:FnOk X.prog X.w X.K X.mg X.base CX k f fd ps sp)(hr:Room k X.A)(hg:Gl X x)(hm:X.mg x=some (.ref f))(hk:PySem.W.keepIn X.K (.ref f)=true)(hb:Binds X.K fd ps ds)(hd:Vals dvs ds)(hx:Jq CX X E)
 (hdb:(x==("__debug__":Str))=false:=by decide):PE X (.Call (.Name x p) [] [] pos) (C2 sp dvs E BR):=by
 intro pins s σ H Q I h;refine wpAny_Call_Name_kw (OE I hg hm ?_ hdb);exact PySem.W.callWith_K0 I.kIn hk (Qm (us:=[]) F hr hb hd hx I .nil h)
end
structure FnScope(N P:List Str)(sc:Scope):Prop where
 kind:sc.kind=.function
 co:sc.isCoroutine=false
 gen:sc.isGenerator=false
 nd:N.Nodup
 pre:N.take P.length=P
 par:∀x∈P,sc.names.lookup x=some .local∨sc.names.lookup x=some .cell
 nofree:∀y∈sc.names,y.2≠.free
def LD{kindOf:Str->Option NameKind}{x:Str}:∀{binds:List (Str×Value)} {m:Str->Option Value},(∀v,(x,v)∉binds)->bindL kindOf binds m x=m x
 |[],_,_=>rfl
 |(n,v)::r,m,h=>by
   unfold bindL;rw[LD λw hw=>h w (mem_cons_of_mem _ hw)];split
   .have:x≠n:=by rintro rfl;exact h v mem_cons_self
    simp[this]
   .rfl
def LG{kindOf:Str->Option NameKind}{x:Str}:∀{binds:List (Str×Value)} {m:Str->Option Value},(∀v,(x,v)∉binds)->bindC kindOf binds m x=m x
 |[],_,_=>rfl
 |(n,v)::r,m,h=>by
   unfold bindC;rw[LG λw hw=>h w (mem_cons_of_mem _ hw)];split
   .rfl
   .have:x≠n:=by rintro rfl;exact h v mem_cons_self
    simp[this]
def LF{kindOf:Str->Option NameKind}{x:Str}{v:Value}:∀{P:List Str} {vs:List Value} {i:Nat} {m:Str->Option Value},P.Nodup->P[i]?=some x->vs[i]?=some v->kindOf x=some .local ->
 bindL kindOf (P.zip vs) m x=some v
 |[],_,_,_,_,h,_,_=>by simp at h
 |_::_,[],_,_,_,_,h,_=>by simp at h
 |p::P,w::vs,0,m,nd,h1,h2,hk=>by
  simp at h1 h2;subst h1;subst h2;show bindL kindOf ((p,w)::P.zip vs) m p=_;unfold bindL;rw[LD λv hv=>(nodup_cons.mp nd).1 (of_mem_zip hv).1,if_pos hk];simp
 |p::P,w::vs,i+1,m,nd,h1,h2,hk=>by
  show bindL kindOf ((p,w)::P.zip vs) m x=_;unfold bindL;exact LF (i:=i) (nodup_cons.mp nd).2 (by simpa using h1) (by simpa using h2) hk
def LH{kindOf:Str->Option NameKind}{x:Str}{v:Value}:∀{P:List Str} {vs:List Value} {i:Nat} {m:Str->Option Value},P.Nodup->P[i]?=some x->vs[i]?=some v->kindOf x≠some .local ->
 bindC kindOf (P.zip vs) m x=some v
 |[],_,_,_,_,h,_,_=>by simp at h
 |_::_,[],_,_,_,_,h,_=>by simp at h
 |p::P,w::vs,0,m,nd,h1,h2,hk=>by
  simp at h1 h2;subst h1;subst h2;show bindC kindOf ((p,w)::P.zip vs) m p=_;unfold bindC;rw[LG λv hv=>(nodup_cons.mp nd).1 (of_mem_zip hv).1,if_neg hk];simp
 |p::P,w::vs,i+1,m,nd,h1,h2,hk=>by
  show bindC kindOf ((p,w)::P.zip vs) m x=_;unfold bindC;exact LH (i:=i) (nodup_cons.mp nd).2 (by simpa using h1) (by simpa using h2) hk
def start(N:List Str)(vs:List V):St:=vs.map some++List.replicate (N.length-vs.length) none
def F9(CX:CXT)(P:Program)(w:World)(K:PySem.W.Frag)(mg:Str->Option Value)(base:Heap)(N:List Str)(qual:Str)(scope:Scope)(f:Addr)(cd:Value)(A:Around)(outer:List Env)(s:Shared)(H:Hp)(E:XK):Cx where
 prog:=P
 w:=w
 K:=K
 mg:=mg
 base:=base
 A:=A.deeper (envOfC qual scope s.heap.objs.size f cd)
 N:=N
 s₀:=s
 H₀:=H
 env:=envOfC qual scope s.heap.objs.size f cd
 outer:=outer
 stack:=envOfC qual scope s.heap.objs.size f cd::outer
 ex:=[]
 calm:=true
 fn:=λ_=>true
 pn:=[]
 xe:=λe s'=>wpAny (model P w) (A.deeper (envOfC qual scope s.heap.objs.size f cd)) (leaving (envOfC qual scope s.heap.objs.size f cd) e) (λ_ s''=>CX outer H s E e s'') (λe' s''=>CX outer H s E e' s'') s'
def NI{sc:Scope}{n:Nat}{x:Str}(h:sc.names.lookup x=some .cell):∃c,(cellsFrom n sc.names []).lookup x=some c:=by
 have q:=PySem.W.cellsFrom_some sc.names n [] (.inl h);exact isSome_iff_exists.mp q
def Ry{CX:CXT}{P:Program}{w:World}{K:PySem.W.Frag}{mg:Str->Option Value}{base:Heap}{N ps:List Str}{qual:Str}{scope:Scope}{f:Addr}{cd:Value}{A:Around}{outer:List Env}{s s1:Shared}{H:Hp}{E:XK}{us:List Value}{vs:List V}
 (S:FnScope N ps scope) (hd:A.handled=none) (e0:Env0 P w K mg base A outer s H) (hl:vs.length=ps.length) (r:Vals vs us)
 (x:InCallC s s.heap.objs.size (bindL (envOfC qual scope s.heap.objs.size f cd).kindOf (ps.zip us) λ_=>none) (cellsFrom (s.heap.objs.size+1) scope.names []) (bindC (envOfC qual scope s.heap.objs.size f cd).kindOf (ps.zip us) λ_=>none) s1):
 Inv (F9 CX P w K mg base N qual scope f cd A outer s H E) [] (start N vs) H s1:=by
 have hpl:ps.length<=N.length:=by have:=congrArg List.length S.pre;rw[length_take]at this;omega
 obtain⟨h1,tk,rfl,hk⟩:=x.done;have noA:∀b:Addr,b∉(F9 CX P w K mg base N qual scope f cd A outer s H E).ex:=λb z=>absurd (show b∈([]:List Addr)from z) (by simp);refine⟨⟨e0.mod,S.kind,rfl,rfl,le_refl _,λy z c h1 h2=>?_,λy hy=>?_,λy c _ h=>?_,λ_=>hd,Around.frames_deeper e0.frames,.inr ⟨rfl,rfl⟩,λb z=>absurd z (noA b),e0.bs,e0.bsz,λb _ _=>noA b,λb z=>absurd z (noA b),e0.funs,e0.frf⟩,
  rfl,e0.bare,Un.kept hk,⟨_,x.toInCall.ns,λi y v h1 h2 h3=>?_⟩,λy c h=>⟨_,x.cell y c h⟩,e0.hok.fresh (le_refl _),λy c h=>?_,λp hp=>absurd (show p∈([]:List (Addr×Obj))from hp) (by simp),e0.hok.kept hk,?_⟩
 .exact name_of_addr x.apart (PySem.mem_of_lookup h1) (PySem.mem_of_lookup h2)
 .have hy:scope.names.lookup y=some .cell∨scope.names.lookup y=some .free:=hy;rcases hy with hy|hy
  .exact NI hy
  .exact absurd rfl (S.nofree _ (PySem.mem_of_lookup hy))
 .exact le_of_lt (x.above y c (PySem.mem_of_lookup h))
 .have hi:i<vs.length:=by
   unfold start at h2;by_cases hi:i<vs.length
   .exact hi
   .rw[List.getElem?_append_right (by simpa using hi)]at h2;rw[List.getElem?_replicate]at h2;split at h2<;>cases h2
  have ha:vs[i]?=some v:=by
   unfold start at h2;rw[List.getElem?_append_left (by simpa using hi),List.getElem?_map]at h2;cases e:vs[i]? with
   |none=>rw[e]at h2;cases h2
   |some a=>rw[e]at h2;cases h2;rfl
  obtain⟨u,hu,rv⟩:=r.get ha;have hp:ps[i]?=some y:=by
   rw[<- S.pre,List.getElem?_take_of_lt (by omega)];exact h1
  have ndP:ps.Nodup:=by rw[<- S.pre];exact S.nd.sublist (List.take_sublist _ _)
  refine⟨u,rv,?_⟩;rcases S.par y (mem_of_getElem? hp)with k|k
  .exact .inl ⟨k,LF ndP hp hu k⟩
  .obtain⟨c,e⟩:=NI (n:=s.heap.objs.size+1) k;refine .inr ⟨.inl k,c,e,?_⟩;have q:=x.cell y c e;rw[LH ndP hp hu (by show scope.names.lookup y≠_;rw[k];decide)]at q;exact q
 .exact e0.hok.fresh (le_of_lt (x.above y c (PySem.mem_of_lookup h)))
 .unfold start;show _=N.length;rw[length_append,length_map,List.length_replicate];omega
def Va{CX:CXT}{P:Program}{w:World}{K:PySem.W.Frag}{mg:Str->Option Value}{base:Heap}{k:Nat}{f:Addr}{name qual:Str}{params:Arguments}{body:List Stmt}{scope:Scope}{dV kV doc pm cdv ct oc:Value}{an od:Option Addr}
 {osl:Array (Option Value)} {N ps:List Str} {sp:Sp} (lk:K.lookup f=some ⟨oc,od,.func (PySem.W.fnOf name qual params body scope dV kV doc pm an cdv ct),osl⟩) (hcd:PySem.W.codeIn K cdv qual=true) (S:FnScope N ps scope)
 (len:∀vs H Q E,sp vs H Q E->vs.length=ps.length)
 (hbody:∀(A:Around) (outer:List Env) (s:Shared) (H:Hp) (vs:List V) (Q:VK) (E:XK),Room k (A.deeper (envOfC qual scope s.heap.objs.size f cdv))->sp vs H Q E ->
  ∃t,PSs (F9 CX P w K mg base N qual scope f cdv A outer s H E) body t/\t { nx:=λ_ H'=>Q .non H',rt:=Q } (start N vs) H):
 FnOk P w K mg base CX (k+1) f (PySem.W.fnOf name qual params body scope dV kV doc pm an cdv ct) ps sp:=by
 refine⟨len,λA outer s H args us vs Q E hr e0 hb r hsp=>?_⟩;have hl:=len _ _ _ _ hsp;have KX:K.In s.heap:=e0.mod.kin.keeps λb o e=>(e0.bs b o e).1;have lim:s.heap.NoLimit:=e0.mod.nolimit.keeps λb o e=>(e0.bs b o e).1;have hkind:∀y∈ps.zip us,scope.names.lookup y.1=some .local∨(scope.names.lookup y.1=some .cell/\((cellsFrom (s.heap.objs.size+1) scope.names []).lookup y.1).isSome=true):=λ⟨n,v⟩ hy=>by
  rcases S.par n (of_mem_zip hy).1 with q|q
  .exact .inl q
  .exact .inr ⟨q,PySem.W.cellsFrom_some _ _ _ (.inl q)⟩
 refine codeAny_call_function hr.depth (KX _ _ lk) rfl S.co S.gen rfl (PySem.W.codeRec_of KX hcd) (hb _ _ _ _ ?_);refine wpAny_newFunctionEnv_cells S.kind hkind λenv he s1 x=>?_;subst he;refine⟨lim.keeps x.toInCall.keep,codeAny_func ?_⟩;obtain⟨t,ht,hq⟩:=hbody A outer s H vs Q E (hr.deeper _) hsp;have I:Inv (F9 CX P w K mg base N qual scope f cdv A outer s H E) [] (start N vs) H s1:=Ry S hr.hd e0 hl r x;refine wpAny_mono (ht [] s1 (start N vs) H _ I hq) (λfl s' hs=>?_) λe s' hs=>hs;have fin:∀{σ':St} {H':Hp} {v:V} {u:Value},Inv (F9 CX P w K mg base N qual scope f cdv A outer s H E) [] σ' H' s'->RelV v u->Q v H'->CE outer P w H s Q u s':=
  λ{σ' H' v u} J rv q=>⟨v,H',J.os,J.bare,J.base,J.hok,rv,q⟩
 cases fl with
 |ret u=>
  obtain⟨v,σ',H',J,rv,q⟩:=hs;exact fin J rv q
 |next=>
  obtain⟨σ',H',J,q⟩:=hs;exact fin (v:=V.non) (u:=Value.none) J rfl q
 |brk=>
  obtain⟨_,_,_,q⟩:=hs;exact False.elim q
 |cont=>
  obtain⟨_,_,_,q⟩:=hs;exact False.elim q
section
variable{X:Cx}{x:Str}{p pos:Pos}{e:Expr}{es:List Expr}{t:TA}{id T:String}{r:List V->Hp->VK->Prop}
def tCB(r:List V->Hp->VK->Prop)(t:TA):TE:=λσ H Q=>t σ H λvs H1=>r vs H1 Q
def EW(hc:CallR X (.builtin id) r)(hg:Gl X x)(hm:X.mg x=none)(hv:bootBuiltins x=some (.builtin id))(ha:PA X (e::es) t)(hn:x≠"__name__":=by decide)(hdb:(x==("__debug__":Str))=false:=by decide)
 (he:starEach (e::es) X.env=(false,eval e X.env)::starEach es X.env:=by rfl) (hpl:(backTo pos (starEach es X.env)).any (·.1)=false:=by rfl):PE X (.Call (.Name x p) (e::es) [] pos) (tCB r t):=by
 intro pins s σ H Q I h;refine wpAny_Call_Name_kw (DL I hg hm hv ?_ hn hdb);exact PyProof.Rows.callWith_builtin1 (thn (ha pos pins s σ H _ I h) λus s1 ⟨vs,H1,I1,r1,q1⟩=>hc pins s1 σ H1 vs us Q I1 r1 q1) he hpl
def C0(hc:CallR X (.type T) r)(hg:Gl X x)(hm:X.mg x=none)(hv:bootBuiltins x=some (.type T))(ha:PA X (e::es) t)(hn:x≠"__name__":=by decide)(hdb:(x==("__debug__":Str))=false:=by decide)
 (he:starEach (e::es) X.env=(false,eval e X.env)::starEach es X.env:=by rfl) (hpl:(backTo pos (starEach es X.env)).any (·.1)=false:=by rfl):PE X (.Call (.Name x p) (e::es) [] pos) (tCB r t):=by
 intro pins s σ H Q I h;refine wpAny_Call_Name_kw (DL I hg hm hv ?_ hn hdb);exact PyProof.Rows.callWith_type1 (thn (ha pos pins s σ H _ I h) λus s1 ⟨vs,H1,I1,r1,q1⟩=>hc pins s1 σ H1 vs us Q I1 r1 q1) he hpl
end
end L2
namespace HT
open PySem PyProof.Rows
section
variable{prog:Program}{w:World}{A:Around}{E:Value->Shared->Prop}{s:Shared}
def cat_tup{t b:Addr}{vs ws:List Value}{Q:Value->Shared->Prop}(ht:IsTup s.heap t vs.toArray)(hb:IsTup s.heap b ws.toArray)(hv:vs≠[])
 (h1:ws=[]->Q (.ref t) s) (h2:ws≠[]->Q (.ref s.heap.objs.size) { s with heap:=s.heap.push { cls:=.type "tuple",data:=.seq (vs++ws).toArray } })
 (hsz:vs.length+ws.length<=sizeLine):wpAny (model prog w) A (binaryOp .Add (.ref t) (.ref b)) Q E s:=by
 obtain⟨⟨cls,dd,data,sl⟩,ho,hc,n,hd⟩:=id ht;obtain⟨⟨cls2,dd2,data2,sl2⟩,ho2,hc2,n2,hd2⟩:=id hb;simp only at hc hd hc2 hd2;subst hc hd hc2 hd2;have e:vs.toArray++ws.toArray=(vs++ws).toArray:=by simp
 by_cases hw:ws=[]
 .exact concat_meets ⟨_,ho,rfl⟩ ⟨_,ho2,rfl⟩ noFill_tuple_add seq_tuple_add PySem.F.slot_tuple_add PySem.F.entry_tuple_add (PySem.F.args_tuple_add_2 _ _)
   (tuple_addW1 t b vs.toArray ws.toArray n n2 dd dd2 sl sl2 (by simpa using hv) (by simp[hw])) ⟨ho,ho2,h1 hw⟩
 .refine concat_meets ⟨_,ho,rfl⟩ ⟨_,ho2,rfl⟩ noFill_tuple_add seq_tuple_add PySem.F.slot_tuple_add PySem.F.entry_tuple_add (PySem.F.args_tuple_add_2 _ _)
   (tuple_addW2 t b vs.toArray ws.toArray n n2 dd dd2 sl sl2 (by simpa using hv) (by simpa using hw) (by rw[size_toArray,size_toArray];exact hsz)) ⟨ho,ho2,?_⟩
  rw[e];exact h2 hw
def sIx(n d:Nat):Option Int->Nat
 |none=>d
 |some v=>if v<0 then(v+(n:Int)).toNat else min v.toNat n
def sIx_none(n d:Nat):sIx n d none=d:=rfl
def sIx_nat(n d k:Nat):sIx n d (some (k:Int))=min k n:=by
 show(if(k:Int)<0 then((k:Int)+(n:Int)).toNat else min (k:Int).toNat n)=min k n;rw[if_neg (by omega),toNat_natCast]
def Yk(n d:Nat)(hd:d<=n)(o:Option Int):sIx n d o<=n:=by
 cases o with
 |none=>exact hd
 |some v=>
  show(if v<0 then(v+(n:Int)).toNat else min v.toNat n)<=n;by_cases hv:v<0
  .rw[if_pos hv];omega
  .rw[if_neg hv];exact Nat.min_le_right _ _
def OW(v:Int)(n d:Nat):(if v<0 then max (v+(n:Int)) 0 else min v (n:Int))=((sIx n d (some v):Nat):Int):=by
 show(if v<0 then max (v+(n:Int)) 0 else min v (n:Int))=(((if v<0 then(v+(n:Int)).toNat else min v.toNat n):Nat):Int);by_cases hv:v<0
 .simp only[if_pos hv];omega
 .simp only[if_neg hv];omega
def Q3(lo hi:Option Int)(n:Nat):Builtin.Slice.sliceAdjust lo hi 1 (n:Int)=(((sIx n 0 lo:Nat):Int),((sIx n n hi:Nat):Int)):=by
 have h1:¬ ((1:Int)<0):=by omega
 unfold Builtin.Slice.sliceAdjust;simp only[h1,if_false];refine Prod.ext ?_ ?_
 .cases lo with
  |none=>rfl
  |some v=>exact OW v n 0
 .cases hi with
  |none=>rfl
  |some v=>exact OW v n n
def PP(i j:Nat):Builtin.Slice.slicePlaces (i:Int) (j:Int) 1=j-i:=by
 unfold Builtin.Slice.slicePlaces;have h1:(1:Int)>0:=by omega
 simp only[h1,if_true,Int.ediv_one];split<;>omega
def JA{v:Value}{o:Option Int}{Q:Option Int->Shared->Prop}(p:IsPart v o)(h:Q o s):wpAny (model prog w) A (Builtin.Slice.slicePartIndex v) Q E s:=by
 cases p with
 |none=>exact slicePart_none h
 |int i t=>exact slicePart_int h
def IE{sl:Addr}{vl vu:Value}{lo hi:Option Int}{n:Nat}{Q:Int×Int×Nat->Shared->Prop}(hs:s.heap.IsSliceOf sl vl vu .none)(pl:IsPart vl lo)(pu:IsPart vu hi)
 (h:Q (((sIx n 0 lo:Nat):Int),1,sIx n n hi-sIx n 0 lo) s):wpAny (model prog w) A (Builtin.Slice.sliceApplied (.ref sl) (pure (n:Int))) Q E s:=by
 obtain⟨os,hos,hcs,hds⟩:=id hs;unfold Builtin.Slice.sliceApplied Builtin.Slice.sliceFields;refine wpAny_bind (wpAny_bind (wpAny_field hos hds (x:=vl) rfl (wpAny_bind (wpAny_field hos hds (x:=vu) rfl (wpAny_bind (wpAny_field hos hds (x:=.none) rfl (wpAny_pure ?_)))))));refine wpAny_bind (slicePart_none ?_);show wpAny _ _ (if((1:Int)==0)=true then _ else _) _ _ s;rw[if_neg (by decide)];refine wpAny_bind (JA pl (wpAny_bind (JA pu (wpAny_bind (wpAny_pure ?_)))));show wpAny _ _ (match Builtin.Slice.sliceAdjust lo hi 1 (n:Int)with|(lo,hi)=>pure (lo,(1:Int),Builtin.Slice.slicePlaces lo hi 1)) _ _ s;rw[Q3 lo hi n];show wpAny _ _ (pure (((sIx n 0 lo:Nat):Int),(1:Int),Builtin.Slice.slicePlaces ((sIx n 0 lo:Nat):Int) ((sIx n n hi:Nat):Int) 1)) _ _ s;rw[PP];exact wpAny_pure h
def UC(xs:Array Value)(i k:Nat):((List.range k).filterMap λ(m:Nat)=>xs[((i:Int)+(m:Int)*1).toNat]?).toArray=((xs.toList.drop i).take k).toArray:=by
 have e:(λ(m:Nat)=>xs[((i:Int)+(m:Int)*1).toNat]?)=λm=>xs[i+m]? := by
  funext m
  have:((i:Int)+(m:Int)*1).toNat=i+m:=by omega
  rw[this]
 rw[e];have:=pick_run xs i k;rw[List.filterMap_map]at this;have e2:((λx=>xs[x]?) ∘ λx=>i+x)=λm=>xs[i+m]? := rfl;rw[e2]at this;rw[this]
def getItem_tuple_cut{t sl:Addr}{items:Array Value}{vl vu:Value}{lo hi:Option Int}{Q:Value->Shared->Prop}(ht:IsTup s.heap t items)(hs:s.heap.IsSliceOf sl vl vu .none)(pl:IsPart vl lo)(pu:IsPart vu hi)
 (hw:¬ (sIx items.size 0 lo=0/\sIx items.size items.size hi=items.size))
 (h:Q (.ref s.heap.objs.size) { s with heap:=s.heap.push { cls:=.type "tuple",data:=.seq ((items.toList.drop (sIx items.size 0 lo)).take (sIx items.size items.size hi-sIx items.size 0 lo)).toArray } })
 (hsz:items.size<=sizeLine):wpAny (model prog w) A (getItem (.ref t) (.ref sl)) Q E s:=by
 have htake:sizeOk (.seq ((items.toList.drop (sIx items.size 0 lo)).take (sIx items.size items.size hi-sIx items.size 0 lo)).toArray):=by
  show((items.toList.drop (sIx items.size 0 lo)).take (sIx items.size items.size hi-sIx items.size 0 lo)).toArray.size<=sizeLine;rw[size_toArray,length_take,length_drop,Array.length_toList];omega
 have hj:sIx items.size items.size hi<=items.size:=Yk _ _ (le_refl _) hi;obtain⟨os,hos,hcs,hds⟩:=id hs;have hTs:s.TypeIs (.ref sl) "slice":=⟨os,hos,hcs⟩
 unfold getItem
 try with_reducible refine wpAny_holding ?_
 first|refine wpAny_bind (wpAny_pure ?_)|skip
 refine wpAny_bind (wpAny_sequenceKey ht.typeIs (by decide) ?_);refine wpAny_bind (wpAny_callSpecial?_slot (name:=Str.ofString "__getitem__") ht.typeIs PyProof.Rows.slot_tuple_getitem
  (wpAny_call_entry PyProof.Rows.slot_tuple_getitem ht.typeIs entry_tuple_getitem ?_ (args_tuple_getitem _ _)))
 show wpAny _ _ (Builtin.Tuple.tupleItemsOf (.ref t) >>= _) _ _ s;refine wpAny_bind (tupleItemsOf_ ht ?_);refine wpAny_bind (wpAny_typeOf hTs ?_);rw[if_pos (by decide)];refine wpAny_bind (IE hs pl pu ?_);have hno:¬ ((((sIx items.size 0 lo:Nat):Int)==0&&(1:Int)==1&&(sIx items.size items.size hi-sIx items.size 0 lo)==items.size)=true):=by
  intro q;rw[Bool.and_eq_true,Bool.and_eq_true]at q;have q1:((sIx items.size 0 lo:Nat):Int)=0:=eq_of_beq q.1.1;have q2:sIx items.size items.size hi-sIx items.size 0 lo=items.size:=eq_of_beq q.2;exact hw ⟨by omega,by omega⟩
 show wpAny _ _ (if(((sIx items.size 0 lo:Nat):Int)==0&&(1:Int)==1&&(sIx items.size items.size hi-sIx items.size 0 lo)==items.size)=true then _ else _) _ _ s;rw[if_neg hno,UC]
 first
  |exact wpAny_bind (m:=Builtin.Tuple.tupleExact _) (wpAny_newObj_type (wpAny_pure ⟨_,rfl,wpAny_pure h⟩) htake)
  |exact wpAny_bind (m:=Builtin.Tuple.tupleExact _) (wpAny_newObj_type (wpAny_bind (wpAny_pure (wpAny_pure ⟨_,rfl,wpAny_pure h⟩))) htake)
  |exact wpAny_bind (wpAny_bind (m:=Builtin.Tuple.tupleExact _) (wpAny_newObj_type (wpAny_pure (wpAny_pure ⟨_,rfl,wpAny_pure h⟩)) htake))
  |exact wpAny_bind (wpAny_bind (m:=Builtin.Tuple.tupleExact _) (wpAny_newObj_type (wpAny_pure ⟨_,rfl,wpAny_pure h⟩) htake))
end
end HT
namespace L2
open PySem PySem.Spec PyProof.Rows
abbrev TO:=St->Hp->(Option Int->Hp->Prop)->Prop
def PO(X:Cx)(e:Option Expr)(t:TO):Prop:=
 ∀(pins:List (Addr×Obj)) (s:Shared) (σ:St) (H:Hp) (Q:Option Int->Hp->Prop),Inv X pins σ H s->t σ H Q ->
   wpAny (model X.prog X.w) X.A (evalPart e X.env) (λu s'=>∃o H',Inv X pins σ H' s'/\IsPart u o/\Q o H') X.xe s
def Jz:TO:=λ_ H Q=>Q none H
def Om(t:TE):TO:=λσ H Q=>t σ H λx H1=>∃i,x=.int i/\Q (some i) H1
section
variable{X:Cx}{e:Expr}{te:TE}{lo hi:Option Expr}{tl th:TO}{pos p2:Pos}
def XN:PO X none Jz:=by
 intro pins s σ H Q I h;rw[evalPart_none];exact wpAny_pure ⟨none,H,I,.none,h⟩
def XM(h:PE X e te):PO X (some e) (Om te):=by
 intro pins s σ H Q I hw;rw[evalPart_some];refine thn (h pins s σ H _ I hw) λu s1 ⟨x,H1,I1,r1,q1⟩=>?_;obtain⟨i,rfl,q⟩:=q1;obtain⟨t,rfl⟩:=r1;exact⟨some i,H1,I1,.int i t,q⟩
def SlR(X:Cx)(r:V->Option Int->Option Int->Hp->VK->Prop):Prop:=
 ∀(pins:List (Addr×Obj)) (s:Shared) (σ:St) (H:Hp) (x:V) (v vl vu:Value) (lo hi:Option Int) (sl:Addr) (Q:VK),Inv X pins σ H s->RelV x v->s.heap.IsSliceOf sl vl vu .none->IsPart vl lo->IsPart vu hi->r x lo hi H Q ->
   ∃T id,typeLookup (.type T) "__getitem__"=pure (some (.builtin id))/\s.TypeIs v T/\wpAny (model X.prog X.w) X.A (getItem v (.ref sl)) (EP X pins σ Q) X.xe s
def tSl(r:V->Option Int->Option Int->Hp->VK->Prop)(te:TE)(tl th:TO):TE:=λσ H Q=>te σ H λx H1=>tl σ H1 λl H2=>th σ H2 λu H3=>r x l u H3 Q
def Ml{r:V->Option Int->Option Int->Hp->VK->Prop}(hr:SlR X r)(he:PE X e te)(hl:PO X lo tl)(hu:PO X hi th):PE X (.Subscript e (.Slice lo hi none p2) pos) (tSl r te tl th):=by
 intro pins s σ H Q I h;refine Subscript_ (thn (he pins s σ H _ I h) λv s1 ⟨x,H1,I1,r1,q1⟩=>?_);refine wpAny_Slice (thn (hl pins s1 σ H1 _ I1 q1) λvl s2 ⟨l,H2,I2,pl,q2⟩=>thn (hu pins s2 σ H2 _ I2 q2) λvu s3 ⟨u,H3,I3,pu,q3⟩=>?_);rw[evalPart_none];refine wpAny_pure ?_;have I4:Inv X pins σ H3 { s3 with heap:=s3.heap.push { cls:=.type "slice",data:=.fields #[vl,vu,.none] } }:=I3.kept (t':=s3.toks) λb ob q=>Heap.get?_push_of_some _ q;obtain⟨T,id,hT,ht,hg⟩:=hr pins { s3 with heap:=s3.heap.push { cls:=.type "slice",data:=.fields #[vl,vu,.none] } } σ H3 x v vl vu l u s3.heap.objs.size Q I4 r1 (Heap.IsSliceOf.new ..) pl pu q3;show wpAny (model X.prog X.w) X.A (subscriptTail e (.Slice lo hi none p2) v (.ref s3.heap.objs.size)) (EP X pins σ Q) X.xe { s3 with heap:=s3.heap.push { cls:=.type "slice",data:=.fields #[vl,vu,.none] } };exact tail_any (ops:=[.ref s3.heap.objs.size,v]) ht hT hg (by with_unfolding_all rfl)
def FA(xs:List V)(lo hi:Option Int):List V:=(xs.drop (HT.sIx xs.length 0 lo)).take (HT.sIx xs.length xs.length hi-HT.sIx xs.length 0 lo)
def Hr(xs:List V)(lo hi:Option Int):(FA xs lo hi).length<=xs.length:=by
 unfold FA;rw[length_take,length_drop];omega
def P9(K:PySem.W.Frag):V->Option Int->Option Int->Hp->VK->Prop:=λx lo hi H Q=>∃a xs,x=.ref a/\SqT K H a xs /\
 ¬ (HT.sIx xs.length 0 lo=0/\HT.sIx xs.length xs.length hi=xs.length)/\∀p,H p=none->Q (.ref p) (upd H p (.tup (FA xs lo hi)))
def Ye:SlR X (P9 X.K):=by
 intro pins s σ H x v vl vu lo hi sl Q I rx hs pl pu h;obtain⟨a,xs,rfl,hx,hw,q⟩:=h;cases rx;obtain⟨its,r,ht,hz⟩:=I.tuple hx;have hlen:its.toArray.size=xs.length:=by rw[size_toArray];exact r.length.symm
 refine⟨"tuple",_,PyProof.Rows.slot_tuple_getitem.lookup,ht.typeIs,?_⟩;refine HT.getItem_tuple_cut ht hs pl pu (by rw[hlen];exact hw) ?_ (by rw[hlen];exact hz);rw[hlen];refine⟨.ref s.heap.objs.size,_,I.laid (t':=s.toks) (o:=.tup (FA xs lo hi)) (λb ob q=>Heap.get?_push_of_some _ q) (le_refl _) ?_,rfl,q _ (I.hok.fresh (le_refl _))⟩;exact⟨le_trans (Hr xs lo hi) hz,_,(r.drop (HT.sIx xs.length 0 lo)).take (HT.sIx xs.length xs.length hi-HT.sIx xs.length 0 lo),IsTupD.new _ _⟩
def PH(K:PySem.W.Frag):R2:=λx y H Q=>∃a b xs ys,x=.ref a/\y=.ref b/\SqT K H a xs/\SqT K H b ys/\xs≠[]/\xs.length+ys.length<=sizeLine /\
 (ys=[]->Q (.ref a) H)/\(ys≠[]->∀p,H p=none->Q (.ref p) (upd H p (.tup (xs++ys))))
def Vals.nil_iff{xs:List V}{us:List Value}(r:Vals xs us):us=[]↔xs=[]:=by
 cases r with
 |nil=>simp
 |cons _ _=>simp
def Xa:OpR X (binaryOp .Add) (PH X.K):=by
 intro pins s σ H x y v u Q I rx ry h;obtain⟨a,b,xs,ys,rfl,rfl,ha,hb,hx,hz,q1,q2⟩:=h;cases rx;cases ry;obtain⟨its,r1,p1,_⟩:=I.tuple ha;obtain⟨its2,r2,p2,_⟩:=I.tuple hb;refine HT.cat_tup p1 p2 (λz=>hx (r1.nil_iff.mp z)) (λz=>⟨.ref a,H,I,rfl,q1 (r2.nil_iff.mp z)⟩) (λz=>?_) (by rw[<- r1.length,<- r2.length];exact hz);refine⟨.ref s.heap.objs.size,_,I.laid (t':=s.toks) (o:=.tup (xs++ys)) (λb ob q=>Heap.get?_push_of_some _ q) (le_refl _) ?_,rfl,q2 (λw=>z (r2.nil_iff.mpr w)) _ (I.hok.fresh (le_refl _))⟩;exact⟨by rw[length_append];exact hz,_,r1.append r2,IsTupD.new _ _⟩
end
def ixN(n:Nat)(i:Int):Option Nat:=if 0<=i then(if i<n then some i.toNat else none)else if -(n:Int)<=i then some (i+n).toNat else none
def atI{α:Type}(xs:List α)(i:Int):Option α:=(ixN xs.length i).bind λj=>xs[j]?
def KJ{n:Nat}{i:Int}{j:Nat}(h:ixN n i=some j):seqIndex? i n=some j/\j<n/\-(n:Int)<=i/\i<n:=by
 unfold ixN at h;by_cases h0:0<=i
 .rw[if_pos h0]at h;by_cases h1:i<n
  .rw[if_pos h1]at h;have e:i.toNat=j:=Option.some.inj h;exact⟨by rw[seqIndex_of h0 h1,e],by omega,by omega,h1⟩
  .rw[if_neg h1]at h;cases h
 .rw[if_neg h0]at h;by_cases h1:-(n:Int)<=i
  .rw[if_pos h1]at h;have e:(i+n).toNat=j:=Option.some.inj h;exact⟨by rw[seqIndex_neg (by omega) h1,e],by omega,h1,by omega⟩
  .rw[if_neg h1]at h;cases h
def Ob{α:Type}{xs:List α}{i:Int}{v:α}(h:atI xs i=some v):∃j,seqIndex? i xs.length=some j/\xs[j]?=some v/\j<xs.length/\-(xs.length:Int)<=i/\i<xs.length:=by
 unfold atI at h;cases e:ixN xs.length i with
 |none=>rw[e]at h;cases h
 |some j=>
  rw[e]at h;obtain⟨h1,h2,h3,h4⟩:=KJ e;exact⟨j,h1,h,h2,h3,h4⟩
def B6{α:Type}{xs:List α}{j:Nat}{v:α}(h:xs[j]?=some v):atI xs (j:Int)=some v:=by
 have hj:j<xs.length:=(List.getElem?_eq_some_iff.mp h).1;have e:ixN xs.length (j:Int)=some j:=by
  unfold ixN;rw[if_pos (by omega),if_pos (by omega)];simp
 unfold atI;rw[e];exact h
def NP{α:Type}(xs:List α)(v:α):atI (xs++[v]) (-1)=some v:=by
 have hl:(xs++[v]).length=xs.length+1:=by simp
 have e:ixN (xs++[v]).length (-1)=some xs.length:=by
  unfold ixN;rw[hl,if_neg (by decide),if_pos (by omega)]
  congr 1
  omega
 unfold atI;rw[e];show(xs++[v])[xs.length]?=some v;simp
def KZ(b:Expr):Prop:=∀o i,subscripted b false o i=operate [o,i] (getItem o i)
def IxR(X:Cx)(r:R2):Prop:=
 ∀(value slice:Expr) (pins:List (Addr×Obj)) (s:Shared) (σ:St) (H:Hp) (x y:V) (v u:Value) (Q:VK),Inv X pins σ H s->RelV x v->RelV y u->r x y H Q ->
   subscripted slice false v u=operate [v,u] (getItem v u)->wpAny (model X.prog X.w) X.A (subscriptTail value slice v u) (EP X pins σ Q) X.xe s
def MtR(X:Cx)(id:String)(r:V->List V->Hp->VK->Prop):Prop:=
 ∀(pins:List (Addr×Obj)) (s:Shared) (σ:St) (H:Hp) (x:V) (xs:List V) (v:Value) (us:List Value) (Q:VK),Inv X pins σ H s->RelV x v->Vals xs us->r x xs H Q ->
   wpAny (model X.prog X.w) X.A (call (.builtin id) (v::us)) (EP X pins σ Q) X.xe s
section
variable{X:Cx}{a b:Expr}{ta tb:TE}{pos:Pos}
def IxR.or{r r':R2}(h:IxR X r)(h':IxR X r'):IxR X (λx y H Q=>r x y H Q∨r' x y H Q):=by
 intro value slice pins s σ H x y v u Q I rx ry q hs;rcases q with q|q
 .exact h value slice pins s σ H x y v u Q I rx ry q hs
 .exact h' value slice pins s σ H x y v u Q I rx ry q hs
def VR{r:R2}(hr:IxR X r)(ha:PE X a ta)(hb:PE X b tb)(hs:KZ b):PE X (.Subscript a b pos) (tOp r ta tb):=by
 intro pins s σ H Q I h;exact Subscript_ (V2 ha hb I h λv u s2 x y H2 I2 rx ry q=>hr a b pins s2 σ H2 x y v u Q I2 rx ry q (hs _ _))
def Tm(K:PySem.W.Frag):R2:=λx y H Q=>∃p xs i v,x=.ref p/\y=.int i/\SqL K H p xs/\atI xs i=some v/\Q v H
def Tl(K:PySem.W.Frag):R2:=λx y H Q=>∃p xs i v,x=.ref p/\y=.int i/\SqT K H p xs/\atI xs i=some v/\Q v H
def Y0:IxR X (Tm X.K):=by
 intro value slice pins s σ H x y v u Q I rx ry h hs;obtain⟨p,xs,i,z,rfl,rfl,hq,he,q⟩:=h;cases rx;obtain⟨t,rfl⟩:=ry;obtain⟨its,r,pl,hz⟩:=I.list hq;obtain⟨j,h1,h2,h3,h4,h5⟩:=Ob he;obtain⟨w,ew,rw'⟩:=r.get h2;have hl:=r.length;have hn:=Go;have fin:EP X pins σ Q w s:=⟨z,H,I,rw',q⟩
 by_cases h0:0<=i
 .have hj:i.toNat=j:=by
   rw[seqIndex_of h0 h5]at h1;exact Option.some.inj h1
  exact item_listR pl.isList h0 (by omega) (by rw[hj];simpa using ew) fin hs
 .have hj:(i+(its.toArray.size:Int)).toNat=j:=by
   rw[seqIndex_neg (by omega) h4]at h1;rw[size_toArray,<- hl];exact Option.some.inj h1
  exact subscriptTail_builtinR (x:=w) pl.isList.typeIs slot_list_getitem.lookup
   (wpAny_getItem_list_neg (Q:=λr s'=>r=w/\EP X pins σ Q r s') pl.isList (by omega) (by rw[size_toArray]<;>omega) (by omega) (by rw[hj];simpa using ew) ⟨rfl,fin⟩) hs
def bB:IxR X (Tl X.K):=by
 intro value slice pins s σ H x y v u Q I rx ry h hs;obtain⟨p,xs,i,z,rfl,rfl,hq,he,q⟩:=h;cases rx;obtain⟨t,rfl⟩:=ry;obtain⟨its,r,pl,hz⟩:=I.tuple hq;obtain⟨j,h1,h2,h3,h4,h5⟩:=Ob he;obtain⟨w,ew,rw'⟩:=r.get h2;have hl:=r.length;have hn:=Go;have fin:EP X pins σ Q w s:=⟨z,H,I,rw',q⟩
 exact subscriptTail_builtinR (x:=w) pl.typeIs slot_tuple_getitem.lookup
  (getItem_tuple (j:=j) (Q:=λr s'=>r=w/\EP X pins σ Q r s') pl (by omega) (by omega) (by rw[size_toArray,<- hl];exact h1) (by simpa using ew) ⟨rfl,fin⟩) hs
def PY(its:List Value)(n j:Nat)(u:Value):Obj.mapSeq (·.setIfInBounds j u) { cls:=.type "list",data:=.seq its.toArray n }={ cls:=.type "list",data:=.seq (its.set j u).toArray n }:=by
 simp[Obj.mapSeq]
def Inv.lst{pins:List (Addr×Obj)}{σ:St}{H:Hp}{s:Shared}{p:Addr}{xs:List V}(I:Inv X pins σ H s)(h:H p=some (.lst xs)):
 ∃(its:List Value) (n:Nat),Vals xs its/\s.heap.get? p=some { cls:=.type "list",data:=.seq its.toArray n }/\xs.length<=sizeLine:=by
 obtain⟨z,its,n,r,e⟩:=I.hok p _ h;exact⟨its,n,r,e,z⟩
def Inv.lstUpd{pins:List (Addr×Obj)}{σ:St}{H:Hp}{s:Shared}{p:Addr}{xs ys:List V}{its its':List Value}{n n':Nat}{f:Obj->Obj}(I:Inv X pins σ H s)(h:H p=some (.lst xs))
 (ho:s.heap.get? p=some { cls:=.type "list",data:=.seq its.toArray n }) (hf:f { cls:=.type "list",data:=.seq its.toArray n }={ cls:=.type "list",data:=.seq its'.toArray n' }) (r:Vals ys its') (hz:ys.length<=sizeLine) (t:Nat):
 Inv X pins σ (upd H p (.lst ys)) { s with heap:=s.heap.update p f,toks:=t }:=by
 have e:(s.heap.update p f).get? p=some { cls:=.type "list",data:=.seq its'.toArray n' }:=by
  rw[Heap.get?_update_self f ho (by rw[hf]<;>rfl),hf]
 refine I.write (x:=p) (e:=p) (by rw[h];trivial) (.inl rfl) (λb u hb q=>(Heap.get?_update_other _ _ (Ne.symm hb)).trans q) ⟨_,e⟩ ?_;exact⟨hz,its',n',r,e⟩
def PD:V->V->V->Hp->(Hp->Prop)->Prop:=λo i v H Q=>∃p xs k j,o=.ref p/\i=.int k/\H p=some (.lst xs)/\ixN xs.length k=some j/\Q (upd H p (.lst (xs.set j v)))
def TB:bg X PD:=by
 intro pins s σ H o i v ov iv u Q I ro ri rv h;obtain⟨p,xs,k,j,rfl,rfl,hp,hj,q⟩:=h;cases ro;obtain⟨t,rfl⟩:=ri;obtain⟨its,n,r,ho,hz⟩:=I.lst hp;obtain⟨h1,h2,h3,h4⟩:=KJ hj;have hl:=r.length;have hn:=Go;have I':Inv X pins σ (upd H p (.lst (xs.set j v))) { s with heap:=s.heap.update p (Obj.mapSeq (·.setIfInBounds j u)) }:=
  I.lstUpd hp ho (PY its n j u) (r.set rv j) (by rw[List.length_set];exact hz) s.toks
 by_cases h0:0<=k
 .have hk:k.toNat=j:=by
   rw[seqIndex_of h0 h4]at h1;exact Option.some.inj h1
  exact PySem.W.ki_setAt ho h0 (by omega) (by rw[size_toArray,<- hl];exact h4) (by rw[hk];exact⟨_,I',q⟩)
 .have hk:(k+(its.toArray.size:Int)).toNat=j:=by
   rw[seqIndex_neg (by omega) h3]at h1;rw[size_toArray,<- hl];exact Option.some.inj h1
  exact PySem.W.ki_setBack ho (by omega) (by rw[size_toArray,<- hl];exact h3) (by omega) (by rw[hk];exact⟨_,I',q⟩)
def MD(lo hi:Option Int)(n:Nat):(sliceBounds lo hi none n).1=((HT.sIx n 0 lo:Nat):Int)/\(sliceBounds lo hi none n).2.1=((HT.sIx n n hi:Nat):Int)/\(sliceBounds lo hi none n).2.2=1:=by
 refine⟨?_,?_,rfl⟩
 .cases lo with
  |none=>simp[sliceBounds,HT.sIx]
  |some i=>
   simp only[sliceBounds,HT.sIx,Option.getD_none,show(1:Int)>0 by decide,if_true];by_cases h:i<0
   .simp only[h,if_true]<;>omega
   .simp only[h,if_false]<;>omega
 .cases hi with
  |none=>simp[sliceBounds,HT.sIx]
  |some i=>
   simp only[sliceBounds,HT.sIx,Option.getD_none,show(1:Int)>0 by decide,if_true];by_cases h:i<0
   .simp only[h,if_true]<;>omega
   .simp only[h,if_false]<;>omega
def LJ(its:List Value)(lo hi:Option Int):slicePick its.toArray lo hi none=((its.drop (HT.sIx its.length 0 lo)).take (HT.sIx its.length its.length hi-HT.sIx its.length 0 lo)).toArray:=by
 obtain⟨h1,h2,h3⟩:=MD lo hi its.toArray.size;unfold slicePick;rw[h1,h2,h3];simp only[sliceRange_one,pick_run,size_toArray]<;>rfl
def PB(K:PySem.W.Frag):V->Option Int->Option Int->Hp->VK->Prop:=λx lo hi H Q=>∃a xs,x=.ref a/\SqL K H a xs/\∀p,H p=none->Q (.ref p) (upd H p (.lst (FA xs lo hi)))
def Vz:SlR X (PB X.K):=by
 intro pins s σ H x v vl vu lo hi sl Q I rx hs pl pu h;obtain⟨a,xs,rfl,hx,q⟩:=h;cases rx;obtain⟨its,r,ht,hz⟩:=I.list hx;have hlen:=r.length;refine⟨"list",_,slot_list_getitem.lookup,ht.isList.typeIs,?_⟩;refine wpAny_getItem_list_slice ht.isList hs pl pu .none (by simp) ?_ (by rw[size_toArray]<;>omega);rw[LJ,<- hlen];refine⟨.ref s.heap.objs.size,_,I.laid (t':=s.toks) (o:=.lst (FA xs lo hi)) (λb ob q=>Heap.get?_push_of_some _ q) (le_refl _) ?_,rfl,q _ (I.hok.fresh (le_refl _))⟩;exact⟨le_trans (Hr xs lo hi) hz,_,0,(r.drop (HT.sIx xs.length 0 lo)).take (HT.sIx xs.length xs.length hi-HT.sIx xs.length 0 lo),Heap.get?_push_size _ rfl⟩
def Dk:V->Bool
 |.non=>true
 |.bl _=>true
 |.int _=>true
 |.str _=>true
 |_=>false
def eqV:V->V->Bool
 |.non,.non=>true
 |.bl a,.bl b=>a==b
 |.bl a,.int b=>(if a then 1 else 0)==b
 |.int a,.bl b=>a==(if b then 1 else 0)
 |.int a,.int b=>a==b
 |.str a,.str b=>a==b
 |_,_=>false
def bU{A:Around}{s:Shared}{y x:V}{u v:Value}(ry:RelV y u)(rx:RelV x v)(fy:Dk y=true)(fx:Dk x=true):SeqAt.EqAt A s u v (eqV y x):=by
 cases y with
 |non=>
  cases ry;cases x with
  |non=>cases rx;exact SeqAt.EqAt.same _
  |bl b=>cases rx;exact SeqAt.EqAt.none_bool b
  |int b=>obtain⟨t,rfl⟩:=rx;exact SeqAt.EqAt.none_int b t
  |str b=>obtain⟨t,rfl⟩:=rx;exact SeqAt.EqAt.none_str b t
  |_=>exact absurd (show false=true from fx) Bool.false_ne_true
 |bl a=>
  cases ry;cases x with
  |non=>cases rx;exact SeqAt.EqAt.bool_none a
  |bl b=>cases rx;exact SeqAt.EqAt.bool_bool a b
  |int b=>obtain⟨t,rfl⟩:=rx;exact SeqAt.EqAt.bool_int a b t
  |str b=>obtain⟨t,rfl⟩:=rx;exact SeqAt.EqAt.bool_str a b t
  |_=>exact absurd (show false=true from fx) Bool.false_ne_true
 |int a=>
  obtain⟨t',rfl⟩:=ry;cases x with
  |non=>cases rx;exact SeqAt.EqAt.int_none a t'
  |bl b=>cases rx;exact SeqAt.EqAt.int_bool a t' b
  |int b=>obtain⟨t,rfl⟩:=rx;exact SeqAt.EqAt.int_int a t' b t
  |str b=>obtain⟨t,rfl⟩:=rx;exact SeqAt.EqAt.int_str a t' b t
  |_=>exact absurd (show false=true from fx) Bool.false_ne_true
 |str a=>
  obtain⟨t',rfl⟩:=ry;cases x with
  |non=>cases rx;exact SeqAt.EqAt.str_none a t'
  |bl b=>cases rx;exact SeqAt.EqAt.str_bool a t' b
  |int b=>obtain⟨t,rfl⟩:=rx;exact SeqAt.EqAt.str_int a t' b t
  |str b=>obtain⟨t,rfl⟩:=rx;exact SeqAt.EqAt.str_str a t' b t
  |_=>exact absurd (show false=true from fx) Bool.false_ne_true
 |_=>exact absurd (show false=true from fy) Bool.false_ne_true
def eqU(x:V)(u:Value):Bool:=match u with
 |.none=>eqV .non x
 |.bool b=>eqV (.bl b) x
 |.int i _=>eqV (.int i) x
 |.str z _=>eqV (.str z) x
 |_=>false
def SI{x y:V}{u:Value}(r:RelV y u)(f:Dk y=true):eqU x u=eqV y x:=by
 cases y with
 |non=>cases r;rfl
 |bl b=>cases r;rfl
 |int i=>obtain⟨t,rfl⟩:=r;rfl
 |str z=>obtain⟨t,rfl⟩:=r;rfl
 |_=>exact absurd (show false=true from f) Bool.false_ne_true
def FW{x:V}:∀{xs:List V} {us:List Value},Vals xs us->xs.all Dk=true->us.any (eqU x)=xs.any λy=>eqV y x
 |_,_,.nil,_=>rfl
 |y::xs,u::us,.cons r t,f=>by
  rw[all_cons,Bool.and_eq_true]at f;rw[any_cons,any_cons,SI r f.1,FW t f.2]
def EX{A:Around}{s:Shared}{x:V}{v:Value}(rx:RelV x v)(fx:Dk x=true):∀{xs:List V} {us:List Value},Vals xs us->xs.all Dk=true->∀u∈us,SeqAt.EqAt A s u v (eqU x u)
 |_,_,.nil,_=>λu hu=>by cases hu
 |y::xs,u::us,.cons r t,f=>λu' hu=>by
  rw[all_cons,Bool.and_eq_true]at f;rcases mem_cons.mp hu with rfl|hu
  .rw[SI r f.1];exact bU r rx f.1 fx
  .exact EX rx fx t f.2 u' hu
def inV(x:V)(xs:List V):Bool:=xs.any λy=>eqV y x
def rIn(K:PySem.W.Frag)(neg:Bool):R2:=λx y H Q=>∃p xs,y=.ref p/\(SqL K H p xs∨SqT K H p xs)/\Dk x=true/\xs.all Dk=true/\Q (.bl (if neg then !inV x xs else inV x xs)) H
def Rb:OpR X (compareOp .In) (rIn X.K false):=by
 intro pins s σ H x y v u Q I rx ry h;obtain⟨p,xs,rfl,hq,fx,fs,q⟩:=h;cases ry;rcases hq with hq|hq
 .obtain⟨its,r,pl,hz⟩:=I.list hq;refine SeqAt.in_listAt (eqU x) pl.isList (λw hw=>EX rx fx r fs w (by simpa using hw)) ⟨.bl _,H,I,rfl,?_⟩;rw[show its.toArray.any (eqU x)=its.any (eqU x) by simp,FW r fs];exact q
 .obtain⟨its,r,pl,hz⟩:=I.tuple hq;refine SeqAt.in_tupleAt (eqU x) pl (λw hw=>EX rx fx r fs w (by simpa using hw)) ⟨.bl _,H,I,rfl,?_⟩;rw[show its.toArray.any (eqU x)=its.any (eqU x) by simp,FW r fs];exact q
def Mm:OpR X (compareOp .NotIn) (rIn X.K true):=by
 intro pins s σ H x y v u Q I rx ry h;obtain⟨p,xs,rfl,hq,fx,fs,q⟩:=h;cases ry;rcases hq with hq|hq
 .obtain⟨its,r,pl,hz⟩:=I.list hq;refine SeqAt.notIn_listAt (eqU x) pl.isList (λw hw=>EX rx fx r fs w (by simpa using hw)) ⟨.bl _,H,I,rfl,?_⟩;rw[show its.toArray.any (eqU x)=its.any (eqU x) by simp,FW r fs];exact q
 .obtain⟨its,r,pl,hz⟩:=I.tuple hq;refine SeqAt.notIn_tupleAt (eqU x) pl (λw hw=>EX rx fx r fs w (by simpa using hw)) ⟨.bl _,H,I,rfl,?_⟩;rw[show its.toArray.any (eqU x)=its.any (eqU x) by simp,FW r fs];exact q
def NN:CallR X (.builtin "len") (λxs H Q=>∃p ys,xs=[.ref p]/\(SqL X.K H p ys∨SqT X.K H p ys)/\Q (.int ys.length) H):=by
 intro pins s σ H xs us Q I r h;obtain⟨p,ys,rfl,hq,q⟩:=h;obtain⟨u,rfl,rx⟩:=BX r;cases rx;have hn:=Go;rcases hq with hq|hq
 .obtain⟨its,r',pl,hz⟩:=I.list hq;have hlen:=r'.length;exact Calls.call_len_list pl.isList (by simp only[size_toArray]<;>omega) ⟨.int ys.length,H,I.tok _,⟨s.toks+1,by rw[size_toArray,hlen]⟩,q⟩
 .obtain⟨its,r',pl,hz⟩:=I.tuple hq;have hlen:=r'.length;exact len_tuple pl (by simp only[size_toArray]<;>omega) ⟨.int ys.length,H,I.tok _,⟨s.toks+1,by rw[size_toArray,hlen]⟩,q⟩
def CallR.or{f:Value}{r r':List V->Hp->VK->Prop}(h:CallR X f r)(h':CallR X f r'):CallR X f (λxs H Q=>r xs H Q∨r' xs H Q):=by
 intro pins s σ H xs us Q I rs q;rcases q with q|q
 .exact h pins s σ H xs us Q I rs q
 .exact h' pins s σ H xs us Q I rs q
def NM:CallR X (.type "list") (λxs H Q=>∃p ys,xs=[.ref p]/\(SqL X.K H p ys∨SqT X.K H p ys)/\∀l,H l=none->Q (.ref l) (upd H l (.lst ys))):=by
 intro pins s σ H xs us Q I r h;obtain⟨p,ys,rfl,hq,q⟩:=h;obtain⟨u,rfl,rx⟩:=BX r;cases rx;have fin:∀(its:List Value),Vals ys its->ys.length<=sizeLine->∀(h':Heap) (c':Nat),(∀b o',s.heap.get? b=some o'->h'.get? b=some o') ->
  h'.get? s.heap.objs.size=some { cls:=.type "list",dict:=none,data:=.seq its.toArray c',slots:=#[] }->EP X pins σ Q (.ref s.heap.objs.size) { s with heap:=h' }:=λits r' hz h' c' kp e=>
  ⟨.ref s.heap.objs.size,_,I.laid (t':=s.toks) kp (le_refl _) (show ObjOk X.prog X.w _ h' _ (.lst ys)from⟨hz,its,c',r',e⟩),rfl,q _ (I.hok.fresh (le_refl _))⟩
 rcases hq with hq|hq
 .obtain⟨its,r',pl,hz⟩:=I.list hq;have hlen:=r'.length;obtain⟨o,ho,hc,n,hd⟩:=pl.isList;exact call_list_seq p (.inl rfl) ho hc hd (λh' c' kp e=>fin its r' hz h' c' kp e) (by simp only[size_toArray]<;>omega)
 .obtain⟨its,r',pl,hz⟩:=I.tuple hq;have hlen:=r'.length;obtain⟨o,ho,hc,n,hd⟩:=pl;exact call_list_seq p (.inr rfl) ho hc hd (λh' c' kp e=>fin its r' hz h' c' kp e) (by simp only[size_toArray]<;>omega)
def LP:CallR X (.type "tuple") (λxs H Q=>∃p ys,xs=[.ref p]/\((SqL X.K H p ys/\∀l,H l=none->Q (.ref l) (upd H l (.tup ys)))∨(SqT X.K H p ys/\Q (.ref p) H))):=by
 intro pins s σ H xs us Q I r h;obtain⟨p,ys,rfl,h⟩:=h;obtain⟨u,rfl,rx⟩:=BX r;cases rx;rcases h with⟨hq,q⟩|⟨hq,q⟩
 .obtain⟨its,r',pl,hz⟩:=I.list hq;have hlen:=r'.length;refine call_tuple_list pl.isList (λh' kp=>?_) (by simp only[size_toArray]<;>omega);have I1:Inv X pins σ H { s with heap:=h' }:=I.kept (t':=s.toks) kp;have I2:Inv X pins σ (upd H h'.objs.size (.tup ys)) { s with heap:=h'.push { cls:=.type "tuple",data:=.seq its.toArray } }:=
   I1.laid (t':=s.toks) (λb o e=>Heap.get?_push_of_some _ e) (le_refl _) (show ObjOk X.prog X.w _ _ _ (.tup ys)from⟨hz,its,r',IsTupD.new _ _⟩)
  exact⟨.ref h'.objs.size,_,I2,rfl,q _ (I1.hok.fresh (le_refl _))⟩
 .obtain⟨its,r',pl,hz⟩:=I.tuple hq;exact call_tuple_same pl ⟨.ref p,H,I,rfl,q⟩
def tyV(K:PySem.W.Frag)(T:String)(x:V)(H:Hp):Prop:=match x with
 |.str _=>T="str"
 |.int _=>T="int"
 |.ref p=>(T="list"/\∃xs,SqL K H p xs)∨(T="tuple"/\∃o,K.lookup p=some o/\o.cls=.type "tuple"/\o.dict=none) ∨
  (T="dict"/\((∃kvs,H p=some (.dK kvs))∨∃kvs,H p=some (.dT kvs)))∨(T="set"/\∃S n,H p=some (.set S n))
 |_=>False
def QM{pins:List (Addr×Obj)}{σ:St}{H:Hp}{s:Shared}{T:String}{x:V}{v:Value}(I:Inv X pins σ H s)(r:RelV x v)(ty:tyV X.K T x H):
 s.TypeIs v T/\∀a,v=.ref a->∃ob,s.heap.get? a=some ob/\ob.dict=none:=by
 cases x with
 |str z=>
  obtain⟨t,rfl⟩:=r;cases(show T="str" from ty);exact⟨typeIs_str s z t,λ_ e=>nomatch e⟩
 |int i=>
  obtain⟨t,rfl⟩:=r;cases(show T="int" from ty);exact⟨typeIs_int s i t,λ_ e=>nomatch e⟩
 |ref p=>
  cases r;rcases ty with⟨rfl,xs,hq⟩|⟨rfl,o,hk,hc,hd⟩|⟨rfl,hk⟩|⟨rfl,S,n,hk⟩
  .obtain⟨its,_,pl,_⟩:=I.list hq;refine⟨pl.isList.typeIs,λa e=>?_⟩;cases e;obtain⟨o,n,e,c,hd,_⟩:=pl;exact⟨o,e,hd⟩
  .refine⟨⟨o,I.kIn p o hk,hc⟩,λa e=>?_⟩;cases e;exact⟨o,I.kIn _ o hk,hd⟩
  .have z:∃o,s.heap.get? p=some o/\o.ExactDict:=by
    rcases hk with⟨kvs,hk⟩|⟨kvs,hk⟩
    .obtain⟨_,_,_,_,o,_,_,e,ex,_⟩:=I.hok p _ hk;exact⟨o,e,ex⟩
    .obtain⟨_,_,_,_,o,_,_,e,ex,_⟩:=I.hok p _ hk;exact⟨o,e,ex⟩
   obtain⟨o,e,ex⟩:=z;refine⟨⟨o,e,ex.1⟩,λa e2=>?_⟩;cases e2;exact⟨o,e,ex.2.1⟩
  .obtain⟨o,_,_,_,e,ex,_⟩:=I.hok p _ hk;refine⟨⟨o,e,ex.1⟩,λa e2=>?_⟩;cases e2;exact⟨o,e,ex.2.1⟩
 |_=>exact False.elim ty
def T5(K:PySem.W.Frag)(T:String)(r:V->List V->Hp->VK->Prop)(to:TE):TE:=λσ H Q=>to σ H λx H1=>tyV K T x H1/\r x [] H1 Q
def tBM(K:PySem.W.Frag)(T:String)(r:V->List V->Hp->VK->Prop)(to:TE)(t:TA):TE:=λσ H Q=>to σ H λx H1=>tyV K T x H1/\t σ H1 λxs H2=>r x xs H2 Q
variable{o e:Expr}{es:List Expr}{to:TE}{t:TA}{name:Str}{apos cpos:Pos}{T id:String}{r:V->List V->Hp->VK->Prop}
def aS(pa:PlainAttrs T)(slot:Slot T name id)(hty:typeOf (.builtin id)=pure (.type "method_descriptor"))(hm:MtR X id r)(ho:PE X o to)
 (hbase:attributeBase o name X.env (eval o X.env)=eval o X.env:=by rfl) (hline:(apos.endLine==cpos.line)=true:=by rfl):PE X (.Call (.Attribute o name apos) [] [] cpos) (T5 X.K T r to):=by
 intro pins s σ H Q I h;refine wpAny_Call_method0_late hbase hline (thn (ho pins s σ H _ I h) λv s1 ⟨x,H1,I1,r1,ty,q1⟩=>?_);obtain⟨h1,h2⟩:=QM I1 r1 ty;exact⟨T,id,pa,slot,hty,h1,h2,Calls.callWith_builtin rfl (PySem.evalArgs_none (hm pins s1 σ H1 x [] v [] Q I1 r1 .nil q1))⟩
def cL(pa:PlainAttrs T)(slot:Slot T name id)(hty:typeOf (.builtin id)=pure (.type "method_descriptor"))(hm:MtR X id r)(ho:PE X o to)(ha:PA X (e::es) t)
 (hbase:attributeBase o name X.env (eval o X.env)=eval o X.env:=by rfl)
 (hfew:((backTo cpos (starEach (e::es) X.env)).all (λx=>!x.1)&&(backToKw cpos (keywordEach [] X.env)).all (λx=>x.1.isSome)
  && decide ((e::es).length+([]:List Keyword).length+(if([]:List Keyword).isEmpty then 0 else 1)<30))=true:=by rfl)
 (hline:(apos.endLine==cpos.line)=true:=by rfl) (hs:starEach (e::es) X.env=(false,eval e X.env)::starEach es X.env:=by rfl) (hplain:(backTo cpos (starEach es X.env)).any (·.1)=false:=by rfl):
 PE X (.Call (.Attribute o name apos) (e::es) [] cpos) (tBM X.K T r to t):=by
 intro pins s σ H Q I h;refine wpAny_Call_method_late hbase hfew hline rfl (thn (ho pins s σ H _ I h) λv s1 ⟨x,H1,I1,r1,ty,q1⟩=>?_);obtain⟨h1,h2⟩:=QM I1 r1 ty;refine⟨T,id,pa,slot,hty,h1,h2,?_⟩;have hA:=ha cpos pins s1 σ H1 _ I1 q1;rw[hs]at hA ⊢;refine Calls.callWith_builtin (by show(false||(backTo cpos (starEach es X.env)).any (·.1))=false;rw[hplain]<;>rfl) (Calls.evalArgs_plain ?_);exact thn hA λus s2 ⟨vs,H2,I2,r2,q2⟩=>hm pins s2 σ H2 x vs v us Q I2 r1 r2 q2
end
def MtM(X:Cx)(id:String)(r:V->List V->Hp->VK->Prop):Prop:=
 ∀(pins:List (Addr×Obj)) (s:Shared) (σ:St) (H:Hp) (x:V) (xs:List V) (v:Value) (us:List Value) (Q:VK),Inv X pins σ H s->RelV x v->Vals xs us->r x xs H Q ->
   wpAny (model X.prog X.w) X.A (call (.builtin id) (v::us)) (EP X pins σ Q) X.xe s
def Vals.one:∀{x:V} {us:List Value},Vals [x] us->∃u,us=[u]/\RelV x u
 |_,_,.cons r .nil=>⟨_,rfl,r⟩
def Vals.zero:∀{us:List Value},Vals [] us->us=[]
 |_,.nil=>rfl
def Vals.dropLast{xs:List V}{us:List Value}(h:Vals xs us):Vals xs.dropLast us.dropLast:=by
 induction h with
 |nil=>exact .nil
 |cons r t ih=>
  cases t with
  |nil=>exact .nil
  |cons q t'=>exact .cons r ih
def Vals.eraseIdx:∀{xs:List V} {us:List Value} (i:Nat),Vals xs us->Vals (xs.eraseIdx i) (us.eraseIdx i)
 |_,_,_,.nil=>.nil
 |_,_,0,.cons _ t=>t
 |_,_,i+1,.cons r t=>.cons r (Vals.eraseIdx i t)
def Vals.rep{xs:List V}{us:List Value}(h:Vals xs us):∀k:Nat,Vals (List.replicate k xs).flatten (List.replicate k us).flatten
 |0=>.nil
 |k+1=>by
  rw[replicate_succ,replicate_succ,flatten_cons,flatten_cons];exact Vals.append h (Vals.rep h k)
def Pq{α:Type}(l:List α):l.eraseIdx (l.length-1)=l.dropLast:=by
 induction l with
 |nil=>rfl
 |cons a r ih=>
  cases r with
  |nil=>rfl
  |cons b r=>
   have e:(a::b::r).length-1=((b::r).length-1)+1:=by
    have h1:(a::b::r).length=r.length+2:=rfl;have h2:(b::r).length=r.length+1:=rfl;omega
   rw[e,List.eraseIdx_cons_succ,ih]
   all_goals rfl
def Kq{α:Type}:∀(l:List α) (i:Nat),(l.eraseIdx i).length<=l.length
 |[],_=>le_refl _
 |_::_,0=>le_succ _
 |_::r,i+1=>Nat.succ_le_succ (Kq r i)
def Kx(its:List Value):∀(k:Nat) (acc:List Value),
 List.foldl (λx1 x2=>x1++x2) acc.toArray (List.replicate k its.toArray)=(acc++(List.replicate k its).flatten).toArray
 |0,acc=>by simp
 |k+1,acc=>by
  have e:acc.toArray++its.toArray=(acc++its).toArray:=by simp
  have e2:(acc++its)++(List.replicate k its).flatten=acc++(List.replicate (k+1) its).flatten:=by
   rw[replicate_succ,flatten_cons,append_assoc]
  rw[<- e2,<- Kx its k (acc++its),<- e,replicate_succ,List.foldl_cons]
section
variable{X:Cx}{pins:List (Addr×Obj)}{σ:St}{H:Hp}{s:Shared}{l b:Addr}{xs ys zs:List V}
def Inv.lset{its its':List Value}{n:Nat}{f:Array Value->Array Value}{t':Nat}(I:Inv X pins σ H s)(hH:H l=some (.lst xs))
 (e:s.heap.get? l=some { cls:=.type "list",data:=.seq its.toArray n }) (hf:f its.toArray=its'.toArray) (hv:Vals ys its') (hz:ys.length<=sizeLine):
 Inv X pins σ (upd H l (.lst ys)) { s with heap:=s.heap.update l (Obj.mapSeq f),toks:=t' }:=by
 have q:=PySem.IsL.update e f;rw[hf]at q;refine I.write (x:=l) (e:=l) (by rw[hH];exact trivial) (.inl rfl) (λb' u hb hu=>(Heap.get?_update_other s.heap (Obj.mapSeq f) (Ne.symm hb)).trans hu) ⟨_,q⟩ ?_;exact⟨hz,its',_,hv,q⟩
def Inv.lnew{its:List Value}{t':Nat}(I:Inv X pins σ H s)(hv:Vals ys its)(hz:ys.length<=sizeLine):
 Inv X pins σ (upd H s.heap.objs.size (.lst ys)) { s with heap:=s.heap.push { cls:=.type "list",data:=.seq its.toArray },toks:=t' }:=
 I.laid (λ_ _ q=>Heap.get?_push_of_some _ q) (le_refl _) ⟨hz,its,0,hv,Heap.get?_push_size _ rfl⟩
def Inv.fresh(I:Inv X pins σ H s):H s.heap.objs.size=none:=I.hok.fresh (le_refl _)
def Inv.lstM(I:Inv X pins σ H s)(hH:H l=some (.lst xs)):xs.length<=sizeLine/\∃(its:List Value) (n:Nat),Vals xs its/\xs.length=its.length/\s.heap.get? l=some { cls:=.type "list",data:=.seq its.toArray n }:=by
 obtain⟨z,its,n,r,e⟩:=I.hok l _ hH;exact⟨z,its,n,r,r.length,e⟩
def IT{n:Nat}(h:n<=sizeLine):Builtin.List.listTooLong n=false:=by
 unfold Builtin.List.listTooLong;exact decide_eq_false (by omega)
end
section
variable{X:Cx}
def O7:V->List V->Hp->VK->Prop:=λx vs H Q=>∃l xs y,x=.ref l/\vs=[y]/\H l=some (.lst xs)/\xs.length<sizeLine/\Q .non (upd H l (.lst (xs++[y])))
def Km:MtM X "list.append" O7:=by
 intro pins s σ H x vs v us Q I rx rv h;obtain⟨l,xs,y,rfl,rfl,hH,hz,q⟩:=h;cases rx;obtain⟨u,rfl,ru⟩:=rv.one;obtain⟨z,its,n,r,hl,e⟩:=I.lstM hH;refine call_meets F.slot_list_append ⟨_,e,rfl⟩ F.entry_list_append (F.args_list_append_2 _ _) (PySem.list_append l its.toArray n u (by rw[size_toArray];omega)) ⟨e,?_⟩;refine⟨.non,_,I.lset (its':=its++[u]) hH e (by simp) (r.append (.cons ru .nil)) ?_,rfl,q⟩;rw[length_append,List.length_singleton];omega
def O6:V->List V->Hp->VK->Prop:=λx vs H Q=>∃l b xs zs,x=.ref l/\vs=[.ref b]/\H l=some (.lst xs)/\H b=some (.lst zs)/\xs.length+zs.length<=sizeLine/\Q .non (upd H l (.lst (xs++zs)))
def Rl:MtM X "list.extend" O6:=by
 intro pins s σ H x vs v us Q I rx rv h;obtain⟨l,b,xs,zs,rfl,rfl,hH,hB,hz,q⟩:=h;cases rx;obtain⟨u,rfl,ru⟩:=rv.one;cases ru;obtain⟨z,its,n,r,hl,e⟩:=I.lstM hH;obtain⟨z2,its2,n2,r2,hl2,e2⟩:=I.lstM hB;have hsz:its.toArray.size+its2.toArray.size<=sizeLine:=by rw[size_toArray,size_toArray];omega
 have hlong:¬ (!its.toArray.isEmpty&&Builtin.List.listTooLong (its.toArray.size+its2.toArray.size))=true:=by
  rw[IT hsz,Bool.and_false];exact Bool.false_ne_true
 refine call_meets F.slot_list_extend ⟨_,e,rfl⟩ F.entry_list_extend (F.args_list_extend_2 _ _)
  (AutoSeq1.list_extend_list_list_0 l its.toArray n b its2.toArray n2 hlong (by rw[size_toArray];omega) (by omega)) ⟨e,e2,?_⟩
 refine⟨.non,_,I.lset (its':=its++its2) hH e (by simp) (r.append r2) ?_,rfl,q⟩;rw[length_append];omega
def ZM:V->List V->Hp->VK->Prop:=λx vs H Q=>∃l xs y,x=.ref l/\vs=[]/\H l=some (.lst xs)/\xs[xs.length-1]?=some y/\Q y (upd H l (.lst xs.dropLast))
def aq:MtM X "list.pop" ZM:=by
 intro pins s σ H x vs v us Q I rx rv h;obtain⟨l,xs,y,rfl,rfl,hH,hy,q⟩:=h;cases rx;have hus:=rv.zero;subst hus;obtain⟨z,its,n,r,hl,e⟩:=I.lstM hH;obtain⟨u,hu,ru⟩:=r.get hy;have hy':its.toArray[its.toArray.size-1]?=some u:=by
  show its.toArray[its.length-1]?=some u;rw[<- Array.getElem?_toList,<- hl];exact hu
 refine call_meets F.slot_list_pop ⟨_,e,rfl⟩ F.entry_list_pop (F.args_list_pop_1 _) (MeetsSeq.list_pop_last l its.toArray n u hy' (by rw[size_toArray];omega)) ⟨e,?_⟩;refine⟨y,_,I.lset (its':=its.dropLast) hH e ?_ r.dropLast ?_,ru,q⟩
 .show its.toArray.eraseIdxIfInBounds (its.toArray.size-1)=its.dropLast.toArray;rw[size_toArray,List.eraseIdxIfInBounds_toArray,Pq]
 .rw[List.length_dropLast];omega
def RJ:V->List V->Hp->VK->Prop:=λx vs H Q=>∃l xs i k y,x=.ref l/\vs=[.int i]/\H l=some (.lst xs)/\-(2^63)<=i/\i<2^63/\seqIndex? i xs.length=some k/\xs[k]?=some y/\Q y (upd H l (.lst (xs.eraseIdx k)))
def UT:MtM X "list.pop" RJ:=by
 intro pins s σ H x vs v us Q I rx rv h;obtain⟨l,xs,i,k,y,rfl,rfl,hH,h1,h2,hk,hy,q⟩:=h;cases rx;obtain⟨u,rfl,ru⟩:=rv.one;obtain⟨t,rfl⟩:=ru;obtain⟨z,its,n,r,hl,e⟩:=I.lstM hH;obtain⟨w,hw,rw'⟩:=r.get hy;refine call_meets F.slot_list_pop ⟨_,e,rfl⟩ F.entry_list_pop (F.args_list_pop_2 _ _)
  (MeetsSeq.list_pop_at l its.toArray n i t k w (fitsIndex_both h1 h2) (by rw[size_toArray,<- hl];exact hk) (by rw[<- Array.getElem?_toList];exact hw) (by rw[size_toArray];omega)) ⟨e,?_⟩
 refine⟨y,_,I.lset (its':=its.eraseIdx k) hH e ?_ (r.eraseIdx k) ?_,rw',q⟩
 .show its.toArray.eraseIdxIfInBounds k=(its.eraseIdx k).toArray;rw[List.eraseIdxIfInBounds_toArray]
 .have:=Kq xs k;omega
def To:R2:=λx y H Q=>∃l b xs zs,x=.ref l/\y=.ref b/\H l=some (.lst xs)/\H b=some (.lst zs)/\xs.length+zs.length<=sizeLine/\∀p,H p=none->Q (.ref p) (upd H p (.lst (xs++zs)))
def ag:OpR X (binaryOp .Add) To:=by
 intro pins s σ H x y v u Q I rx ry h;obtain⟨l,b,xs,zs,rfl,rfl,hH,hB,hz,q⟩:=h;cases rx;cases ry;obtain⟨z,its,n,r,hl,e⟩:=I.lstM hH;obtain⟨z2,its2,n2,r2,hl2,e2⟩:=I.lstM hB;refine PySem.P.add_list e e2 ?_ (by rw[size_toArray,size_toArray];omega);have ea:its.toArray++its2.toArray=(its++its2).toArray:=by simp
 rw[ea];exact⟨.ref _,_,I.lnew (t':=s.toks) (r.append r2) (by rw[length_append];omega),rfl,q _ I.fresh⟩
def Tj:R2:=λx y H Q=>∃l k xs,x=.ref l/\y=.int k/\H l=some (.lst xs)/\-(2^63)<=k/\k<2^63/\xs.length*k.toNat<=sizeLine /\
 ∀p,H p=none->Q (.ref p) (upd H p (.lst (List.replicate k.toNat xs).flatten))
def Xq{α:Type}(xs:List α)(k:Nat):(List.replicate k xs).flatten.length=k*xs.length:=by
 induction k with
 |zero=>simp
 |succ k ih=>rw[replicate_succ,flatten_cons,length_append,ih,Nat.succ_mul,Nat.add_comm]
def aa:OpR X (binaryOp .Mult) Tj:=by
 intro pins s σ H x y v u Q I rx ry h;obtain⟨l,k,xs,rfl,rfl,hH,h1,h2,hz,q⟩:=h;cases rx;obtain⟨t,rfl⟩:=ry;obtain⟨z,its,n,r,hl,e⟩:=I.lstM hH;have hlen:its.toArray.size*k.toNat<=sizeLine:=by rw[size_toArray,<- hl];exact hz
 have hcap:¬ its.toArray.size*k.toNat>(2^63-1)/8:=by
  have:(sizeLine:Nat)<=(2^63-1)/8:=by decide
  omega
 have hfit:¬ (!Builtin.List.listFitsIndex k)=true:=by
  rw[fitsIndex_both h1 h2];exact Bool.false_ne_true
 have hlong:¬ Builtin.List.listTooLong (its.toArray.size*k.toNat)=true:=by
  rw[IT hlen];exact Bool.false_ne_true
 have hnew:List.foldl (λx1 x2=>x1++x2) #[] (List.replicate (if its.toArray.isEmpty=true then 0 else k.toNat) its.toArray)=(List.replicate k.toNat its).flatten.toArray:=by
  have f0:∀m:Nat,List.foldl (λx1 x2=>x1++x2) #[] (List.replicate m its.toArray)=(List.replicate m its).flatten.toArray:=λm=>by
   have:=Kx its m [];rw[nil_append]at this;exact this
  rw[f0];cases its with
  |nil=>simp
  |cons a r'=>rw[if_neg (by simp)]
 refine wpAny_binaryOp_repeat_ref (T:="list") (U:="int") (by decide) ⟨_,e,rfl⟩ (λs'=>typeIs_int s' k t) noFill_list_mul F.fills_int_mul F.slot_int_rmul repeat_list F.slot_int_index.lookup
  (call_meets F.slot_int_rmul (typeIs_int s k t) F.entry_int_rmul (F.args_int_rmul_2 _ _) (int___rmul___int_list k t l its.toArray n)
   ⟨e,rfl,⟨_,e,rfl⟩,call_meets F.slot_list_mul ⟨_,e,rfl⟩ F.entry_list_mul (F.args_list_mul_2 _ _) (AutoListH.list___mul___list_int_3 l its.toArray n k t hfit hcap hlong) ⟨e,?_⟩⟩)
 rw[hnew];exact⟨.ref _,_,I.lnew (t':=s.toks) (r.rep k.toNat) (by rw[Xq,Nat.mul_comm];exact hz),rfl,q _ I.fresh⟩
end
end L2
namespace Att
open PySem PySem.W PySem.Calls PyProof.Rows
def JZ{P:Params}{h:Heap}:∀(ns:List Int) (vs:List Value),WellAll P h vs (ns.map WData.int)->IntsAre vs ns:=by
 intro ns
 induction ns with
 |nil=>
  intro vs w;rw[map_nil]at w;cases w;exact .nil
 |cons n ns ih=>
  intro vs w;rw[map_cons]at w;cases w with
  |cons a b=>
   cases a;exact .cons _ _ (ih _ b)
def Qc{l:OpenLaw}{n:Nat}(hn:l.most=some n){P:Params}{h:Heap}{args:List WData}{vals:List Value}
 (hpre:l.row.toRowW.claim.pre args=true) (hwl:WellAll P h vals args):
 ∃a vs ns,vals=[Value.ref a]/\args=[WData.list (ns.map WData.int)]/\h.get? a=some { cls:=.type "list",data:=.seq vs.toArray }/\IntsAre vs ns/\ns.length<=n:=by
 have hsh:WShape.hasAll [] args [.list .int]=true:=(pre_splitW hpre).1;have hc:l.pre.holds [] { args:=args }=true:=(pre_splitW hpre).2;obtain⟨d,r,rfl,h1,h2⟩:=hasAllW_cons hsh;obtain rfl:=hasAllW_nil h2;obtain⟨xs,rfl,h3⟩:=hasW_list h1;obtain⟨ns,rfl⟩:=items_int h3;have hlen:ns.length<=n:=by
  unfold OpenLaw.pre at hc;have h4:(WTm.not (.lt (.lit (.int (n:Int))) (.len (.arg 0)))).holds [] { args:=[.list (ns.map .int)] }=true:=by
   have h4:=(holds_andW hc).1;rw[hn]at h4;exact h4
  have h5:=condW_of h4 (w_not (w_lt w_lit (w_len_list (w_arg rfl))));rw[length_map]at h5;refine Nat.le_of_not_lt λq=>?_;have q':(n:Int)<((ns.length:Nat):Int):=by omega
  first
   |(rw[decide_eq_true q']at h5;exact absurd h5 (by decide))
   |(simp at h5;omega)
 cases hwl with
 |cons w1 w2=>
  cases w2;cases w1 with
  |list ho hall=>exact⟨_,_,ns,rfl,rfl,ho,JZ ns _ hall,hlen⟩
def RU(l:OpenLaw)(args:List WData):l.row.toRowW.claim.post args (.bool true) args=true:=
 postW_of (r:=l.row.toRowW) (X:=(true==true))
  (show WShape.has [] (.bool true) .bool=true by first|rfl|decide|simp[WShape.has,WShape.arms,WShape.armsAll])
  (show(WTm.eq .res (.lit (.bool true))).value [] { args:=args,res:=some (.bool true),after:=args }=some (.bool (true==true))from w_eq_bool (w_res rfl) w_lit) rfl
def attach_call{l:OpenLaw}{n:Nat}{q:Program}{loose:List Str}{XP:(Str->Option Value)->Heap->Prop}{YP:World->Heap->Prop}{d:DefRec}
 (hn:l.most=some n) (hdf:d.params.defaults=[])
 (call:∀(w:World) (s₀ s₁:Shared) (mg mb:Str->Option Value) (fa:Addr) (o:Obj) (pm cd doc:Value) (a:Addr) (vs:List Value) (ns:List Int),
  Ground q loose [] XP w s₀ mg mb s₁.heap->YP w s₁.heap ->
  s₁.heap.get? fa=some o->o.data=.func (docDef d.name d.params d.body d.scope pm cd doc)->s₁.heap.CodeRec cd d.name->mg d.name=some (.ref fa) ->
  s₁.heap.get? a=some { cls:=.type "list",data:=.seq vs.toArray }->IntsAre vs ns->ns.length<=n->s₁.gens=#[] ->
  codeAny (model l.prog w) callerA (.call (.ref fa) ⟨[.ref a],[]⟩) (λr s'=>r=.ok (.ret (.bool true))/\OldK s₁.heap s'.heap/\s'.os=s₁.os/\AllBare s'.gens) s₁):
 WalkO q loose XP YP l.row.toRowW d [] (λf vs=>PySem.call f vs):=by
 intro w s₀ s₁ mg mb G Y fa o pm cd doc dV kV ho hd hcd hD hmg hg args vals as hpre hlay hrd hwl hlo;obtain rfl:dV=.none:=Dflts.none hD hdf;obtain rfl:kV=.none:=Dflts.noKw hD;obtain⟨a,vs,ns,rfl,rfl,hobj,hints,hlen⟩:=Qc hn hpre hwl;refine enter_call (codeAny_mono (call w s₀ s₁ mg mb fa o pm cd doc a vs ns G Y ho (fd_plain hd) hcd hmg hobj hints hlen hg) λr s' hq=>?_);obtain⟨rfl,h2,h3,h4⟩:=hq;exact⟨.inl ⟨.bool true,.bool true,[],rfl,λ_=>rfl,.bool true,RU l _,λ_=>⟨List.Pairwise.nil,λ_ hm=>(nomatch hm)⟩⟩,h2,h3,h4⟩
end Att
namespace L2
open PySem PySem.Spec PyProof.Rows
def Ka:∀{vs:List Value} {ns:List Int},IntsAre vs ns->Vals (ns.map V.int) vs
 |_,_,.nil=>.nil
 |_,_,.cons n t h=>.cons ⟨t,rfl⟩ (Ka h)
def By(s:Stmt):Arguments:=match s with
 |.FunctionDef _ a _ _ _ _ _ _ _ _=>a
 |_=>{ posonlyargs:=[],args:=[],vararg:=none,kwonlyargs:=[],kw_defaults:=[],kwarg:=none,defaults:=[] }
def BP(s:Stmt):List Stmt:=match s with
 |.FunctionDef _ _ b _ _ _ _ _ _ _=>b
 |_=>[]
def A9(s:Stmt):Scope:=match s with
 |.FunctionDef _ _ _ _ _ _ sc _ _ _=>sc
 |_=>{ kind:=.function,names:=[],isGenerator:=false,isCoroutine:=false }
abbrev CX0:CXT:=λ_ _ _ _ _ _=>False
abbrev E0:XK:=λ_ _ _=>False
def VS{X:Cx}:Jq CX0 X E0:=λ_ _ _ _ _ _ _ h=>h.elim
structure Fun(K:PySem.W.Frag)(x qual:Str)(st:Stmt)(f:Addr)(fd:FuncData):Prop where
 ex:∃(oc:Value) (od:Option Addr) (kV doc pm:Value) (an:Option Addr) (cdv ct:Value) (osl:Array (Option Value)),
  fd=PySem.W.fnOf x qual (By st) (BP st) (A9 st) .none kV doc pm an cdv ct/\K.lookup f=some ⟨oc,od,.func fd,osl⟩/\PySem.W.codeIn K cdv qual=true
 kp:PySem.W.keepIn K (.ref f)=true
section
variable{P:Program}{w:World}{K:PySem.W.Frag}{mg:Str->Option Value}{base:Heap}
def Fun.ok{x qual:Str}{st:Stmt}{f:Addr}{fd:FuncData}{N ps:List Str}{k:Nat}{sp:Sp}(F:Fun K x qual st f fd)(S:FnScope N ps (A9 st))(len:∀vs H Q E,sp vs H Q E->vs.length=ps.length)
 (hbody:∀(cdv:Value) (A:Around) (outer:List Env) (s:Shared) (H:Hp) (vs:List V) (Q:VK) (E:XK),Room k (A.deeper (envOfC qual (A9 st) s.heap.objs.size f cdv))->sp vs H Q E ->
  ∃t,PSs (F9 CX0 P w K mg base N qual (A9 st) f cdv A outer s H E).nox (BP st) t/\t { nx:=λ_ H'=>Q .non H',rt:=Q } (start N vs) H):FnOk P w K mg base CX0 (k+1) f fd ps sp:=by
 obtain⟨oc,od,kV,doc,pm,an,cdv,ct,osl,rfl,lk,hcd⟩:=F.ex;refine Va lk hcd S len λA outer s H vs Q E hr hsp=>?_;obtain⟨t,h,q⟩:=hbody cdv A outer s H vs Q E hr hsp;exact⟨t,h.nox,q⟩
def Fun.binds{x qual:Str}{st:Stmt}{f:Addr}{fd:FuncData}{ps:List Str}(F:Fun K x qual st f fd)
 (h:∀(kV doc pm:Value) (an:Option Addr) (cdv ct:Value) (us:List Value),us.length=ps.length->bindArgs (PySem.W.fnOf x qual (By st) (BP st) (A9 st) .none kV doc pm an cdv ct) ⟨us,[]⟩=pure (ps.zip us)):Binds K fd ps []:=by
 obtain⟨oc,od,kV,doc,pm,an,cdv,ct,osl,rfl,lk,hcd⟩:=F.ex;exact .all (h kV doc pm an cdv ct)
def bE{x qual:Str}{st:Stmt}{f:Addr}{oc:Value}{od an:Option Addr}{osl:Array (Option Value)}{kV doc pm cdv ct:Value}(l:K.lookup f=some ⟨oc,od,.func (PySem.W.fnOf x qual (By st) (BP st) (A9 st) .none kV doc pm an cdv ct),osl⟩)
 (c:PySem.W.codeIn K cdv qual=true) (k:PySem.W.keepIn K (.ref f)=true):Fun K x qual st f (PySem.W.fnOf x qual (By st) (BP st) (A9 st) .none kV doc pm an cdv ct):=⟨⟨oc,od,kV,doc,pm,an,cdv,ct,osl,rfl,l,c⟩,k⟩
end
def Lg{A:Around}{k:Nat}(hr:Room k A):A.units+1<cLine:=Nat.lt_of_le_of_lt (Nat.add_le_add_left (by decide:1<=64) _) hr.units
def GS{n:Nat}(h:n<=1000):n<sizeLine:=Nat.lt_of_le_of_lt h (by decide)
section
variable{κ:Type}[DecidableEq κ]
def DW(kvs:List (κ×V))(k:κ):Option V:=(kvs.find? λkv=>decide (kv.1=k)).map (·.2)
def CV(kvs:List (κ×V))(k:κ)(v:V):List (κ×V):=
 if(kvs.any λkv=>decide (kv.1=k))=true then kvs.map (λkv=>if kv.1=k then(kv.1,v)else kv)else kvs++[(k,v)]
def EN{p:κ×V}{r:List (κ×V)}{k:κ}(e:p.1=k):DW (p::r) k=some p.2:=by simp[DW,find?_cons,e]
def EO{p:κ×V}{r:List (κ×V)}{k:κ}(e:¬ p.1=k):DW (p::r) k=DW r k:=by simp[DW,find?_cons,e]
def Lx(k:κ):∀kvs:List (κ×V),(kvs.any λkv=>decide (kv.1=k))=(DW kvs k).isSome
 |[]=>rfl
 |p::r=>by
  rw[any_cons];by_cases e:p.1=k
  .simp only[EN e,decide_eq_true e,Bool.true_or,Option.isSome_some]
  .rw[EO e,decide_eq_false e,Bool.false_or];exact Lx k r
def F5(kvs:List (κ×V))(k:κ)(v:V):(CV kvs k v).length<=kvs.length+1:=by
 unfold CV;split
 .rw[length_map];omega
 .rw[length_append,length_cons,length_nil];omega
def RelO.isSome_eq{o:Option V}{u:Option Value}(r:RelO o u):o.isSome=u.isSome:=by
 cases o with
 |none=>cases u with
  |none=>rfl
  |some _=>exact(show False from r).elim
 |some _=>cases u with
  |none=>exact(show False from r).elim
  |some _=>rfl
def KV.val{kvs:List (κ×V)}{vs:List (κ×Value)}(r:KV kvs vs)(k:κ):RelO (DW kvs k) (valueAt vs k):=by
 unfold KV at r
 induction r with
 |nil=>exact True.intro
 |@cons p q ps qs h t ih=>
  obtain⟨h1,h2⟩:=h;by_cases e:p.1=k
  .have e':q.1=k:=h1.symm.trans e;have b:valueAt (q::qs) k=some q.2:=by simp[valueAt,find?_cons,e']
   rw[EN e,b];exact h2
  .have e':¬ q.1=k:=λz=>e (h1.trans z);have b:valueAt (q::qs) k=valueAt qs k:=by simp[valueAt,find?_cons,e']
   rw[EO e,b];exact ih
def KV.any{kvs:List (κ×V)}{vs:List (κ×Value)}(r:KV kvs vs)(k:κ):(kvs.any λkv=>decide (kv.1=k))=vs.any λkv=>decide (kv.1=k):=by
 unfold KV at r
 induction r with
 |nil=>rfl
 |cons h t ih=>rw[any_cons,any_cons,ih,h.1]
def KV.repl{kvs:List (κ×V)}{vs:List (κ×Value)}(r:KV kvs vs)(k:κ){y:V}{u:Value}(ry:RelV y u):
 KV (kvs.map λkv=>if kv.1=k then(kv.1,y)else kv) (vs.map λkv=>if kv.1=k then(kv.1,u)else kv):=by
 unfold KV at r ⊢
 induction r with
 |nil=>exact .nil
 |@cons p q ps qs h t ih=>
  rw[map_cons,map_cons];refine .cons ?_ ih;obtain⟨h1,h2⟩:=h;by_cases e:p.1=k
  .rw[if_pos e,if_pos (h1.symm.trans e)];exact⟨h1,ry⟩
  .rw[if_neg e,if_neg (λz=>e (h1.trans z))];exact⟨h1,h2⟩
def KV.put{kvs:List (κ×V)}{vs:List (κ×Value)}(r:KV kvs vs)(k:κ){y:V}{u:Value}(ry:RelV y u):KV (CV kvs k y) (stored vs k u):=by
 unfold CV stored;rw[r.any k];by_cases e:(vs.any λkv=>decide (kv.1=k))=true
 .rw[if_pos e,if_pos e];exact r.repl k ry
 .rw[if_neg e,if_neg e];exact Paired.snoc r ⟨rfl,ry⟩
def KV.length{kvs:List (κ×V)}{vs:List (κ×Value)}(r:KV kvs vs):kvs.length=vs.length:=Paired.length r
end
def HY{P:Program}{w:World}{k:Key}{u:Value}(r:RelV (kV k) u):(BY P w).is k u=true:=by
 cases k with
 |inl i=>obtain⟨t,e⟩:=(show ∃t,u=Value.int i t from r);subst e;exact Nc P w i t
 |inr x=>obtain⟨t,e⟩:=(show ∃t,u=Value.str x t from r);subst e;exact Nb P w x t
def Kv{P:Program}{w:World}:∀{ks:List Key} {us:List Value},Vals (ks.map kV) us->ItemsAre (BY P w) ks us
 |[],_,r=>by rw[map_nil]at r;cases r;exact .nil
 |k::ks,_,r=>by
  rw[map_cons]at r;cases r with
  |cons h t=>exact .cons (HY h) (Kv t)
abbrev KT(H:Hp):List (List Key×V)->List (List Key×Addr×Value)->Prop:=Paired λp q=>p.1=q.1/\H q.2.1=some (.tup (p.1.map kV))/\RelV p.2 q.2.2
def KT.val{H:Hp}{kvs:List (List Key×V)}{xs:List (List Key×Addr×Value)}(r:KT H kvs xs)(k:List Key):RelO (DW kvs k) ((atKey xs k).map (·.2)):=by
 induction r with
 |nil=>exact True.intro
 |@cons p q ps qs h t ih=>
  obtain⟨h1,_,h2⟩:=h;by_cases e:p.1=k
  .have e':q.1=k:=h1.symm.trans e;have b:atKey (q::qs) k=some q.2:=by simp[atKey,find?_cons,e']
   rw[EN e,b];exact h2
  .have e':¬ q.1=k:=λz=>e (h1.trans z);have b:atKey (q::qs) k=atKey qs k:=by simp[atKey,find?_cons,e']
   rw[EO e,b];exact ih
def KT.repl{H:Hp}{kvs:List (List Key×V)}{xs:List (List Key×Addr×Value)}(r:KT H kvs xs)(k:List Key){y:V}{u:Value}(ry:RelV y u):
 KT H (kvs.map λkv=>if kv.1=k then(kv.1,y)else kv) (xs.map (putAt k u)):=by
 induction r with
 |nil=>exact .nil
 |@cons p q ps qs h t ih=>
  rw[map_cons,map_cons];refine .cons ?_ ih;obtain⟨h1,h2,h3⟩:=h;unfold putAt;by_cases e:p.1=k
  .rw[if_pos e,if_pos (h1.symm.trans e)];exact⟨h1,h2,ry⟩
  .rw[if_neg e,if_neg (λz=>e (h1.trans z))];exact⟨h1,h2,h3⟩
def KT.put{H:Hp}{kvs:List (List Key×V)}{xs:List (List Key×Addr×Value)}(r:KT H kvs xs)(k:List Key){b:Addr}{y:V}{u:Value}(hb:H b=some (.tup (k.map kV)))(ry:RelV y u):
 KT H (CV kvs k y) (storedH xs k b u):=by
 have e:(kvs.any λkv=>decide (kv.1=k))=(atKey xs k).isSome:=by
  rw[Lx,(r.val k).isSome_eq,isSome_map]
 unfold CV storedH;rw[e];by_cases q:(atKey xs k).isSome=true
 .rw[if_pos q,if_pos q];exact r.repl k ry
 .rw[if_neg q,if_neg q];exact Paired.snoc r ⟨rfl,hb,ry⟩
def KT.keeps{H H':Hp}{kvs:List (List Key×V)}{xs:List (List Key×Addr×Value)}(r:KT H kvs xs)(ht:∀b ys,H b=some (.tup ys)->H' b=some (.tup ys)):KT H' kvs xs:=
 Paired.mapP r λ_ _ z=>⟨z.1,ht _ _ z.2.1,z.2.2⟩
section
variable{P:Program}{w:World}{H:Hp}{h:Heap}{a:Addr}
def VF{u:HO}(ok:HOk P w H h)(e:Rd H a u):ObjOk P w H h a u:=e.ok ok
def Jg{kvs:List (Key×V)}(ok:HOk P w H h)(e:Rd H a (.dK kvs)):kvs.length<=sizeLine/\(a==sysModules)=false/\∃vs,KV kvs vs/\h.DictOf (BY P w) a vs:=
 show ObjOk P w H h a (.dK kvs)from VF ok e
def Vd{kvs:List (Key×V)}(ok:HOk P w H h)(e:H a=some (.dK kvs)):kvs.length<=sizeLine/\(a==sysModules)=false/\∃vs,KV kvs vs/\h.DictOf (BY P w) a vs:=Jg ok (.inl e)
def Gp{ks:List Key}(ok:HOk P w H h)(e:H a=some (.tup (ks.map kV))):(tupleKind (BY P w)).is h ks a:=by
 obtain⟨_,its,r,o,h1,h2,⟨n,h3⟩,_⟩:=(show ObjOk P w H h a (.tup (ks.map kV))from ok a _ e)
 exact⟨o,its.toArray,n,h1,h2,h3,by simpa using Kv r⟩
def Jf{kvs:List (List Key×V)}(ok:HOk P w H h)(e:Rd H a (.dT kvs)):kvs.length<=sizeLine/\(a==sysModules)=false /\
 ∃xs,KT H kvs xs/\h.DictOfH (tupleKind (BY P w)) a xs:=by
 obtain⟨z,y,xs,r,o,es,ep,h1,h2,h3,h4,h5⟩:=(show ObjOk P w H h a (.dT kvs)from VF ok e)
 refine⟨z,y,xs,r,o,es,ep,h1,h2,h3,h4,λx hx=>?_,h5⟩;have all:∀{l:List (List Key×V)} {m:List (List Key×Addr×Value)},KT H l m->∀x∈m,(tupleKind (BY P w)).is h x.1 x.2.1:=by
  intro l m q
  induction q with
  |nil=>intro x hx;exact nomatch hx
  |@cons p q ps qs hq t ih=>
   intro x hx;rcases mem_cons.mp hx with e|hx
   .subst e;exact Gp ok (by rw[<- hq.1];exact hq.2.1)
   .exact ih x hx
 exact all r x hx
def cq{kvs:List (List Key×V)}(ok:HOk P w H h)(e:H a=some (.dT kvs)):kvs.length<=sizeLine/\(a==sysModules)=false /\
 ∃xs,KT H kvs xs/\h.DictOfH (tupleKind (BY P w)) a xs:=Jf ok (.inl e)
end
def DGet(H:Hp)(a:Addr)(y:V)(r:Option V):Prop:=
 (∃kvs k,Rd H a (.dK kvs)/\y=kV k/\r=DW kvs k)∨∃kvs k b,Rd H a (.dT kvs)/\y=.ref b/\H b=some (.tup (k.map kV))/\r=DW kvs k
def DPut(H:Hp)(a:Addr)(y v:V)(H':Hp):Prop:=
 (∃kvs k,H a=some (.dK kvs)/\y=kV k/\kvs.length<sizeLine/\H'=upd H a (.dK (CV kvs k v))) ∨
 ∃kvs k b,H a=some (.dT kvs)/\y=.ref b/\H b=some (.tup (k.map kV))/\kvs.length<sizeLine/\H'=upd H a (.dT (CV kvs k v))
def DGet.k{H:Hp}{a:Addr}{kvs:List (Key×V)}{k:Key}(e:H a=some (.dK kvs)):DGet H a (kV k) (DW kvs k):=.inl ⟨kvs,k,.inl e,rfl,rfl⟩
def DPut.k{H:Hp}{a:Addr}{kvs:List (Key×V)}{k:Key}{v:V}(e:H a=some (.dK kvs))(hl:kvs.length<sizeLine):DPut H a (kV k) v (upd H a (.dK (CV kvs k v))):=.inl ⟨kvs,k,e,rfl,hl,rfl⟩
section
variable{X:Cx}{pins:List (Addr×Obj)}{σ:St}{H:Hp}{s:Shared}{a:Addr}{y v:V}{u r:Value}{o:Option V}{A:Around}{E:Value->Shared->Prop}
def Inv.big(I:Inv X pins σ H s):sysModules<s.heap.objs.size:=by
 have h:mainGlobals<s.heap.objs.size:=(I.mod.glob.keeps I.bk).lt;exact lt_trans (by decide) h
def SN{Q:Value->Shared->Prop}(hu:A.units+1<cLine)(I:Inv X pins σ H s)(g:DGet H a y (some v))(ry:RelV y u)(h:∀w' s',Inv X pins σ H s'->RelV v w'->Q w' s'):
 wpAny (model X.prog X.w) A (getItem (.ref a) u) Q E s:=by
 rcases g with⟨kvs,k,e,ey,l⟩|⟨kvs,k,b,e,ey,eb,l⟩
 .subst ey;obtain⟨z,hd,vs,rel,dd⟩:=Jg I.hok e;obtain⟨w',hw,rw'⟩:=RelO.some_of (v:=v) (o:=valueAt vs k) (by rw[l];exact rel.val k);exact wpAny_getItem_of (HY ry) dd.mapOf hw (h w' _ (I.tok _) rw')
 .subst ey;cases(show u=Value.ref b from ry);obtain⟨z,hd,xs,rel,dd⟩:=Jf I.hok e;obtain⟨w',hw,rw'⟩:=RelO.some_of (v:=v) (o:=(atKey xs k).map (·.2)) (by rw[l];exact rel.val k);obtain⟨p,hp,hp2⟩:=fX hw;refine wpAny_getItem_heap (tupleKind_room_in1 hu) (Gp I.hok eb) dd hp ?_;rw[hp2];exact h w' _ (I.tok _) rw'
def db{Q:Value->Shared->Prop}(hu:A.units+1<cLine)(I:Inv X pins σ H s)(g:DGet H a y o)(ry:RelV y u)(h:∀s',Inv X pins σ H s'->Q (.bool o.isSome) s'):
 wpAny (model X.prog X.w) A (compareOp .In u (.ref a)) Q E s:=by
 rcases g with⟨kvs,k,e,ey,l⟩|⟨kvs,k,b,e,ey,eb,l⟩
 .subst ey;obtain⟨z,hd,vs,rel,dd⟩:=Jg I.hok e;refine wpAny_in_of (HY ry) hd dd.mapOf ?_;rw[<- (rel.val k).isSome_eq,<- l];exact h _ (I.tok _)
 .subst ey;cases(show u=Value.ref b from ry);obtain⟨z,hd,xs,rel,dd⟩:=Jf I.hok e;refine wpAny_in_heap (tupleKind_room_in1 hu) (Gp I.hok eb) hd dd ?_;have q:=(rel.val k).isSome_eq;rw[isSome_map]at q;rw[<- q,<- l];exact h _ (I.tok _)
def YI{Q:Value->Shared->Prop}(hu:A.units+1<cLine)(I:Inv X pins σ H s)(g:DGet H a y o)(ry:RelV y u)(h:∀s',Inv X pins σ H s'->Q (.bool (!o.isSome)) s'):
 wpAny (model X.prog X.w) A (compareOp .NotIn u (.ref a)) Q E s:=by
 rcases g with⟨kvs,k,e,ey,l⟩|⟨kvs,k,b,e,ey,eb,l⟩
 .subst ey;obtain⟨z,hd,vs,rel,dd⟩:=Jg I.hok e;refine wpAny_notIn_of (HY ry) hd dd.mapOf ?_;rw[<- (rel.val k).isSome_eq,<- l];exact h _ (I.tok _)
 .subst ey;cases(show u=Value.ref b from ry);obtain⟨z,hd,xs,rel,dd⟩:=Jf I.hok e;refine wpAny_notIn_heap (tupleKind_room_in1 hu) (Gp I.hok eb) hd dd ?_;have q:=(rel.val k).isSome_eq;rw[isSome_map]at q;rw[<- q,<- l];exact h _ (I.tok _)
def KU{h':Heap}{t':Nat}{ob:HO}(I:Inv X pins σ H s)(mu:Mut (H a))(hs:Heap.SameBut a s.heap h')(he:∃q,h'.get? a=some q)(new:ObjOk X.prog X.w (upd H a ob) h' a ob):
 Inv X pins σ (upd H a ob) { s with heap:=h',toks:=t' }:=
 I.write (x:=a) (e:=a) mu (.inl rfl) (λb q hb z=>(hs.2 b hb).trans z) he new
def SK{P:Program}{w:World}{H':Hp}{h':Heap}{kvs:List (Key×V)}{vs:List (Key×Value)}(z:kvs.length<=sizeLine)(hd:(a==sysModules)=false)(rel:KV kvs vs)(dd:h'.DictOf (BY P w) a vs):
 ObjOk P w H' h' a (.dK kvs):=⟨z,hd,vs,rel,dd⟩
def SM{H':Hp}{Q:Unit->Shared->Prop}(hu:A.units+1<cLine)(I:Inv X pins σ H s)(g:DPut H a y v H')(ry:RelV y u)(rv:RelV v r)(h:∀s',Inv X pins σ H' s'->Q () s'):
 wpAny (model X.prog X.w) A (setItem (.ref a) u r) Q E s:=by
 rcases g with⟨kvs,k,e,ey,l,eH⟩|⟨kvs,k,b,e,ey,eb,l,eH⟩
 .subst ey eH;obtain⟨z,hd,vs,rel,dd⟩:=Vd I.hok e;have hz:vs.length<=sizeLine:=by rw[<- rel.length];exact z
  have hl:(CV kvs k v).length<=sizeLine:=by have:=F5 kvs k v;omega
  refine wpAny_setItem_pairs (hsz:=hz) (HY ry) dd λh' dd' hs=>h _ ?_;have he:∃q,h'.get? a=some q:=let ⟨q,_,_,hq,_⟩:=dd';⟨q,hq⟩
  exact KU I (by rw[e];exact True.intro) hs he (SK hl hd (rel.put k rv) dd')
 .subst ey eH;cases(show u=Value.ref b from ry);obtain⟨z,hd,xs,rel,dd⟩:=cq I.hok e;have hz:xs.length<=sizeLine:=by rw[<- Paired.length rel];exact z
  have hl:(CV kvs k v).length<=sizeLine:=by have:=F5 kvs k v;omega
  refine wpAny_setItem_heap (hsz:=hz) (tupleKind_room_in1 hu) (Gp I.hok eb) dd λh' dd' hs=>h _ ?_;obtain⟨q,es,ep,hq,h2,h3,h4,_,h5⟩:=dd';refine KU I (by rw[e];exact True.intro) hs ⟨q,hq⟩ ⟨hl,hd,_,(rel.put k eb rv).keeps λc ys ec=>?_,q,es,ep,hq,h2,h3,h4,h5⟩;rw[upd_ne (cR ec e (λz=>nomatch z))];exact ec
end
def V8(i:Expr):Prop:=∀ov iv,subscripted i false ov iv=operate [ov,iv] (getItem ov iv)
def Vu{prog:Program}{w:World}{A:Around}{E:Value->Shared->Prop}{s:Shared}{env:Env}{value slice:Expr}{pos:Pos}{T id:String}{Q:Value->Shared->Prop}
 (hl:typeLookup (.type T) "__getitem__"=pure (some (.builtin id))) (hs:V8 slice)
 (h:wpAny (model prog w) A (eval value env) (λo s₁=>wpAny (model prog w) A (eval slice env) (λi s₂=>s₂.TypeIs o T/\wpAny (model prog w) A (getItem o i) Q E s₂) E s₁) E s):
 wpAny (model prog w) A (eval (.Subscript value slice pos) env) Q E s:=by
 refine Subscript_ (wpAny_mono h (λo s₁ h₁=>wpAny_mono h₁ (λi s₂ h₂=>?_) λ_ _ x=>x) λ_ _ x=>x);obtain⟨hT,h₂⟩:=h₂;unfold subscriptTail;refine wpAny_bind ?_;rw[getitemInPython_of_ne hT.not_modules];refine wpAny_bind (wpAny_specialOf hT hl ?_);have fin:wpAny (model prog w) A (subscripted slice false o i) (λr s₃=>wpAny (model prog w) A (letTemporaryGo value o r >>= λ_=>pure r) Q E s₃) E s₂:=by
  rw[hs o i];exact wpAny_operating (wpAny_mono h₂ (λr s₃ h₃=>wpAny_bind (wpAny_letTemporaryGo (wpAny_pure h₃))) λ_ _ x=>x)
 first
  |exact wpAny_pure (wpAny_bind fin)
  |exact wpAny_bind (wpAny_pure (wpAny_bind fin))
  |exact wpAny_bind fin
def Ni{X:Cx}{pins:List (Addr×Obj)}{σ:St}{H:Hp}{s:Shared}{a:Addr}{y:V}{o:Option V}(I:Inv X pins σ H s)(g:DGet H a y o):s.TypeIs (.ref a) "dict":=by
 rcases g with⟨kvs,k,e,_,_⟩|⟨kvs,k,b,e,_,_,_⟩
 .obtain⟨_,_,vs,_,dd⟩:=Jg I.hok e;exact dd.typeIs
 .obtain⟨_,_,xs,_,dd⟩:=Jf I.hok e;exact dd.typeIs
def Op(td ty:TE):TE:=λσ H Q=>td σ H λx H1=>ty σ H1 λy H2=>∃a v,x=.ref a/\DGet H2 a y (some v)/\Q v H2
def T4(ty td:TE):TE:=λσ H Q=>ty σ H λy H1=>td σ H1 λx H2=>∃a o,x=.ref a/\DGet H2 a y o/\Q (.bl o.isSome) H2
def K0(ty td:TE):TE:=λσ H Q=>ty σ H λy H1=>td σ H1 λx H2=>∃a o,x=.ref a/\DGet H2 a y o/\Q (.bl (!o.isSome)) H2
def P0(td ty tv:TE):TS:=λD σ H=>tv σ H λv H1=>td σ H1 λx H2=>ty σ H2 λy H3=>∃a H4,x=.ref a/\DPut H3 a y v H4/\D.nx σ H4
section
variable{X:Cx}{o i e value:Expr}{pos pos' tpos:Pos}{td ty tv:TE}
def XV(hu:X.A.units+1<cLine)(ho:PE X o td)(hi:PE X i ty)(hs:V8 i):PE X (.Subscript o i pos) (Op td ty):=by
 intro pins s σ H Q I h;refine Vu PySem.F.slot_dict_getitem.lookup hs (thn (ho pins s σ H _ I h) λu s1 ⟨x,H1,I1,rx,q1⟩=>thn (hi pins s1 σ H1 _ I1 q1) λiv s2 ⟨y,H2,I2,ry,a,v,ex,g,q2⟩=>?_);subst ex;obtain rfl:u=Value.ref a:=rx;exact⟨Ni I2 g,SN hu I2 g ry λw' s3 I3 rw'=>⟨v,H2,I3,rw',q2⟩⟩
def aW(hu:X.A.units+1<cLine)(hi:PE X i ty)(ho:PE X o td):PC X .In i o (T4 ty td):=by
 intro pins s σ H Q I h;refine thn (hi pins s σ H _ I h) λiv s1 ⟨y,H1,I1,ry,q1⟩=>thn (ho pins s1 σ H1 _ I1 q1) λu s2 ⟨x,H2,I2,rx,a,ov,ex,g,q2⟩=>?_;subst ex;obtain rfl:u=Value.ref a:=rx;exact db hu I2 g ry λs3 I3=>⟨.bl ov.isSome,H2,I3,rfl,q2⟩
def RY(hu:X.A.units+1<cLine)(hi:PE X i ty)(ho:PE X o td):PC X .NotIn i o (K0 ty td):=by
 intro pins s σ H Q I h;refine thn (hi pins s σ H _ I h) λiv s1 ⟨y,H1,I1,ry,q1⟩=>thn (ho pins s1 σ H1 _ I1 q1) λu s2 ⟨x,H2,I2,rx,a,ov,ex,g,q2⟩=>?_;subst ex;obtain rfl:u=Value.ref a:=rx;exact YI hu I2 g ry λs3 I3=>⟨.bl (!ov.isSome),H2,I3,rfl,q2⟩
def XJ(hu:X.A.units+1<cLine)(ho:PE X o td)(hi:PE X i ty)(hv:PE X value tv)(hs:swapsWith value (some (.Subscript o i pos')) pos.line X.env=pure false):
 PS X (.Assign [.Subscript o i pos'] value pos) (P0 td ty tv):=by
 intro pins s σ H D I h;refine wpAny_Assign_Subscript (thn (hv pins s σ H _ I h) λr s1 ⟨v,H1,I1,rv,q1⟩=>thn (ho pins s1 σ H1 _ I1 q1) λu s2 ⟨x,H2,I2,rx,q2⟩=>thn (hi pins s2 σ H2 _ I2 q2) λiv s3 ⟨y,H3,I3,ry,a,H4,ex,g,q3⟩=>?_) hs;subst ex;obtain rfl:u=Value.ref a:=rx;exact SM hu I3 g ry rv λs4 I4=>⟨σ,H4,I4,q3⟩
end
def NF{P:Program}{w:World}{H:Hp}(h:Heap)(hb:sysModules<h.objs.size):ObjOk P w H (h.push { cls:=.type "dict",data:=.dict #[] }) h.objs.size (.dK []):=
 ⟨zero_le _,beq_eq_false_iff_ne.mpr (Ne.symm (ne_of_lt hb)),[],.nil,Heap.DictOf.new h⟩
def M4:TE:=λ_ H Q=>∀p,H p=none->Q (.ref p) (upd H p (.dK []))
section
variable{X:Cx}{pos:Pos}
def UH:PE X (.Dict [] [] pos) M4:=λpins s σ H Q I h=>
 wpAny_Dict_empty ⟨.ref s.heap.objs.size,_,I.laid (a:=s.heap.objs.size) (o:=.dK []) (t':=s.toks) (λ_ _ q=>Heap.get?_push_of_some _ q) (le_refl _) (NF s.heap I.big),rfl,h _ (I.hok.fresh (le_refl _))⟩
end
def AU(cells:List (Str×Addr)):List (Str×NameKind)->List (Str×Addr)->List (Str×Addr)
 |[],acc=>acc
 |(n,k)::r,acc=>if k==.free then AU cells r ((n,(cells.lookup n).getD 0)::acc)else AU cells r acc
def FU{env:Env}(f:Str×NameKind->List (Str×Addr)->Sem (ForInStep (List (Str×Addr))))
 (hf:∀name kind cs,f (name,kind) cs=if(kind==NameKind.free)=true then(do let a <- cellOf env name;pure (ForInStep.yield ((name,a)::cs)))else pure (ForInStep.yield cs)):
 ∀(names:List (Str×NameKind)) (acc:List (Str×Addr)),(∀y∈names,y.2=.free->∃c,env.cells.lookup y.1=some c)->forIn names acc f=pure (AU env.cells names acc)
 |[],acc,_=>rfl
 |(n,k)::r,acc,hy=>by
   rw[List.forIn_cons,hf];have ih:=λa=>FU f hf r a λz hz=>hy z (mem_cons_of_mem _ hz);by_cases hk:(k==NameKind.free)=true
   .obtain⟨c,hc⟩:=hy (n,k) mem_cons_self (by simpa using hk);have hc:env.cells.lookup n=some c:=hc;have e1:cellOf env n=pure c:=by unfold cellOf;rw[hc]
    rw[if_pos hk,e1];show forIn r ((n,c)::acc) f=_;have e2:AU env.cells ((n,k)::r) acc=AU env.cells r ((n,c)::acc):=by
     rw[AU,if_pos hk,hc];rfl
    rw[ih,e2]
   .rw[if_neg hk];show forIn r acc f=_;have e2:AU env.cells ((n,k)::r) acc=AU env.cells r acc:=by
     rw[AU,if_neg hk]
    rw[ih,e2]
def Cw{scope:Scope}{env:Env}(h:∀y∈scope.names,y.2=.free->∃c,env.cells.lookup y.1=some c):closureFor scope env=pure (AU env.cells scope.names []):=by
 unfold closureFor;dsimp only;rw[FU _ (λname kind cs=>rfl) scope.names [] h];rfl
def DS{cells:List (Str×Addr)}:∀{names:List (Str×NameKind)} {acc:List (Str×Addr)},(∀y∈names,y.2=.free->∃c,cells.lookup y.1=some c)->(∀x c,acc.lookup x=some c->cells.lookup x=some c) ->
 ∀x c,(AU cells names acc).lookup x=some c->cells.lookup x=some c
 |[],_,_,ha,x,c,e=>ha x c e
 |(n,k)::r,acc,hy,ha,x,c,e=>by
   unfold AU at e;have hr:∀y∈r,y.2=.free->∃c,cells.lookup y.1=some c:=λz hz=>hy z (mem_cons_of_mem _ hz);by_cases hk:(k==NameKind.free)=true
   .rw[if_pos hk]at e;refine DS hr (λz d q=>?_) x c e;obtain⟨c0,hc0⟩:=hy (n,k) mem_cons_self (by simpa using hk);have hc0:cells.lookup n=some c0:=hc0;rw[lookup_cons]at q;by_cases hz:(z==n)=true
    .rw[hz,hc0]at q;have:z=n:=by simpa using hz
     subst this;simpa [hc0]using q
    .have hz':(z==n)=false:=by simpa using hz
     rw[hz']at q;exact ha z d q
   .rw[if_neg hk]at e;exact DS hr ha x c e
def Ci{cells:List (Str×Addr)}:∀{names:List (Str×NameKind)} {acc:List (Str×Addr)} {x:Str},((acc.lookup x).isSome=true∨(x,NameKind.free)∈names)->((AU cells names acc).lookup x).isSome=true
 |[],_,_,h=>h.elim id λz=>by cases z
 |(n,k)::r,acc,x,h=>by
   unfold AU;by_cases hk:(k==NameKind.free)=true
   .rw[if_pos hk];refine Ci ?_;by_cases hx:(x==n)=true
    .exact .inl (by rw[lookup_cons,hx];rfl)
    .have hx':(x==n)=false:=by simpa using hx
     rcases h with h|h
     .exact .inl (by rw[lookup_cons,hx'];exact h)
     .rcases mem_cons.mp h with h|h
      .cases h;simp at hx
      .exact .inr h
   .rw[if_neg hk];refine Ci ?_;rcases h with h|h
    .exact .inl h
    .rcases mem_cons.mp h with h|h
     .cases h;simp at hk
     .exact .inr h
def CG:Nat->List (Str×NameKind)->List (Str×Addr)
 |_,[]=>[]
 |n,(x,k)::r=>if k==.cell then CG (n+1) r++[(x,n)]else CG n r
def Bn:∀(names:List (Str×NameKind)) (n:Nat) (acc:List (Str×Addr)),cellsFrom n names acc=CG n names++acc
 |[],_,_=>rfl
 |(x,k)::r,n,acc=>by
   unfold cellsFrom CG;by_cases hk:(k==NameKind.cell)=true
   .rw[if_pos hk,if_pos hk,Bn r (n+1),append_assoc];rfl
   .rw[if_neg hk,if_neg hk,Bn r n]
def IR:∀(names:List (Str×NameKind)) (n:Nat) (x:Str) (c:Addr),(CG n names).lookup x=some c->(x,NameKind.cell)∈names
 |[],_,_,_,e=>by cases e
 |(y,k)::r,n,x,c,e=>by
   unfold CG at e;by_cases hk:(k==NameKind.cell)=true
   .rw[if_pos hk]at e;have hk':k=.cell:=by simpa using hk
    rw[lookup_append]at e;cases q:(CG (n+1) r).lookup x with
    |some d=>exact mem_cons_of_mem _ (IR r _ x d q)
    |none=>
     rw[q]at e;simp only[none_or,lookup_cons]at e;by_cases hx:(x==y)=true
     .have:x=y:=by simpa using hx
      subst this;subst hk';exact mem_cons_self
     .have hx':(x==y)=false:=by simpa using hx
      rw[hx']at e;cases e
   .rw[if_neg hk]at e;exact mem_cons_of_mem _ (IR r n x c e)
def IS:∀(names:List (Str×NameKind)) (n:Nat) (x:Str),(x,NameKind.cell)∈names->∃c,(CG n names).lookup x=some c
 |[],_,_,h=>by cases h
 |(y,k)::r,n,x,h=>by
   unfold CG;by_cases hk:(k==NameKind.cell)=true
   .rw[if_pos hk,lookup_append];rcases mem_cons.mp h with h|h
    .obtain⟨rfl,rfl⟩:=Prod.mk.inj h;cases q:(CG (n+1) r).lookup x with
     |some d=>exact⟨d,rfl⟩
     |none=>exact⟨n,by simp[lookup_cons]⟩
    .obtain⟨c,hc⟩:=IS r (n+1) x h;exact⟨c,by rw[hc];rfl⟩
   .rw[if_neg hk];rcases mem_cons.mp h with h|h
    .cases h;simp at hk
    .exact IS r n x h
def Q0(scope:Scope)(C:Addr)(env:Env):Env:=
 { scope:=relabel scope env,locals:=C,globals:=env.globals,cells:=cellsFrom (C+1) scope.names (AU env.cells scope.names []),qual:=env.qual,func:=none,code:=env.code,frame:=env.frame,builtins:=env.builtins }
def KB{M:Model}{A:Around}{E:Value->Shared->Prop}{s:Shared}{scope:Scope}{cl:List (Str×Addr)}{env:Env}{Q:Env->Shared->Prop}
 (hQ:∀h',(∀b o,s.heap.get? b=some o->h'.get? b=some o)->h'.Ns s.heap.objs.size (λ_=>none)->(∀x c,(CG (s.heap.objs.size+1) scope.names).lookup x=some c->h'.IsCell c none/\s.heap.objs.size<c) ->
  ((CG (s.heap.objs.size+1) scope.names).Pairwise λx y=>x.2≠y.2) ->
  Q { scope:=scope,locals:=s.heap.objs.size,globals:=env.globals,cells:=cellsFrom (s.heap.objs.size+1) scope.names cl,qual:=env.qual,func:=none,code:=env.code,frame:=env.frame,builtins:=env.builtins } { s with heap:=h' }):
 wpAny M A (newFunctionEnv scope env.globals cl [] env.qual none .none (some env)) Q E s:=by
 simp only[newFunctionEnv,Option.isSome_some,if_true];refine wpAny_bind (wpAny_alloc ?_);refine wpAny_bind (wpAny_layCells _ (λname kind cells=>by cases hkc:kind==NameKind.cell<;>simp[hkc]) _ _ _ _ ?_);have ok:=cellsFrom_ok scope.names (s.heap.push { cls:=.type "dict",data:=.dict #[] }) (s.heap.objs.size+1) [] ⟨λ_ _ hm=>(nomatch hm),List.Pairwise.nil⟩ (by rw[Heap.size_push];exact le_refl _);rw[Heap.size_push,Bn,append_nil]at ok;rw[show({ s with heap:=s.heap.push { cls:=.type "dict",data:=.dict #[] } }:Shared).heap.objs.size=s.heap.objs.size+1 from Heap.size_push ..];refine wpAny_bind (wpAny_pure (wpAny_pure ?_));exact hQ _ (λb o e=>pushCells_keeps _ _ b o (Heap.get?_push_of_some _ e)) ((Heap.Ns.new s.heap (.type "dict")).keeps (pushCells_keeps _ _)) (λx c hc=>⟨(ok.empty x c (mem_of_lookup hc)).1,(ok.empty x c (mem_of_lookup hc)).2⟩) ok.apart
def Kl:∀{names:List (Str×NameKind)} {x:Str} {k k':NameKind},(names.map (·.1)).Nodup->(x,k)∈names->(x,k')∈names->k=k'
 |[],_,_,_,_,h,_=>by cases h
 |(y,q)::r,x,k,k',nd,h,h'=>by
   have nd:(y::r.map (·.1)).Nodup:=nd;obtain⟨n1,n2⟩:=nodup_cons.mp nd;have out:∀{z:NameKind},(y,z)∈r->False:=λm=>n1 (mem_map.mpr ⟨_,m,rfl⟩);rcases mem_cons.mp h with e|e<;>rcases mem_cons.mp h' with e'|e'
   .cases e;cases e';rfl
   .cases e;exact(out e').elim
   .cases e';exact(out e).elim
   .exact Kl n2 e e'
def GJ{env:Env}{x:Str}:∀{names:List (Str×NameKind)},names.lookup x=some .free ->
 (names.map λ(n,k)=>if(k==NameKind.free&&env.scope.kind==.function&&env.kindOf n==some .cell)then(n,NameKind.cell)else(n,k)).lookup x=some .cell ∨
 (names.map λ(n,k)=>if(k==NameKind.free&&env.scope.kind==.function&&env.kindOf n==some .cell)then(n,NameKind.cell)else(n,k)).lookup x=some .free
 |[],h=>by simp at h
 |(n,k)::r,h=>by
   have ih:=@GJ env x r;show List.lookup x ((if(k==NameKind.free&&env.scope.kind==.function&&env.kindOf n==some .cell)=true then(n,NameKind.cell)else(n,k))::_)=_∨List.lookup x ((if(k==NameKind.free&&env.scope.kind==.function&&env.kindOf n==some .cell)=true then(n,NameKind.cell)else(n,k))::_)=_;cases hx:x==n with
   |true=>
    simp only[lookup_cons,hx]at h;cases h;by_cases hc:(NameKind.free==NameKind.free&&env.scope.kind==.function&&env.kindOf n==some .cell)=true
    .rw[if_pos hc];exact .inl (by simp only[lookup_cons,hx])
    .rw[if_neg hc];exact .inr (by simp only[lookup_cons,hx])
   |false=>
    simp only[lookup_cons,hx]at h;by_cases hc:(k==NameKind.free&&env.scope.kind==.function&&env.kindOf n==some .cell)=true
    .rw[if_pos hc];simp only[lookup_cons,hx];exact ih h
    .rw[if_neg hc];simp only[lookup_cons,hx];exact ih h
def GX{env:Env}{x:Str}:∀{names:List (Str×NameKind)},
 ((names.map λ(n,k)=>if(k==NameKind.free&&env.scope.kind==.function&&env.kindOf n==some .cell)then(n,NameKind.cell)else(n,k)).lookup x=some .cell ∨
 (names.map λ(n,k)=>if(k==NameKind.free&&env.scope.kind==.function&&env.kindOf n==some .cell)then(n,NameKind.cell)else(n,k)).lookup x=some .free) ->
 names.lookup x=some .cell∨names.lookup x=some .free
 |[],h=>by simp at h
 |(n,k)::r,h=>by
   have ih:=@GX env x r;have h:List.lookup x ((if(k==NameKind.free&&env.scope.kind==.function&&env.kindOf n==some .cell)=true then(n,NameKind.cell)else(n,k))::_)=_∨List.lookup x ((if(k==NameKind.free&&env.scope.kind==.function&&env.kindOf n==some .cell)=true then(n,NameKind.cell)else(n,k))::_)=_:=h;cases hx:x==n with
   |true=>
    by_cases hc:(k==NameKind.free&&env.scope.kind==.function&&env.kindOf n==some .cell)=true
    .have hk:k=.free:=by
      have:=(Bool.and_eq_true _ _ ▸ (Bool.and_eq_true _ _ ▸ hc).1:(k==NameKind.free)=true/\_).1;simpa using this
     exact .inr (by simp only[lookup_cons,hx,hk])
    .rw[if_neg hc]at h;simp only[lookup_cons,hx]at h ⊢;exact h
   |false=>
    simp only[lookup_cons,hx];refine ih ?_;by_cases hc:(k==NameKind.free&&env.scope.kind==.function&&env.kindOf n==some .cell)=true
    .rw[if_pos hc]at h;simp only[lookup_cons,hx]at h;exact h
    .rw[if_neg hc]at h;simp only[lookup_cons,hx]at h;exact h
def cCx(X:Cx)(N':List Str)(scope:Scope)(s:Shared)(H:Hp)(ex:List Addr):Cx:=
 { X with N:=N',s₀:=s,H₀:=H,env:=Q0 scope s.heap.objs.size X.env,outer:=X.stack,ex:=ex,fn:=λx=>decide ((x,NameKind.cell)∈scope.names),pn:=[],xe:=λ_ _=>False }
structure CSc(X:Cx)(scope:Scope)(fr:List Str)(ix:List Nat):Prop where
 kind:scope.kind=.function
 nd:(scope.names.map (·.1)).Nodup
 free:(scope.names.all λy=>y.2 != .free||X.env.kindOf y.1==some .cell||X.env.kindOf y.1==some .free)=true
 frs:(fr.all λx=>scope.names.lookup x==some .free)=true
 ixs:fr.map some=ix.map λi=>X.N[i]?
 loc:(scope.names.all λy=>y.2 != .local||scope.names.lookup y.1==some .local)=true
def GA(n:Nat)(ix:List Nat)(σ:St):St:=List.replicate n none++ix.map λi=>(σ[i]?).join
section
variable{X:Cx}{scope:Scope}{fr loc:List Str}{ix:List Nat}{pins:List (Addr×Obj)}{σ:St}{H:Hp}{s:Shared}
def CSc.outer(S:CSc X scope fr ix){y:Str×NameKind}(hy:y∈scope.names)(e:y.2=.free):X.env.kindOf y.1=some .cell∨X.env.kindOf y.1=some .free:=by
 have h:=all_eq_true.mp S.free y hy;rw[e]at h;simpa using h
def CSc.clos(S:CSc X scope fr ix)(ok:X.Ok):∀y∈scope.names,y.2=.free->∃c,X.env.cells.lookup y.1=some c:=λy hy e=>ok.has y.1 (S.outer hy e)
def Cu(S:CSc X scope fr ix)(ok:X.Ok){n:Nat}{x:Str}{c:Addr}(e:(cellsFrom n scope.names (AU X.env.cells scope.names [])).lookup x=some c):
 (CG n scope.names).lookup x=some c∨X.env.cells.lookup x=some c:=by
 rw[Bn,lookup_append]at e;cases q:(CG n scope.names).lookup x with
 |some d=>rw[q]at e;exact .inl e
 |none=>
  rw[q]at e;exact .inr (DS (S.clos ok) (λ_ _ z=>by simp at z) x c e)
def Ia(S:CSc X scope fr ix)(I:Inv X pins σ H s){ex:List Addr}(hex:∀b∈ex,FpOk X pins H b){h':Heap}(hk:∀b o,s.heap.get? b=some o->h'.get? b=some o)(hn:h'.Ns s.heap.objs.size λ_=>none)
 (ho:∀x c,(CG (s.heap.objs.size+1) scope.names).lookup x=some c->h'.IsCell c none/\s.heap.objs.size<c) (ha:(CG (s.heap.objs.size+1) scope.names).Pairwise λx y=>x.2≠y.2) (hlt:∀b∈ex,b<s.heap.objs.size):
 Inv (cCx X (loc++fr) scope s H ex) [] (GA loc.length ix σ) H { s with heap:=h' }:=by
 have old:∀x c,X.env.cells.lookup x=some c->c<s.heap.objs.size:=λx c e=>let ⟨v,z⟩:=I.cell x c e;z.lt
 have lenix:fr.length=ix.length:=by simpa using congrArg List.length S.ixs
 refine⟨⟨I.ok.mod,?_,I.ok.glob,I.ok.blt,le_refl _,?_,?_,?_,I.ok.hd,I.ok.frames,.inl rfl,?_,I.bs,le_trans I.ok.bsz I.sz,?_,?_,I.stack,I.stkFree⟩,rfl,I.bare,Un.kept hk,⟨_,hn,?_⟩,?_,I.hok.fresh (le_refl _),?_,?_,I.hok.kept hk,?_⟩
 .exact S.kind
 .intro x y c e1 e2;rcases Cu S I.ok e1 with a|a<;>rcases Cu S I.ok e2 with b|b
  .exact name_of_addr ha (PySem.mem_of_lookup a) (PySem.mem_of_lookup b)
  .exact absurd (lt_trans (ho x c a).2 (old y c b)) (lt_irrefl _)
  .exact absurd (lt_trans (ho y c b).2 (old x c a)) (lt_irrefl _)
  .exact I.ok.inj x y c a b
 .intro x hx;rcases GX hx with e|e
  .exact isSome_iff_exists.mp (PySem.W.cellsFrom_some _ _ _ (.inl e))
  .exact isSome_iff_exists.mp (PySem.W.cellsFrom_some _ _ _ (.inr (Ci (.inr (PySem.mem_of_lookup e)))))
 .intro x c hf e;have hf:(x,NameKind.cell)∈scope.names:=of_decide_eq_true hf;obtain⟨d,hd⟩:=IS scope.names (s.heap.objs.size+1) x hf;have e':(cellsFrom (s.heap.objs.size+1) scope.names (AU X.env.cells scope.names [])).lookup x=some c:=e;rw[Bn,lookup_append,hd]at e';cases e';exact le_of_lt (ho x _ hd).2
 .intro b hb;refine⟨ne_of_lt (hlt b hb),λx c e z=>?_⟩;rcases Cu S I.ok e with a|a
  .exact absurd (lt_trans (ho x c a).2 (by rw[z];exact hlt b hb)) (lt_irrefl _)
  .exact(hex b hb).2.2.2.2.1 x c a z
 .intro b o e hb;rcases(hex b hb).2.2.2.1 with z|z
  .exact I.ok.noex b o e z
  .exact absurd (lt_of_lt_of_le (Heap.lt_size (I.ok.bs b o e).1) z) (lt_irrefl _)
 .intro b hb hf;rcases mem_cons.mp (I.stkSub b hf)with z|z
  .exact(hex b hb).2.1 z
  .exact(hex b hb).2.2.1 z
 .intro i x v e1 e2 e3;have e1:(loc++fr)[i]?=some x:=e1;unfold GA at e2;by_cases hi:i<loc.length
  .rw[List.getElem?_append_left (by simpa using hi),List.getElem?_replicate]at e2;split at e2<;>cases e2
  .have hi':loc.length<=i:=not_lt.mp hi;rw[List.getElem?_append_right (by simpa using hi')]at e2;rw[List.getElem?_append_right hi']at e1;rw[List.length_replicate,List.getElem?_map]at e2;generalize hj:i-loc.length=j at e1 e2;have e4:(fr.map some)[j]?=some (some x):=by rw[List.getElem?_map,e1];rfl
   rw[S.ixs,List.getElem?_map]at e4;cases q:ix[j]? with
   |none=>rw[q]at e2;cases e2
   |some k=>
    rw[q]at e2 e4;have e2:(σ[k]?).join=some v:=Option.some.inj e2;have e4:X.N[k]?=some x:=Option.some.inj e4;have e5:σ[k]?=some (some v):=by
     cases w:σ[k]? with
     |none=>rw[w]at e2;cases e2
     |some z=>rw[w]at e2;simpa using e2
    have hfx:=all_eq_true.mp S.frs x (mem_of_getElem? e1);have hfx:scope.names.lookup x=some .free:=by simpa using hfx
    have hmem:=PySem.mem_of_lookup hfx;have hout:=S.outer hmem rfl;obtain⟨m,hm,hl⟩:=I.loc;obtain⟨u,r,l⟩:=hl k x v e4 e5 (.inr hout);refine⟨u,r,.inr ⟨GJ hfx,?_⟩⟩;rcases l with⟨kk,_⟩|⟨kk,c,ec,z⟩
    .rcases hout with w|w
     .rw[kk]at w;cases w
     .rw[kk]at w;cases w
    .have own0:(CG (s.heap.objs.size+1) scope.names).lookup x=none:=by
      cases w:(CG (s.heap.objs.size+1) scope.names).lookup x with
      |none=>rfl
      |some d=>exact absurd (Kl S.nd (IR _ _ _ _ w) hmem) (by decide)
     have hc:(AU X.env.cells scope.names []).lookup x=some c:=by
      obtain⟨d,hd⟩:=isSome_iff_exists.mp (Ci (cells:=X.env.cells) (acc:=[]) (.inr hmem));have:=DS (S.clos I.ok) (λ_ _ z=>by simp at z) x d hd;rw[ec]at this;cases this;exact hd
     refine⟨c,?_,z.keeps hk⟩;show(cellsFrom (s.heap.objs.size+1) scope.names (AU X.env.cells scope.names [])).lookup x=some c;rw[Bn,lookup_append,own0,hc];rfl
 .intro x c e;rcases Cu S I.ok e with a|a
  .exact⟨_,(ho x c a).1⟩
  .obtain⟨v,z⟩:=I.cell x c a;exact⟨v,z.keeps hk⟩
 .intro x c e;rcases Cu S I.ok e with a|a
  .exact I.hok.fresh (le_of_lt (ho x c a).2)
  .exact I.freeC x c a
 .intro p hp;cases hp
 .unfold GA;show _=(loc++fr).length;simp[lenix]
end
section
variable{prog:Program}{w:World}{A:Around}{R:Result->Shared->Prop}{s:Shared}
def Gy{elt target iter:Expr}{ifs:List Expr}{scope:Scope}{pos:Pos}{it acc:Value}{env:Env}(I:Nat->Shared->Prop)
 (turn:∀n s,I n s->wpAny (model prog w) A (pyNext it) (λr s₁=>match r with
  |none=>R (.ok .next) s₁
  | some v=>wpAny (model prog w) A (letOwnedTupleGo target it v) (λ_ s₁=>wpAny (model prog w) A (assign target env v) (λ_ s₂=>
   wpAny (model prog w) A (forIn ifs true λc r=>if r=true then do let ok <- isTrue c env (eval c env);pure (ForInStep.yield ok)else pure (ForInStep.yield r)) (λok s₃=>
    if ok=true then wpAny (model prog w) A (eval elt env) (λx s₄=>
     wpAny (model prog w) A (call (.builtin "list.append") [acc,x]) (λ_ s₅=>∃m,m<n/\I m s₅) (λ_ _=>False) s₄) (λ_ _=>False) s₃
    else ∃m,m<n/\I m s₃) (λ_ _=>False) s₂) (λ_ _=>False) s₁) (λ_ _=>False) s₁) (λ_ _=>False) s)
 (n:Nat) (h:I n s):
 codeAny (model prog w) A (.compLoop (.ListComp elt [⟨target,iter,ifs,0⟩] scope pos) 0 it acc env) R s:=by
 refine codeAny_loop rfl I (λn s hI=>?_) n h;show wpAny _ A ((compTurn (.ListComp elt [⟨target,iter,ifs,0⟩] scope pos) 0 it acc env).onRaise (λx=>do noteFrame x env;theTreesLotGoes x)) _ _ s;refine wpAny_noted ?_;rw[compTurn_list];refine wpAny_bind (wpAny_standAt (wpAny_bind (wpAny_mono (turn n s hI) (λr s₁ h₁=>?_) λ_ _ h'=>h'.elim)));cases r with
 |none=>exact wpAny_pure h₁
 |some v=>
  refine wpAny_bind (wpAny_mono h₁ (λ_ s₁ h₁=>?_) λ_ _ h'=>h'.elim);refine wpAny_bind (wpAny_mono h₁ (λ_ s₂ h₂=>wpAny_bind (wpAny_mono h₂ (λok s₃ h₃=>?_) λ_ _ h'=>h'.elim)) λ_ _ h'=>h'.elim);cases ok with
  |false=>exact wpAny_pure ⟨rfl,h₃⟩
  |true=>
   exact wpAny_bind (wpAny_bind (wpAny_mono h₃ (λx s₄ h₄=>wpAny_bind (wpAny_mono h₄ (λ_ s₅ h₅=>wpAny_pure (wpAny_pure ⟨rfl,h₅⟩)) λ_ _ h'=>h'.elim)) λ_ _ h'=>h'.elim))
end
def PF(X:Cx)(ifs:List Expr)(t:TT):Prop:=
 ∀(pins:List (Addr×Obj)) (s:Shared) (σ:St) (H:Hp) (Q:Bool->Hp->Prop),Inv X pins σ H s->t σ H Q ->
   wpAny (model X.prog X.w) X.A (forIn ifs true λc r=>if r=true then do let ok <- isTrue c X.env (eval c X.env);pure (ForInStep.yield ok)else pure (ForInStep.yield r)) (TP X pins σ Q) X.xe s
def Sr:TT:=λ_ H Q=>Q true H
def aI{X:Cx}:PF X [] Sr:=λpins s σ H Q I h=>wpAny_tests_nil ⟨H,I,h⟩
def aH{X:Cx}{c:Expr}{t:TT}(h:PT X c t):PF X [c] t:=λpins s σ H Q I q=>wpAny_tests_one (h pins s σ H Q I q)
def Vh(J:It)(D:Addr)(σ0:St)(H0:Hp)(g:TG)(tf:TT)(te:TE)(Q:VK):Prop:=∃W:Nat->Nat->St->List V->Hp->Prop,
 (∃m,W 0 m σ0 [] (upd H0 D (.lst [])))/\∀i m σ ys H,W i m σ ys H->H D=some (.lst ys)/\
  ((J.stop i H/\Q (.ref D) H)∨(J.go i H/\ys.length<sizeLine/\∃N:St->List V->Hp->Prop,(∀σ' ys' H',N σ' ys' H'->∃m',m'<m/\W (i+1) m' σ' ys' H')/\
    ∀x H',J.yld i H x H'->g x σ H' λσ2 H2=>tf σ2 H2 λb H3=>
     if b=true then te σ2 H3 λv H4=>H4 D=some (.lst ys)/\N σ2 (ys++[v]) (upd H4 D (.lst (ys++[v])))
     else N σ2 ys H3))
def Fa(n:Nat)(ix:List Nat)(wi:TI)(g:TG)(tf:TT)(te:TE):TE:=λσ H Q=>wi σ H λJ H1=>∀D,H1 D=none->Vh J D (GA n ix σ) H1 g tf te Q
section
variable{X:Cx}
def Sb{pins:List (Addr×Obj)}{σ:St}{H:Hp}{s:Shared}{D:Addr}{ys:List V}{x:V}{u:Value}{Q:Value->Shared->Prop}{E:Value->Shared->Prop}(I:Inv X pins σ H s)(hD:H D=some (.lst ys))(r:RelV x u)(hz:ys.length<sizeLine)
 (h:∀v s',Inv X pins σ (upd H D (.lst (ys++[x]))) s'->Q v s'):wpAny (model X.prog X.w) X.A (call (.builtin "list.append") [.ref D,u]) Q E s:=by
 have I':=I.wish λ_ _=>False;have q:=Km (X:=X.wish λ_ _=>False) pins s σ H (.ref D) [x] (.ref D) [u] (λv H'=>H'=upd H D (.lst (ys++[x]))) I' rfl (.cons r .nil) ⟨D,ys,x,rfl,rfl,hD,hz,rfl⟩;refine wpAny_mono q (λv s' ⟨v',H',I2,_,e⟩=>?_) λ_ _ z=>False.elim z;subst e;exact h v s' I2.unwish
def XW{elt tg iter:Expr}{ifs:List Expr}{scope:Scope}{pos:Pos}{loc fr:List Str}{ix:List Nat}{wi:TI}{g:TG}{tf:TT}{te:TE}(hc:X.calm=true)(S:CSc X scope fr ix)(hi:PI X tg iter wi)
 (hg:∀s H ex,PG (cCx X (loc++fr) scope s H ex) tg g) (hf:∀s H ex,PF (cCx X (loc++fr) scope s H ex) ifs tf) (he:∀s H ex,PE (cCx X (loc++fr) scope s H ex) elt te)
 (hs:∀x,foldedSetIterable iter X.env x=pure x:=by intro _;rfl):PE X (.ListComp elt [⟨tg,iter,ifs,0⟩] scope pos) (Fa loc.length ix wi g tf te):=by
 intro pins s σ H Q I h;rw[eval_ListComp];have hnames:∀y∈scope.names,y.2=.local->scope.names.lookup y.1=some .local:=λy hy e=>by
  have:=all_eq_true.mp S.loc y hy;rw[e]at this;simpa using this
 refine wpAny_comprehension_free (use:=none) rfl hs (Cw (S.clos I.ok)) S.kind hnames (thn (hi pins s σ H _ I h) λv s1 h1=>thn h1 λitv s2 h2=>?_);obtain⟨it,fp,tn,J,H2,rfl,I2,T,st2,f2,hW⟩:=h2;refine wpAny_newObj_type ?_;have fresh2:H2 s2.heap.objs.size=none:=I2.hok.fresh (le_refl _);have I3:=I2.lnew (its:=[]) (ys:=[]) (t':=s2.toks) .nil (zero_le _);obtain⟨W,⟨m0,w0⟩,turn⟩:=hW s2.heap.objs.size fresh2;have lt2:∀b∈fp,b<s2.heap.objs.size:=λb hb=>let ⟨o,e,_⟩:=T.obj 0 _ st2 b hb;Heap.lt_size e
 have f3:∀b∈fp,FpOk X pins (upd H2 s2.heap.objs.size (.lst [])) b:=λb hb=>⟨by rw[upd_ne (ne_of_lt (lt2 b hb))];exact(f2 b hb).1,(f2 b hb).2⟩
 have lt3:∀b∈fp,b<(s2.heap.push { cls:=.type "list",data:=.seq ([]:List Value).toArray }).objs.size:=λb hb=>by rw[Heap.size_push];exact lt_succ_of_lt (lt2 b hb)
 generalize hs3:({ s2 with heap:=s2.heap.push { cls:=.type "list",data:=.seq ([]:List Value).toArray } }:Shared)=s3 at *;have lt3:∀b∈fp,b<s3.heap.objs.size:=by rw[<- hs3];exact lt3
 have st3:tn 0 s3.heap:=T.keep _ _ _ st2 λb hb o e=>by rw[<- hs3];exact Heap.get?_push_of_some _ e
 refine KB λh' hk hn ho ha=>?_;have I4:=Ia (loc:=loc) S I3 f3 hk hn ho ha lt3;have fpX:∀{H':Hp},(∀b∈fp,H' b=none)->∀b∈fp,FpOk (cCx X (loc++fr) scope s3 (upd H2 s2.heap.objs.size (.lst [])) fp) [] H' b:=λhn b hb=>
  ⟨hn b hb,(I4.ok.exf b hb).1,I4.ok.exfs b hb,.inl hb,(I4.ok.exf b hb).2,λp hp=>by cases hp⟩
 have loop:codeAny (model X.prog X.w) X.A (.compLoop (.ListComp elt [⟨tg,iter,ifs,0⟩] scope pos) 0 (.ref it) (.ref s2.heap.objs.size) (Q0 scope s3.heap.objs.size X.env))
  (compPost (model X.prog X.w) X.A X.xe none (EP X pins σ Q) (.ref s2.heap.objs.size) s3.heap.objs.size) { s3 with heap:=h' }:=by
  refine Gy (λn s'=>∃i σ' ys H',Inv (cCx X (loc++fr) scope s3 (upd H2 s2.heap.objs.size (.lst [])) fp) [] σ' H' s'/\tn i s'.heap/\(∀b∈fp,H' b=none)/\W i n σ' ys H') ?_ m0
   ⟨0,_,[],_,I4,T.keep _ _ _ st3 λb hb o e=>hk b o e,λb hb=>(f3 b hb).1,w0⟩
  rintro n s5 ⟨i,σ5,ys,H5,I5,st5,fr5,w5⟩;obtain⟨hD,w5⟩:=turn i n σ5 ys H5 w5;rcases w5 with⟨stop,qn⟩|⟨go,hz,N,hN,step⟩
  .refine thn (T.done (cCx X (loc++fr) scope s3 (upd H2 s2.heap.objs.size (.lst [])) fp) rfl rfl rfl hc i [] s5 σ5 H5 _ I5 (fpX fr5) st5 stop) λr s6 ⟨hr,I6⟩=>?_;subst hr;obtain⟨m,hm,_⟩:=I6.loc;refine⟨m,hm,λh'' hs=>?_⟩;have neC:∀b o,s3.heap.get? b=some o->b≠s3.heap.objs.size:=λb o e=>ne_of_lt (Heap.lt_size e);have un:=I6.base;refine⟨.ref s2.heap.objs.size,H5,I3.call' (s':={ s6 with heap:=h'' }) (ch:=fp) I6.os ⟨λb o e n hb hx=>?_,λb o e n hb hx=>?_,un.free,λb o e hx=>?_,un.tups,un.frzs,un.tbls⟩ ?_ I6.bare ?_,rfl,qn⟩
   .exact(hs.2 b (neC b o e)).trans (un.keep b o e n hb hx)
   .obtain⟨sl,q⟩:=un.slot b o e n hb hx;exact⟨sl,(hs.2 b (neC b o e)).trans q⟩
   .obtain⟨o',q⟩:=un.there b o e hx;exact⟨o',(hs.2 b (neC b o e)).trans q⟩
   .intro b ob e;have hfree:H5 s3.heap.objs.size=none:=I6.free;refine(I6.hok b ob e).stay (λc w' hc q=>(hs.2 c ?_).trans q) (λ_ q=>q) λ_ _ q=>q;intro z;rcases hc with hc|hc
    .rw[<- hc,z,hfree]at e;cases e
    .rw[z,hfree]at hc;cases hc
   .intro b hb;obtain⟨_,a2,_,a4,a5,a6⟩:=f3 b hb;exact⟨a4,a2,a5,a6⟩
  .refine thn (T.item (cCx X (loc++fr) scope s3 (upd H2 s2.heap.objs.size (.lst [])) fp) rfl rfl rfl hc i [] s5 σ5 H5 _ I5 (fpX fr5) st5 go) λr s6 ⟨u,hr,h6⟩=>?_;subst hr;refine thn h6 λ_ s7 ⟨x,H7,I7,r7,y7,st7,fr7⟩=>?_;have I7':=I7.pinned (fpX fr7) (T.obj _ _ st7);have keepI:∀{σ8:St} {H8:Hp} {s8:Shared},Inv (cCx X (loc++fr) scope s3 (upd H2 s2.heap.objs.size (.lst [])) fp) ([]++EV fp s7.heap) σ8 H8 s8->tn (i+1) s8.heap/\∀b∈fp,H8 b=none:=λ{σ8 H8 s8} I8=>by
    refine⟨T.keep _ _ _ st7 λb hb o e=>(I8.pin (b,o) (mem_append_right _ (mem_append_right _ (Br hb e)))).1,λb hb=>?_⟩;obtain⟨o,e,d⟩:=T.obj _ _ st7 b hb;exact(I8.pin (b,o) (mem_append_right _ (mem_append_right _ (Br hb e)))).2.1
   refine thn (hg s3 (upd H2 s2.heap.objs.size (.lst [])) fp _ s7 σ5 H7 x u _ I7' r7 (step x H7 y7)) λ_ s8 ⟨σ8,H8,I8,q8⟩=>?_;refine thn (hf s3 (upd H2 s2.heap.objs.size (.lst [])) fp _ s8 σ8 H8 _ I8 q8) λb s9 ⟨H9,I9,q9⟩=>?_;cases b with
   |false=>
    rw[if_neg Bool.false_ne_true]at q9 ⊢;obtain⟨m',hm,w9⟩:=hN _ _ _ q9;exact⟨m',hm,i+1,σ8,ys,H9,I9.unpinned,(keepI I9).1,(keepI I9).2,w9⟩
   |true=>
    rw[if_pos rfl]at q9 ⊢;refine thn (he s3 (upd H2 s2.heap.objs.size (.lst [])) fp _ s9 σ8 H9 _ I9 q9) λe10 s10 ⟨v10,H10,I10,r10,hD10,n10⟩=>?_;obtain⟨m',hm,w10⟩:=hN _ _ _ n10;refine Sb (X:=cCx X (loc++fr) scope s3 (upd H2 s2.heap.objs.size (.lst [])) fp) I10 hD10 r10 hz λ_ s11 I11=>?_;exact⟨m',hm,i+1,σ8,_,_,I11.unpinned,(keepI I11).1,(keepI I11).2,w10⟩
 exact codeAny_compStart_list loop (T.self X.A 0 _ _ _ (T.keep _ _ _ st3 λb hb o e=>hk b o e) loop)
end
section
variable{X:Cx}
def Pu{elt tg iter:Expr}{ifs:List Expr}{scope:Scope}{pos:Pos}{loc fr:List Str}{ix:List Nat}{g:TG}{tf:TT}{te:TE}{pins:List (Addr×Obj)}{σ:St}{Q:VK}{it:Addr}{fp:List Addr}{tn:Nat->Heap->Prop}{J:It}{H2:Hp}{s2:Shared}{E:Value->Shared->Prop}
 {RR:Value->Addr->Result->Shared->Prop} (hc:X.calm=true) (S:CSc X scope fr ix)
 (hg:∀s H ex,PG (cCx X (loc++fr) scope s H ex) tg g) (hf:∀s H ex,PF (cCx X (loc++fr) scope s H ex) ifs tf) (he:∀s H ex,PE (cCx X (loc++fr) scope s H ex) elt te)
 (I2:Inv X pins σ H2 s2) (T:Turn X.prog X.w X.K tg J fp it tn) (st2:tn 0 s2.heap) (f2:∀b∈fp,FpOk X pins H2 b) (hW:∀D,H2 D=none->Vh J D (GA loc.length ix σ) H2 g tf te Q)
 (hfin:∀(s3 s6:Shared) (H5:Hp) (σ5:St) (D:Addr),Inv X pins σ (upd H2 D (.lst [])) s3->Inv (cCx X (loc++fr) scope s3 (upd H2 D (.lst [])) fp) [] σ5 H5 s6->(∀b∈fp,FpOk X pins (upd H2 D (.lst [])) b)->Q (.ref D) H5->RR (.ref D) s3.heap.objs.size (.ok .next) s6):
 wpAny (model X.prog X.w) X.A (newList []) (λacc s₃=>wpAny (model X.prog X.w) X.A (newFunctionEnv scope X.env.globals (AU X.env.cells scope.names []) [] X.env.qual none .none (some X.env)) (λcenv s₄=>
  codeAny (model X.prog X.w) X.A (.compStart (.ListComp elt [⟨tg,iter,ifs,0⟩] scope pos) 0 (.ref it) acc { cenv with scope:=relabel scope X.env }) (RR acc cenv.locals) s₄) E s₃) E s2:=by
 refine wpAny_newObj_type ?_;have fresh2:H2 s2.heap.objs.size=none:=I2.hok.fresh (le_refl _);have I3:=I2.lnew (its:=[]) (ys:=[]) (t':=s2.toks) .nil (zero_le _);obtain⟨W,⟨m0,w0⟩,turn⟩:=hW s2.heap.objs.size fresh2;have lt2:∀b∈fp,b<s2.heap.objs.size:=λb hb=>let ⟨o,e,_⟩:=T.obj 0 _ st2 b hb;Heap.lt_size e
 have f3:∀b∈fp,FpOk X pins (upd H2 s2.heap.objs.size (.lst [])) b:=λb hb=>⟨by rw[upd_ne (ne_of_lt (lt2 b hb))];exact(f2 b hb).1,(f2 b hb).2⟩
 have lt3:∀b∈fp,b<(s2.heap.push { cls:=.type "list",data:=.seq ([]:List Value).toArray }).objs.size:=λb hb=>by rw[Heap.size_push];exact lt_succ_of_lt (lt2 b hb)
 generalize hs3:({ s2 with heap:=s2.heap.push { cls:=.type "list",data:=.seq ([]:List Value).toArray } }:Shared)=s3 at *;have lt3:∀b∈fp,b<s3.heap.objs.size:=by rw[<- hs3];exact lt3
 have st3:tn 0 s3.heap:=T.keep _ _ _ st2 λb hb o e=>by rw[<- hs3];exact Heap.get?_push_of_some _ e
 refine KB λh' hk hn ho ha=>?_;have I4:=Ia (loc:=loc) S I3 f3 hk hn ho ha lt3;have fpX:∀{H':Hp},(∀b∈fp,H' b=none)->∀b∈fp,FpOk (cCx X (loc++fr) scope s3 (upd H2 s2.heap.objs.size (.lst [])) fp) [] H' b:=λhn b hb=>
  ⟨hn b hb,(I4.ok.exf b hb).1,I4.ok.exfs b hb,.inl hb,(I4.ok.exf b hb).2,λp hp=>by cases hp⟩
 have loop:codeAny (model X.prog X.w) X.A (.compLoop (.ListComp elt [⟨tg,iter,ifs,0⟩] scope pos) 0 (.ref it) (.ref s2.heap.objs.size) (Q0 scope s3.heap.objs.size X.env))
  (RR (.ref s2.heap.objs.size) s3.heap.objs.size) { s3 with heap:=h' }:=by
  refine Gy (λn s'=>∃i σ' ys H',Inv (cCx X (loc++fr) scope s3 (upd H2 s2.heap.objs.size (.lst [])) fp) [] σ' H' s'/\tn i s'.heap/\(∀b∈fp,H' b=none)/\W i n σ' ys H') ?_ m0
   ⟨0,_,[],_,I4,T.keep _ _ _ st3 λb hb o e=>hk b o e,λb hb=>(f3 b hb).1,w0⟩
  rintro n s5 ⟨i,σ5,ys,H5,I5,st5,fr5,w5⟩;obtain⟨hD,w5⟩:=turn i n σ5 ys H5 w5;rcases w5 with⟨stop,qn⟩|⟨go,hz,N,hN,step⟩
  .refine thn (T.done (cCx X (loc++fr) scope s3 (upd H2 s2.heap.objs.size (.lst [])) fp) rfl rfl rfl hc i [] s5 σ5 H5 _ I5 (fpX fr5) st5 stop) λr s6 ⟨hr,I6⟩=>?_;subst hr;exact hfin s3 s6 H5 σ5 s2.heap.objs.size I3 I6 f3 qn
  .refine thn (T.item (cCx X (loc++fr) scope s3 (upd H2 s2.heap.objs.size (.lst [])) fp) rfl rfl rfl hc i [] s5 σ5 H5 _ I5 (fpX fr5) st5 go) λr s6 ⟨u,hr,h6⟩=>?_;subst hr;refine thn h6 λ_ s7 ⟨x,H7,I7,r7,y7,st7,fr7⟩=>?_;have I7':=I7.pinned (fpX fr7) (T.obj _ _ st7);have keepI:∀{σ8:St} {H8:Hp} {s8:Shared},Inv (cCx X (loc++fr) scope s3 (upd H2 s2.heap.objs.size (.lst [])) fp) ([]++EV fp s7.heap) σ8 H8 s8->tn (i+1) s8.heap/\∀b∈fp,H8 b=none:=λ{σ8 H8 s8} I8=>by
    refine⟨T.keep _ _ _ st7 λb hb o e=>(I8.pin (b,o) (mem_append_right _ (mem_append_right _ (Br hb e)))).1,λb hb=>?_⟩;obtain⟨o,e,d⟩:=T.obj _ _ st7 b hb;exact(I8.pin (b,o) (mem_append_right _ (mem_append_right _ (Br hb e)))).2.1
   refine thn (hg s3 (upd H2 s2.heap.objs.size (.lst [])) fp _ s7 σ5 H7 x u _ I7' r7 (step x H7 y7)) λ_ s8 ⟨σ8,H8,I8,q8⟩=>?_;refine thn (hf s3 (upd H2 s2.heap.objs.size (.lst [])) fp _ s8 σ8 H8 _ I8 q8) λb s9 ⟨H9,I9,q9⟩=>?_;cases b with
   |false=>
    rw[if_neg Bool.false_ne_true]at q9 ⊢;obtain⟨m',hm,w9⟩:=hN _ _ _ q9;exact⟨m',hm,i+1,σ8,ys,H9,I9.unpinned,(keepI I9).1,(keepI I9).2,w9⟩
   |true=>
    rw[if_pos rfl]at q9 ⊢;refine thn (he s3 (upd H2 s2.heap.objs.size (.lst [])) fp _ s9 σ8 H9 _ I9 q9) λe10 s10 ⟨v10,H10,I10,r10,hD10,n10⟩=>?_;obtain⟨m',hm,w10⟩:=hN _ _ _ n10;refine Sb (X:=cCx X (loc++fr) scope s3 (upd H2 s2.heap.objs.size (.lst [])) fp) I10 hD10 r10 hz λ_ s11 I11=>?_;exact⟨m',hm,i+1,σ8,_,_,I11.unpinned,(keepI I11).1,(keepI I11).2,w10⟩
 exact codeAny_compStart_list loop (T.self X.A 0 _ _ _ (T.keep _ _ _ st3 λb hb o e=>hk b o e) loop)
def Nk{scope:Scope}{N':List Str}{fp:List Addr}{pins:List (Addr×Obj)}{σ σ5:St}{H3 H5:Hp}{s3 s6:Shared}{h'':Heap}(I3:Inv X pins σ H3 s3)(I6:Inv (cCx X N' scope s3 H3 fp) [] σ5 H5 s6)(f3:∀b∈fp,FpOk X pins H3 b)
 (hs:Heap.SameBut s3.heap.objs.size s6.heap h''):Inv X pins σ H5 { s6 with heap:=h'' }:=by
 have neC:∀b o,s3.heap.get? b=some o->b≠s3.heap.objs.size:=λb o e=>ne_of_lt (Heap.lt_size e);have un:=I6.base;refine I3.call' (s':={ s6 with heap:=h'' }) (ch:=fp) I6.os ⟨λb o e n hb hx=>?_,λb o e n hb hx=>?_,un.free,λb o e hx=>?_,un.tups,un.frzs,un.tbls⟩ ?_ I6.bare ?_
 .exact(hs.2 b (neC b o e)).trans (un.keep b o e n hb hx)
 .obtain⟨sl,q⟩:=un.slot b o e n hb hx;exact⟨sl,(hs.2 b (neC b o e)).trans q⟩
 .obtain⟨o',q⟩:=un.there b o e hx;exact⟨o',(hs.2 b (neC b o e)).trans q⟩
 .intro b ob e;have hfree:H5 s3.heap.objs.size=none:=I6.free;refine(I6.hok b ob e).stay (λc w' hc q=>(hs.2 c ?_).trans q) (λ_ q=>q) λ_ _ q=>q;intro z;rcases hc with hc|hc
  .rw[<- hc,z,hfree]at e;cases e
  .rw[z,hfree]at hc;cases hc
 .intro b hb;obtain⟨_,a2,_,a4,a5,a6⟩:=f3 b hb;exact⟨a4,a2,a5,a6⟩
def XG{i:Nat}{y:Str}{elt tg iter:Expr}{ifs:List Expr}{scope:Scope}{pos spos py:Pos}{loc fr:List Str}{ix:List Nat}{wi:TI}{g:TG}{tf:TT}{te:TE}(hN:X.N.Nodup)(hiN:X.N[i]?=some y)(hy:X.env.scope.names.lookup y=some .local)
 (hc:X.calm=true) (S:CSc X scope fr ix) (hi:PI X tg iter wi)
 (hg:∀s H ex,PG (cCx X (loc++fr) scope s H ex) tg g) (hf:∀s H ex,PF (cCx X (loc++fr) scope s H ex) ifs tf) (he:∀s H ex,PE (cCx X (loc++fr) scope s H ex) elt te)
 (hsw:swapsWith (.ListComp elt [⟨tg,iter,ifs,0⟩] scope pos) (some (.Name y py)) spos.line X.env=pure true:=by rfl) (hs:∀x,foldedSetIterable iter X.env x=pure x:=by intro _;rfl):
 PS X (.Assign [.Name y py] (.ListComp elt [⟨tg,iter,ifs,0⟩] scope pos) spos) (EQ (Fa loc.length ix wi g tf te) (Dj i)):=by
 intro pins s σ H D I h;have hnames:∀y∈scope.names,y.2=.local->scope.names.lookup y.1=some .local:=λy hy e=>by
  have:=all_eq_true.mp S.loc y hy;rw[e]at this;simpa using this
 rw[exec_Assign_Name_used _ _ _ _ hsw];refine wpAny_bind (wpAny_standAt (wpAny_bind ?_));show wpAny _ _ (do let _ <- comprehension (.ListComp elt [⟨tg,iter,ifs,0⟩] scope pos) scope X.env _ (newList []) false (eval iter X.env) (some (assign (.Name y py) X.env))) _ _ s;refine wpAny_bind (wpAny_mono (wpAny_comprehension_free (use:=some (assign (.Name y py) X.env)) (Q:=λ_ s'=>SP X pins D .next s') rfl hs (Cw (S.clos I.ok)) S.kind hnames
  (thn (hi pins s σ H _ I h) λv s1 h1=>thn h1 λitv s2 h2=>?_)) (λ_ s' hq=>wpAny_pure (wpAny_pure hq)) λ_ _ e=>e)
 obtain⟨it,fp,tn,J,H2,rfl,I2,T,st2,f2,hW⟩:=h2;refine Pu (RR:=λacc C=>compPost (model X.prog X.w) X.A X.xe (some (assign (.Name y py) X.env)) (λ_ s'=>SP X pins D .next s') acc C) hc S hg hf he I2 T st2 f2 hW λs3 s6 H5 σ5 L I3 I6 f3 q=>?_;have J6:Inv X pins σ H5 s6:=Nk (h'':=s6.heap) I3 I6 f3 (.refl ..);obtain⟨m,hm,_⟩:=I6.loc;have hm:s6.heap.Ns s3.heap.objs.size m:=hm;have hL:s3.heap.objs.size≠X.env.locals:=Ne.symm (ne_of_lt I3.lt);show wpAny _ _ (assign (.Name y py) X.env (.ref L)) _ _ s6;refine wpAny_assign_Name (Kc (v:=.ref L) J6 hN hiN (.inl hy) rfl (λs7 I7 ⟨a,sb,ha⟩=>?_) (.inr hy));have hca:s3.heap.objs.size≠a:=by
  rcases ha with rfl|ha
  .exact hL
  .obtain⟨v,z⟩:=I3.cell y a ha;exact Ne.symm (ne_of_lt z.lt)
 refine⟨m,hm.sameBut sb hca,λh' hs'=>?_⟩;refine⟨_,H5,I7.turned (t':=s7.toks) (it:=s3.heap.objs.size) (λb o hb e=>(hs'.2 b hb).trans e) I6.free hL (.inr I3.sz) (λx c e z=>?_) (λp hp z=>?_),q⟩
 .obtain⟨v,w⟩:=I3.cell x c e;exact absurd w.lt (by rw[z];exact lt_irrefl _)
 .exact absurd (Heap.lt_size (I3.pin p hp).1) (by rw[z];exact lt_irrefl _)
end
mutual
def Rep(K:PySem.W.Frag)(H:Hp):PyData->V->Prop
 |.none,v=>v=.non
 |.bool b,v=>v=.bl b
 |.int i,v=>v=.int i
 |.str x,v=>v=.str x
 |.list ds,v=>∃a xs,v=.ref a/\SqL K H a xs/\CC K H ds xs
 |.tuple ds,v=>∃a xs,v=.ref a/\SqT K H a xs/\CC K H ds xs
 |.dict _,_=>False
def CC(K:PySem.W.Frag)(H:Hp):List PyData->List V->Prop
 |[],xs=>xs=[]
 |d::ds,xs=>∃x r,xs=x::r/\Rep K H d x/\CC K H ds r
end
section
variable{X:Cx}{pins:List (Addr×Obj)}{σ:St}{H:Hp}{s:Shared}
mutual
def Du(I:Inv X pins σ H s):∀(d:PyData) (v:V) (u:Value),Rep X.K H d v->RelV v u->∃as,Reads s.heap u d as
 |.none,v,u,h,r=>by
  have h:v=.non:=by simpa only[Rep]using h
  subst h;cases r;exact⟨_,.none⟩
 |.bool b,v,u,h,r=>by
  have h:v=.bl b:=by simpa only[Rep]using h
  subst h;cases r;exact⟨_,.bool b⟩
 |.int i,v,u,h,r=>by
  have h:v=.int i:=by simpa only[Rep]using h
  subst h;obtain⟨t,rfl⟩:=r;exact⟨_,.int i t⟩
 |.str x,v,u,h,r=>by
  have h:v=.str x:=by simpa only[Rep]using h
  subst h;obtain⟨t,rfl⟩:=r;exact⟨_,.str x t⟩
 |.list ds,v,u,h,r=>by
  have h:∃a xs,v=.ref a/\SqL X.K H a xs/\CC X.K H ds xs:=by simpa only[Rep]using h
  obtain⟨a,xs,rfl,hq,ha⟩:=h;cases r;obtain⟨its,rv,⟨o,n,e,c,_,dd⟩,hz⟩:=I.list hq;obtain⟨as,q⟩:=EU I ds xs its ha rv;exact⟨_,.list e c dd (by simpa using q)⟩
 |.tuple ds,v,u,h,r=>by
  have h:∃a xs,v=.ref a/\SqT X.K H a xs/\CC X.K H ds xs:=by simpa only[Rep]using h
  obtain⟨a,xs,rfl,hq,ha⟩:=h;cases r;obtain⟨its,rv,⟨o,e,c,n,dd⟩,hz⟩:=I.tuple hq;obtain⟨as,q⟩:=EU I ds xs its ha rv;exact⟨_,.tuple e c dd (by simpa using q)⟩
 |.dict _,v,u,h,r=>by
  have h:False:=by simpa only[Rep]using h
  exact h.elim
def EU(I:Inv X pins σ H s):∀(ds:List PyData) (xs:List V) (us:List Value),CC X.K H ds xs->Vals xs us->∃as,ReadsAll s.heap us ds as
 |[],xs,us,h,r=>by
  have h:xs=[]:=by simpa only[CC]using h
  subst h;cases r;exact⟨_,.nil⟩
 |d::ds,xs,us,h,r=>by
  have h:∃x r,xs=x::r/\Rep X.K H d x/\CC X.K H ds r:=by simpa only[CC]using h
  obtain⟨x,rr,rfl,h1,h2⟩:=h;cases r with
  |cons r1 r2=>
   obtain⟨as,q1⟩:=Du I d _ _ h1 r1;obtain⟨bs,q2⟩:=EU I ds _ _ h2 r2;exact⟨_,.cons q1 q2⟩
end
end
structure Grow(H H':Hp):Prop where
 tup:∀b xs,H b=some (.tup xs)->H' b=some (.tup xs)
 frz:∀b o u,H b=some (.frz o u)->H' b=some (.frz o u)
def Grow.refl{H:Hp}:Grow H H:=⟨λ_ _ h=>h,λ_ _ _ h=>h⟩
def Chg(H:Hp)(p:Addr):Prop:=(∀xs,H p≠some (.tup xs))/\∀o u,H p≠some (.frz o u)
def Grow.put{H H':Hp}{p:Addr}{o:HO}(a:Grow H H')(h:Chg H' p):Grow H (upd H' p o):=⟨λc xs e=>by
 have q:=a.tup c xs e;have n:c≠p:=λz=>h.1 xs (by rw[<- z];exact q);rw[upd_ne n];exact q,λc z u e=>by
 have q:=a.frz c z u e;have n:c≠p:=λw=>h.2 z u (by rw[<- w];exact q);rw[upd_ne n];exact q⟩
def Chg.lst{H:Hp}{p:Addr}{xs:List V}(h:H p=some (.lst xs)):Chg H p:=⟨(λ_ e=>by rw[h]at e;cases e),(λ_ _ e=>by rw[h]at e;cases e)⟩
def Grow.sq{K:PySem.W.Frag}{H H':Hp}{a:Addr}{xs:List V}(g:Grow H H')(h:SqT K H a xs):SqT K H' a xs:=by
 rcases h with(h|⟨o,h⟩)|h
 .exact .inl (.inl (g.tup _ _ h))
 .exact .inl (.inr ⟨o,g.frz _ _ _ h⟩)
 .exact .inr h
section
variable{X:Cx}
def Tk(K:PySem.W.Frag):R2:=λx y H Q=>∃d e,Rep K H d x/\Rep K H e y/\d.canLay0=true/\e.canLay0=true/\min d.depth e.depth<=60/\Q (.bl (!PyData.eqv d e)) H
def Tn(K:PySem.W.Frag):R2:=λx y H Q=>∃d e,Rep K H d x/\Rep K H e y/\d.canLay0=true/\e.canLay0=true/\min d.depth e.depth<=60/\Q (.bl (PyData.eqv d e)) H
def ac(hu:X.A.units+64<cLine):OpR X (compareOp .NotEq) (Tk X.K):=by
 intro pins s σ H x y v u Q I rx ry h;obtain⟨d,e,h1,h2,c1,c2,hm,q⟩:=h;obtain⟨as,q1⟩:=Du I d x v h1 rx;obtain⟨bs,q2⟩:=Du I e y u h2 ry;exact PySem.SeqAt.compareNe_reads q1 q2 c1 c2 (by omega) ⟨.bl _,H,I,rfl,q⟩
def af(hu:X.A.units+64<cLine):OpR X (compareOp .Eq) (Tn X.K):=by
 intro pins s σ H x y v u Q I rx ry h;obtain⟨d,e,h1,h2,c1,c2,hm,q⟩:=h;obtain⟨as,q1⟩:=Du I d x v h1 rx;obtain⟨bs,q2⟩:=Du I e y u h2 ry;exact PySem.SeqAt.compareEq_reads q1 q2 c1 c2 (by omega) ⟨.bl _,H,I,rfl,q⟩
def DB:∀{ns:List Int} {us:List Value},Vals (ns.map V.int) us->IntsAre us ns
 |[],_,.nil=>.nil
 |n::ns,_,.cons r t=>by obtain⟨k,rfl⟩:=r;exact .cons _ _ (DB t)
def SU(hc:X.calm=true):CallR X (.builtin "sum") (λxs H Q=>∃(a:Addr) (ns:List Int),xs=[.ref a]/\SqL X.K H a (ns.map V.int)/\Q (.int ns.sum) H):=by
 intro pins s σ H xs us Q I r h;obtain⟨a,ns,rfl,hq,q⟩:=h;obtain⟨u,rfl,ru⟩:=BX r;cases ru;obtain⟨its,rv,p,hz⟩:=I.list hq;have hi:=DB rv;obtain⟨xs,hx⟩:=hi.allInts.items;have hl':s.heap.IsList a (intItems xs):=hx ▸ p.isList;refine sum_intListG (I.ok.hd hc) hl' λh' tk t' hk=>?_;have e1:ns=xs.toList.map (·.1):=by
  rw[<- nums_intItems,<- hx];exact(show numsOf its.toArray.toList=ns from hi.numsOf).symm
 have e2:preSum (numAt xs) xs.size=ns.sum:=by
  rw[preSum_eq,take_of_length_le (by simp),e1]
 rw[e2];exact⟨.int ns.sum,H,I.kept hk,⟨_,rfl⟩,q⟩
end
end L2
namespace L2
open PySem PySem.Spec PyProof.Rows
section
variable(K:PySem.W.Frag){X:Cx}
def Mw(hK:X.K=K:=by rfl):IxR X (Tm K):=by subst hK;exact Y0
def OH(hK:X.K=K:=by rfl):IxR X (Tl K):=by subst hK;exact bB
def T9(hK:X.K=K:=by rfl):SlR X (PB K):=by subst hK;exact Vz
def Vy(hK:X.K=K:=by rfl):SlR X (P9 K):=by subst hK;exact Ye
def Mn(hK:X.K=K:=by rfl):OpR X (compareOp .In) (rIn K false):=by subst hK;exact Rb
def RZ(hK:X.K=K:=by rfl):OpR X (compareOp .NotIn) (rIn K true):=by subst hK;exact Mm
def K9(hu:X.A.units+64<cLine)(hK:X.K=K:=by rfl):OpR X (compareOp .Eq) (Tn K):=by subst hK;exact af hu
def K8(hu:X.A.units+64<cLine)(hK:X.K=K:=by rfl):OpR X (compareOp .NotEq) (Tk K):=by subst hK;exact ac hu
def UN(hK:X.K=K:=by rfl):OpR X (binaryOp .Add) (PH K):=by subst hK;exact Xa
def ZN:List V->Hp->VK->Prop:=λxs H Q=>∃p ys,xs=[.ref p]/\(SqL K H p ys∨SqT K H p ys)/\Q (.int ys.length) H
def SX(hK:X.K=K:=by rfl):CallR X (.builtin "len") (ZN K):=by subst hK;exact NN
def FI:List V->Hp->VK->Prop:=λxs H Q=>∃p ys,xs=[.ref p]/\(SqL K H p ys∨SqT K H p ys)/\∀l,H l=none->Q (.ref l) (upd H l (.lst ys))
def Jn(hK:X.K=K:=by rfl):CallR X (.type "list") (FI K):=by subst hK;exact NM
def Me:List V->Hp->VK->Prop:=λxs H Q=>∃p ys,xs=[.ref p]/\((SqL K H p ys/\∀l,H l=none->Q (.ref l) (upd H l (.tup ys)))∨(SqT K H p ys/\Q (.ref p) H))
def Hv(hK:X.K=K:=by rfl):CallR X (.type "tuple") (Me K):=by subst hK;exact LP
def VL:List V->Hp->VK->Prop:=λxs H Q=>∃(a:Addr) (ns:List Int),xs=[.ref a]/\SqL K H a (ns.map V.int)/\Q (.int ns.sum) H
def L0(hc:X.calm=true)(hK:X.K=K:=by rfl):CallR X (.builtin "sum") (VL K):=by subst hK;exact SU hc
def IQ{tg l:Expr}{tl:TE}(hl:PE X l tl)(hK:X.K=K:=by rfl):PI X tg l (Fw K tl):=by subst hK;exact XQ hl
def OA{tg l:Expr}{tl:TE}(hl:PE X l tl)(hK:X.K=K:=by rfl):PI X tg l (N1 K tl):=by subst hK;exact aE hl
def XS{pos:Pos}{es:List Expr}{k:Nat}{t:TGs}{n:Nat}(hc:X.calm=true)(h:PGs X es t)(hK:X.K=K:=by rfl)
 (hn:(assignEach es X.env).length=n:=by rfl) (hst:(assignEach es X.env).findIdx? (·.1)=none:=by rfl):PG X (.Tuple es k pos) (Pl K n t):=by
 subst hK;exact aF hc h hn hst
end
section
variable(K:PySem.W.Frag){X:Cx}
def LB:∀{bs:List Bool} {us:List Value} {i:Nat} {v:Value},Vals (bs.map V.bl) us->us[i]?=some v->∃b,bs[i]?=some b/\v=.bool b
 |[],_,_,_,.nil,e=>by simp at e
 |b::bs,_,0,_,.cons r _,e=>by simp at e;subst e;exact⟨b,rfl,r⟩
 |b::bs,_,i+1,_,.cons _ t,e=>by
  obtain⟨c,h1,h2⟩:=LB (i:=i) t (by simpa using e);exact⟨c,by simpa using h1,h2⟩
def ZO:List V->Hp->VK->Prop:=λxs H Q=>∃(a:Addr) (bs:List Bool),xs=[.ref a]/\SqL K H a (bs.map V.bl)/\Q (.bl (bs.any id)) H
def L9(hc:X.calm=true)(hK:X.K=K:=by rfl):CallR X (.builtin "any") (ZO K):=by
 subst hK;intro pins s σ H xs us Q I r h;obtain⟨a,bs,rfl,hq,q⟩:=h;obtain⟨u,rfl,ru⟩:=BX r;cases ru;obtain⟨its,rv,p,hz⟩:=I.list hq;have hl:=p.isList;have hlen:=rv.length;have hlt:a<s.heap.objs.size:=by obtain⟨_,e,_⟩:=hl;exact Heap.lt_size e
 refine call_any_walk (wpAny_pyIter_list hl ?_);refine⟨s.heap.objs.size,[s.heap.objs.size,a],[s.heap.objs.size],its.toArray.size,_,_,λi=>(bs[i]?).getD false,rfl,Walks.list (A:=X.A.in1) (I.ok.hd hc) _ a (ne_of_lt hlt) its.toArray,
  ⟨⟨_,Heap.get?_push_size _ rfl,rfl,rfl⟩,hl.push _⟩,λi v s' Q' E' hP hQ=>?_,λh' tk hk=>?_⟩
 .obtain⟨b,e,rfl⟩:=LB rv (by simpa using hP);simp only[e,Option.getD_some]at hQ;exact wpAny_truthy_bool hQ
 .have e:((List.range its.toArray.size).any λi=>(bs[i]?).getD false)=bs.any id:=by
   rw[size_toArray,<- hlen,length_map];exact LSm.range_any bs
  rw[e];exact⟨.bl _,H,I.kept (LSm.kept_iter hk),rfl,q⟩
def K7:List V->Hp->VK->Prop:=λxs H Q=>∃(a:Addr) (ns:List Int),xs=[.ref a]/\SqL K H a (ns.map V.int)/\ns.length<64/\∀(p:Addr) (ns':List Int),H p=none->ns'.Perm ns->ns'.Pairwise (·<=·)->Q (.ref p) (upd H p (.lst (ns'.map V.int)))
def Jx:∀{ns:List Int} {us:List Value},IntsAre us ns->Vals (ns.map V.int) us
 |[],_,.nil=>.nil
 |_::_,_,.cons _ _ t=>.cons ⟨_,rfl⟩ (Jx t)
def NL(hK:X.K=K:=by rfl):CallR X (.builtin "sorted") (K7 K):=by
 subst hK;intro pins s σ H xs us Q I r h;obtain⟨a,ns,rfl,hq,h64,q⟩:=h;obtain⟨u,rfl,ru⟩:=BX r;cases ru;obtain⟨its,rv,p,hz⟩:=I.list hq;have hlen:=rv.length;rw[length_map]at hlen;refine sorted_ints p.isList (DB rv) (by omega) λout ns' a1 a2 a3=>?_;obtain⟨e,he⟩:=sortedAll_at s.heap its out;have hl':ns'.length=ns.length:=a2.length_eq;refine⟨.ref (s.heap.objs.size+1),_,I.laid (a:=s.heap.objs.size+1) (o:=.lst (ns'.map V.int)) (t':=s.toks) (λb o hb=>sortedAll_old hb) (le_succ _) ⟨?_,out.toList,e,Jx a1,he⟩,rfl,q _ _ (I.hok.fresh (le_succ _)) a2 a3⟩;rw[length_map,hl'];exact le_of_lt (GS (by omega))
def VO:List V->Hp->VK->Prop:=λxs H Q=>∃(a:Addr) (ns:List Int),xs=[.ref a]/\SqL K H a (ns.map V.int)/\0<ns.length/\∀M:Int,M∈ns->(∀x∈ns,x<=M)->Q (.int M) H
def L8(hc:X.calm=true)(hK:X.K=K:=by rfl):CallR X (.builtin "max") (VO K):=by
 subst hK;intro pins s σ H xs us Q I r h;obtain⟨a,ns,rfl,hq,hne,q⟩:=h;obtain⟨u,rfl,ru⟩:=BX r;cases ru;obtain⟨its,rv,p,hz⟩:=I.list hq;have hi:=DB rv;obtain⟨ys,e⟩:=hi.allInts.items;have hns:ns=ys.toList.map (·.1):=by
  rw[<- hi.numsOf,<- nums_intItems,<- e]
 have hsz:0<ys.size:=by
  have h3:=hne;rw[hns,length_map,Array.length_toList]at h3;exact h3
 have hl:=p.isList;rw[e]at hl;refine max_intList (I.ok.hd hc) hl hsz λv h' tk hv hk=>?_;obtain⟨t,rfl⟩:=intItems_at hv;obtain⟨h1,h2⟩:=argBest_gt (numAt ys) (ys.size-1);refine⟨.int _,H,I.kept hk,⟨t,rfl⟩,q _ ?_ λx hx=>?_⟩
 .rw[hns,numAt_eq];exact getD_mem (by rw[length_map,Array.length_toList];omega)
 .rw[hns]at hx;obtain⟨j,hj,rfl⟩:=mem_getD hx;rw[length_map,Array.length_toList]at hj;rw[<- numAt_eq];exact h2 j (by omega)
def VM:List V->Hp->VK->Prop:=λxs H Q=>∃(a:Addr) (ns:List Int),xs=[.ref a]/\SqL K H a (ns.map V.int)/\0<ns.length/\∀M:Int,M∈ns->(∀x∈ns,M<=x)->Q (.int M) H
def L7(hc:X.calm=true)(hK:X.K=K:=by rfl):CallR X (.builtin "min") (VM K):=by
 subst hK;intro pins s σ H xs us Q I r h;obtain⟨a,ns,rfl,hq,hne,q⟩:=h;obtain⟨u,rfl,ru⟩:=BX r;cases ru;obtain⟨its,rv,p,hz⟩:=I.list hq;have hi:=DB rv;obtain⟨ys,e⟩:=hi.allInts.items;have hns:ns=ys.toList.map (·.1):=by
  rw[<- hi.numsOf,<- nums_intItems,<- e]
 have hsz:0<ys.size:=by
  have h3:=hne;rw[hns,length_map,Array.length_toList]at h3;exact h3
 have hl:=p.isList;rw[e]at hl;refine min_intList (I.ok.hd hc) hl hsz λv h' tk hv hk=>?_;obtain⟨t,rfl⟩:=intItems_at hv;obtain⟨h1,h2⟩:=argBest_lt (numAt ys) (ys.size-1);refine⟨.int _,H,I.kept hk,⟨t,rfl⟩,q _ ?_ λx hx=>?_⟩
 .rw[hns,numAt_eq];exact getD_mem (by rw[length_map,Array.length_toList];omega)
 .rw[hns]at hx;obtain⟨j,hj,rfl⟩:=mem_getD hx;rw[length_map,Array.length_toList]at hj;rw[<- numAt_eq];exact h2 j (by omega)
end
section
variable{prog:Program}{w:World}{A:Around}{E:Value->Shared->Prop}{s:Shared}{l:Addr}{xs:Array (Int×Tok)}
def GK{Q:Value->Shared->Prop}(hl:s.heap.IsTuple l (intItems xs))
 (h:∀s₂:Shared,s₂={ s with heap:=s.heap.push { cls:=.type "tuple_iterator",data:=.fields #[.ref l,.int 0 0] } } ->
  (s₂.heap.IsTupleIter s.heap.objs.size l 0/\s₂.heap.IsTuple l (intItems xs))->(∀b∈[s.heap.objs.size,l],b<s₂.heap.objs.size)->l≠s.heap.objs.size->Q (.ref s.heap.objs.size) s₂):
 wpAny (model prog w) A (pyIter (.ref l)) Q E s:=by
 have hlt:l<s.heap.objs.size:=by obtain⟨_,e,_⟩:=hl;exact Heap.lt_size e
 refine wpAny_pyIter_tuple hl (h _ rfl ⟨⟨_,Heap.get?_push_size _ rfl,rfl,rfl⟩,hl.push _⟩ (λb hb=>?_) (ne_of_lt hlt));show b<(s.heap.push _).objs.size;rw[Heap.size_push];rcases mem_cons.mp hb with rfl|hb
 .exact Nat.lt_succ_self _
 .rcases mem_cons.mp hb with rfl|hb
  .exact lt_succ_of_lt hlt
  .cases hb
def Kj{h':Heap}{o:Obj}(hk:∀b x,b∉[s.heap.objs.size]->(s.heap.push o).get? b=some x->h'.get? b=some x):∀b x,s.heap.get? b=some x->h'.get? b=some x:=
 λb x e=>hk b x (λhm=>by rw[mem_singleton.mp hm]at e;exact lt_irrefl _ (Heap.lt_size e)) (Heap.get?_push_of_some _ e)
def M6{Q:Value->Shared->Prop}(hh:A.handled=none)(hl:s.heap.IsTuple l (intItems xs))
 (h:∀h' tk t',(∀b o,s.heap.get? b=some o->h'.get? b=some o)->Q (.int (preSum (numAt xs) xs.size) t') { s with heap:=h',toks:=tk }):
 wpAny (model prog w) A (call (.builtin "sum") [.ref l]) Q E s:=by
 refine call_sum_walkG (GK hl λs₂ e st hfp hlI=>?_);subst e;refine⟨_,_,_,_,_,_,numAt xs,rfl,Walks.tuple (A:=A.in1) hh _ l hlI (intItems xs),st,hfp,(λ_ _=>intItems_at),λh' tk t' hk=>?_⟩;have:=h h' tk t' (Kj hk);simpa [intItems]using this
def Mq{Q:Value->Shared->Prop}(hh:A.handled=none)(hl:s.heap.IsTuple l (intItems xs))(hne:0<xs.size)
 (h:∀v h' tk,(intItems xs)[argBest (λi j=>decide (numAt xs i>numAt xs j)) (xs.size-1)]?=some v->(∀b o,s.heap.get? b=some o->h'.get? b=some o)->Q v { s with heap:=h',toks:=tk }):
 wpAny (model prog w) A (call (.builtin "max") [.ref l]) Q E s:=by
 refine call_max_walk (GK hl λs₂ e st hfp hlI=>?_);subst e;refine⟨_,_,_,_,_,_,_,rfl,Walks.tuple (A:=A.in1) hh _ l hlI (intItems xs),st,hfp,by simpa [intItems]using hne,CmpOf.ints_gt (numAt xs) (λ_ _=>intItems_at),λv h' tk hP hk=>?_⟩;exact h v h' tk (by simpa [intItems]using hP) (Kj hk)
end
section
variable(K:PySem.W.Frag){X:Cx}
def VJ:List V->Hp->VK->Prop:=λxs H Q=>∃(a:Addr) (ns:List Int),xs=[.ref a]/\SqT K H a (ns.map V.int)/\Q (.int ns.sum) H
def Jl(hc:X.calm=true)(hK:X.K=K:=by rfl):CallR X (.builtin "sum") (VJ K):=by
 subst hK;intro pins s σ H xs us Q I r h;obtain⟨a,ns,rfl,hq,q⟩:=h;obtain⟨u,rfl,ru⟩:=BX r;cases ru;obtain⟨its,rv,p,hz⟩:=I.tuple hq;have hi:=DB rv;obtain⟨xs,hx⟩:=hi.allInts.items;have hl':s.heap.IsTuple a (intItems xs):=hx ▸ (show s.heap.IsTuple a its.toArray from p);refine M6 (I.ok.hd hc) hl' λh' tk t' hk=>?_;have e1:ns=xs.toList.map (·.1):=by
  rw[<- nums_intItems,<- hx];exact(show numsOf its.toArray.toList=ns from hi.numsOf).symm
 have e2:preSum (numAt xs) xs.size=ns.sum:=by
  rw[preSum_eq,take_of_length_le (by simp),e1]
 rw[e2];exact⟨.int ns.sum,H,I.kept hk,⟨_,rfl⟩,q⟩
def VN:List V->Hp->VK->Prop:=λxs H Q=>∃(a:Addr) (ns:List Int),xs=[.ref a]/\SqT K H a (ns.map V.int)/\0<ns.length/\∀M:Int,M∈ns->(∀x∈ns,x<=M)->Q (.int M) H
def Jm(hc:X.calm=true)(hK:X.K=K:=by rfl):CallR X (.builtin "max") (VN K):=by
 subst hK;intro pins s σ H xs us Q I r h;obtain⟨a,ns,rfl,hq,hne,q⟩:=h;obtain⟨u,rfl,ru⟩:=BX r;cases ru;obtain⟨its,rv,p,hz⟩:=I.tuple hq;have hi:=DB rv;obtain⟨ys,e⟩:=hi.allInts.items;have hns:ns=ys.toList.map (·.1):=by
  rw[<- hi.numsOf,<- nums_intItems,<- e]
 have hsz:0<ys.size:=by
  have h3:=hne;rw[hns,length_map,Array.length_toList]at h3;exact h3
 have hl:s.heap.IsTuple a (intItems ys):=e ▸ (show s.heap.IsTuple a its.toArray from p);refine Mq (I.ok.hd hc) hl hsz λv h' tk hv hk=>?_;obtain⟨t,rfl⟩:=intItems_at hv;obtain⟨h1,h2⟩:=argBest_gt (numAt ys) (ys.size-1);refine⟨.int _,H,I.kept hk,⟨t,rfl⟩,q _ ?_ λx hx=>?_⟩
 .rw[hns,numAt_eq];exact getD_mem (by rw[length_map,Array.length_toList];omega)
 .rw[hns]at hx;obtain⟨j,hj,rfl⟩:=mem_getD hx;rw[length_map,Array.length_toList]at hj;rw[<- numAt_eq];exact h2 j (by omega)
end
structure DefAt(K:PySem.W.Frag)(mg:Str->Option Value)(x:Str)(st:Stmt)(f:Addr)(fd:FuncData)(ps:List Str):Prop where
 fn:Fun K x x st f fd
 mg:mg x=some (.ref f)
 bd:Binds K fd ps []
def PR{X:Cx}{j k:Nat}{f:Addr}{fd:FuncData}{ps:List Str}{sp:Sp}{x:Str}{st:Stmt}{e:Expr}{es:List Expr}{t:TA}{p pos:Pos}(F:FnOk X.prog X.w X.K X.mg X.base CX0 j f fd ps sp)(hr:Room k X.A)(D:DefAt X.K X.mg x st f fd ps)(ha:PA X (e::es) t)
 (hjk:j<=k:=by decide) (hg:Gl X x:=by rfl) (hdb:(x==("__debug__":Str))=false:=by decide) (he:starEach (e::es) X.env=(false,eval e X.env)::starEach es X.env:=by rfl) (hpl:(backTo pos (starEach es X.env)).any (·.1)=false:=by rfl):
 PE X (.Call (.Name x p) (e::es) [] pos) (C2 sp [] E0 t):=
 XY (F.mono hjk) hr hg D.mg D.fn.kp D.bd .nil VS ha hdb he hpl
def KW:bootBuiltins "list"=some (.type "list"):=by decide +kernel
def bt_tuple:bootBuiltins "tuple"=some (.type "tuple"):=by decide +kernel
def bt_int:bootBuiltins "int"=some (.type "int"):=by decide +kernel
def bt_len:bootBuiltins "len"=some (.builtin "len"):=by decide +kernel
def bt_sum:bootBuiltins "sum"=some (.builtin "sum"):=by decide +kernel
def bt_min:bootBuiltins "min"=some (.builtin "min"):=by decide +kernel
def bt_max:bootBuiltins "max"=some (.builtin "max"):=by decide +kernel
def Ex:bootBuiltins "sorted"=some (.builtin "sorted"):=by decide +kernel
def bt_any:bootBuiltins "any"=some (.builtin "any"):=by decide +kernel
def LQ:bootBuiltins "isinstance"=some (.builtin "isinstance"):=by decide +kernel
mutual
def Hu:∀ns:List Int,PyData.canLayAll0 (ns.map PyData.int)=true
 |[]=>by simp[PyData.canLayAll0]
 |n::ns=>by simp[PyData.canLayAll0,PyData.canLay0,Hu ns]
end
end L2
namespace L2
open PySem PySem.Spec PyProof.Rows PySem.W
def lCx(X:Cx)(A:Around)(N':List Str)(qual:Str)(scope:Scope)(f:Addr)(cd:Value)(cl:List (Str×Addr))(s:Shared)(H:Hp):Cx:=
 { X with N:=N',s₀:=s,H₀:=H,A:=A.deeper (envX qual scope s.heap.objs.size f cd cl),env:=envX qual scope s.heap.objs.size f cd cl,outer:=X.stack,stack:=envX qual scope s.heap.objs.size f cd cl::X.stack,ex:=[],fn:=λ_=>false,calm:=true,pn:=[],xe:=λ_ _=>False }
structure LSc(scope:Scope)(p:Str):Prop where
 nocell:(scope.names.all λy=>y.2 != .cell)=true
 par:scope.names.lookup p=some .local
 co:scope.isCoroutine=false
 gen:scope.isGenerator=false
section
variable{X:Cx}{scope:Scope}{fr:List Str}{ix:List Nat}{pins:List (Addr×Obj)}{σ:St}{H:Hp}{s:Shared}{p:Str}
def LSc.ne(L:LSc scope p):∀y∈scope.names,y.2≠.cell:=λy hy e=>by
 have:=all_eq_true.mp L.nocell y hy;rw[e]at this
 revert this;decide
def Y6(S:CSc X scope fr ix)(L:LSc scope p)(I:Inv X pins σ H s){A:Around}(hf:A.frames=X.A.frames)(hh:A.handled=none){qual:Str}{f:Addr}{cd:Value}{h':Heap}{x:V}{u:Value}{t':Nat}
 (hk:∀b o,s.heap.get? b=some o->h'.get? b=some o) (hn:h'.Ns s.heap.objs.size λy=>if y=p then some u else none) (r:RelV x u):
 Inv (lCx X A (p::fr) qual scope f cd (AU X.env.cells scope.names []) s H) [] (some x::ix.map λi=>(σ[i]?).join) H { s with heap:=h',toks:=t' }:=by
 have lenix:fr.length=ix.length:=by simpa using congrArg List.length S.ixs
 have co:∀x c,(AU X.env.cells scope.names []).lookup x=some c->X.env.cells.lookup x=some c:=λx c e=>DS (S.clos I.ok) (λ_ _ z=>by simp at z) x c e;refine⟨⟨I.ok.mod,S.kind,rfl,rfl,le_refl _,?_,?_,?_,λ_=>hh,Around.frames_deeper (hf.trans I.ok.frames),.inr ⟨rfl,rfl⟩,?_,I.bs,le_trans I.ok.bsz I.sz,?_,?_,I.stack,I.stkFree⟩,rfl,I.bare,Un.kept hk,⟨_,hn,?_⟩,?_,I.hok.fresh (le_refl _),?_,?_,I.hok.kept hk,?_⟩
 .intro x y c e1 e2;exact I.ok.inj x y c (co x c e1) (co y c e2)
 .intro x hx;rcases hx with e|e
  .exact absurd rfl (L.ne (x,.cell) (PySem.mem_of_lookup e))
  .exact isSome_iff_exists.mp (Ci (.inr (PySem.mem_of_lookup e)))
 .intro x c hf;cases hf
 .intro b hb;cases hb
 .intro b o e hb;cases hb
 .intro b hb;cases hb
 .intro i y v e1 e2 e3;cases i with
  |zero=>
   have e1:some p=some y:=e1;have e2:some (some x)=some (some v):=e2;cases e1;cases e2;exact⟨u,r,.inl ⟨L.par,if_pos rfl⟩⟩
  |succ j=>
   have e1:fr[j]?=some y:=e1;have e2:(ix.map λi=>(σ[i]?).join)[j]?=some (some v):=e2;rw[List.getElem?_map]at e2;have e4:(fr.map some)[j]?=some (some y):=by rw[List.getElem?_map,e1];rfl
   rw[S.ixs,List.getElem?_map]at e4;cases q:ix[j]? with
   |none=>rw[q]at e2;cases e2
   |some k=>
    rw[q]at e2 e4;have e2:(σ[k]?).join=some v:=Option.some.inj e2;have e4:X.N[k]?=some y:=Option.some.inj e4;have e5:σ[k]?=some (some v):=by
     cases w:σ[k]? with
     |none=>rw[w]at e2;cases e2
     |some z=>rw[w]at e2;simpa using e2
    have hfx:=all_eq_true.mp S.frs y (mem_of_getElem? e1);have hfx:scope.names.lookup y=some .free:=by simpa using hfx
    have hmem:=PySem.mem_of_lookup hfx;have hout:=S.outer hmem rfl;obtain⟨m,hm,hl⟩:=I.loc;obtain⟨u',r',l⟩:=hl k y v e4 e5 (.inr hout);refine⟨u',r',.inr ⟨.inr hfx,?_⟩⟩;rcases l with⟨kk,_⟩|⟨kk,c,ec,z⟩
    .rcases hout with w|w
     .rw[kk]at w;cases w
     .rw[kk]at w;cases w
    .obtain⟨d,hd⟩:=isSome_iff_exists.mp (Ci (cells:=X.env.cells) (acc:=[]) (.inr hmem));have:=co y d hd;rw[ec]at this;cases this;exact⟨c,hd,z.keeps hk⟩
 .intro x c e;obtain⟨v,z⟩:=I.cell x c (co x c e);exact⟨v,z.keeps hk⟩
 .intro x c e;exact I.freeC x c (co x c e)
 .intro p hp;cases hp
 .show(_::_:List (Option V)).length=(p::fr).length;simp[lenix]
def IZ(S:CSc X scope fr ix)(L:LSc scope p)(I:Inv X pins σ H s){A:Around}(hf:A.frames=X.A.frames)(hr:Room 1 A){qual:Str}{f:Addr}{cd ctv pm:Value}{params:Arguments}{body:Expr}{x:V}{u:Value}{tb:TE}{Q:VK}
 (ho:s.heap.get? f=some { cls:=.type "function",data:=.func (kla_fn "<lambda>" qual params body scope (AU X.env.cells scope.names []) pm cd ctv) }) (hcd:s.heap.CodeRec cd qual)
 (hb:∀us:Value,bindArgs (kla_fn "<lambda>" qual params body scope (AU X.env.cells scope.names []) pm cd ctv) ⟨[us],[]⟩=pure [(p,us)])
 (he:∀(s:Shared) (H:Hp),PE (lCx X A (p::fr) qual scope f cd (AU X.env.cells scope.names []) s H) body tb) (r:RelV x u) (h:tb (some x::ix.map λi=>(σ[i]?).join) H Q):
 wpAny (model X.prog X.w) A (call (.ref f) [u]) (EP X pins σ Q) (λ_ _=>False) s:=by
 refine wpAny_call (codeAny_mono (R:=λres s'=>match res with|.ok (.ret u)=>EP X pins σ Q u s'|_=>False) (kla_callFunE hr.depth ho rfl L.co L.gen rfl hcd ?_) ?_)
 .rw[hb];refine wpAny_pure ?_;refine wpAny_newFunctionEnv L.ne (λy hy=>by rw[mem_singleton]at hy;subst hy;exact L.par) (λh' hns hsb=>⟨?_,?_⟩) S.kind
  .have hk:∀b o,s.heap.get? b=some o->h'.get? b=some o:=λb o e=>(hsb.2 b (ne_of_lt (Heap.lt_size e))).trans (Heap.get?_push_of_some _ e);exact I.nolimit.keeps hk
  .have hk:∀b o,s.heap.get? b=some o->h'.get? b=some o:=λb o e=>(hsb.2 b (ne_of_lt (Heap.lt_size e))).trans (Heap.get?_push_of_some _ e);have hns':h'.Ns s.heap.objs.size λy=>if y=p then some u else none:=by
    have e:(λy=>([(p,u)]:List (Str×Value)).reverse.lookup y)=λy=>if y=p then some u else none:=by
     funext y
     simp only[List.reverse_cons,List.reverse_nil,nil_append,lookup_cons,List.lookup_nil];by_cases hy:y=p
     .subst hy;simp
     .have hb':(y==p)=false:=beq_eq_false_iff_ne.mpr hy;simp[hb',hy]
    rw[<- e];exact hns
   have J:=Y6 (t':=s.toks+1) (qual:=qual) (f:=f) (cd:=cd) S L I hf hr.hd hk hns' r;refine kla_codeExpr (wpAny_mono (he s H [] _ _ H Q J h) (λv s' hv=>?_) λ_ _ z=>z.elim);obtain⟨y,H',J',ry,q⟩:=hv;obtain⟨hh,g,d,t,os'⟩:=s';obtain rfl:os'=s.os:=J'.os;exact⟨y,H',I.call (h':=hh) (g':=g) (d':=d) (t':=t) (ch:=[]) J'.base J'.hok J'.bare (λb z=>absurd z (by simp)),ry,q⟩
 .intro res s' hq;cases res with
  |error e=>exact hq
  |ok fl=>
   cases fl with
   |ret u=>exact hq
   |next=>exact hq
   |brk=>exact hq
   |cont=>exact hq
end
def cdF(c:Addr)(q:Str):Heap->Prop:=λh=>h.CodeRec (.ref c) q
def DU(H:Hp)(q:Str)(pos:Pos)(ps:Array Value):Prop:=ps=#[]∨∃c,ps=#[rawInt pos.line,rawInt pos.col,.ref c]/\H c=some (.ext (cdF c q))
def TabStep(P:Addr)(q:Str)(pos:Pos)(H H':Hp):Prop:=H'=H∨∃c,H c=none/\c≠P/\H'=upd (upd H P (.tbl #[rawInt pos.line,rawInt pos.col,.ref c])) c (.ext (cdF c q))
structure LamAt(X:Cx)(c P:Addr):Prop where
 code:X.env.code=.ref c
 hd:CodeHd X.base c P
 bl:X.base.BuiltinsAt X.mg P
section
variable{X:Cx}{pins:List (Addr×Obj)}{σ:St}{H:Hp}{s:Shared}{c P:Addr}{scope:Scope}{fr:List Str}{ix:List Nat}
def Y5(I:Inv X pins σ H s){q:Str}{ps:Array Value}{ps':Array Value}(hP:H P=some (.tbl ps)){c':Addr}{h':Heap}{t':Nat}(hx:∀b o,b≠P->s.heap.get? b=some o->h'.get? b=some o)(hc:s.heap.objs.size<=c')
 (hrec:h'.CodeRec (.ref c') q) (htb:h'.get? P=some (tabObj (ps++ps'))):Inv X pins σ (upd (upd H P (.tbl (ps++ps'))) c' (.ext (cdF c' q))) { s with heap:=h',toks:=t' }:=by
 have hcn:H c'=none:=I.hok.fresh hc;have hPc:P≠c':=AV hP hcn;have nP:∀b,H b=none->b≠P:=λb n z=>by subst z;rw[hP]at n;cases n
 have other:∀b,b≠P->b≠c'->upd (upd H P (.tbl (ps++ps'))) c' (.ext (cdF c' q)) b=H b:=λb h1 h2=>by rw[upd_ne h2,upd_ne h1]
 have ne':∀b u,H b=some u->b≠c':=λb u e=>AV e hcn;refine I.un (h':=h') (t':=t') ⟨λb o e n _ _=>hx b o (nP b n) e,λb o e n _ _=>⟨o.slots,hx b o (nP b n) e⟩,λb o e n _=>?_,λb o e _=>?_,λb xs e=>?_,λb o u e=>?_,λb qs e=>?_⟩ λb u e=>?_
 .rw[other b (nP b n) (ne_of_lt (lt_of_lt_of_le (Heap.lt_size e) hc))];exact n
 .by_cases z:b=P
  .subst z;exact⟨_,htb⟩
  .exact⟨o,hx b o z e⟩
 .rw[other b (λz=>by subst z;rw[hP]at e;cases e) (ne' b _ e)];exact e
 .rw[other b (λz=>by subst z;rw[hP]at e;cases e) (ne' b _ e)];exact e
 .by_cases z:b=P
  .subst z;rw[hP]at e;cases e;exact⟨ps',by rw[upd_ne hPc,AI]⟩
  .exact⟨#[],by rw[other b z (ne' b _ e),e];simp⟩
 .by_cases z:b=c'
  .subst z;rw[AI]at e;cases e;obtain⟨c0,o,vs,t,e0,r⟩:=id hrec;cases e0;refine⟨hrec,⟨o,r.1⟩,λh1 h2 q1 k=>?_⟩;obtain⟨c1,o1,vs1,t1,e1,g1,r1⟩:=q1;cases e1;exact⟨_,o1,vs1,t1,rfl,k _ g1,r1⟩
  .by_cases z2:b=P
   .subst z2;rw[upd_ne hPc,AI]at e;cases e;exact htb
   .rw[other b z2 z]at e;refine(I.hok b u e).stay (λd v hd q=>hx d v ?_ q) (λd q=>?_) λd xs q=>?_
    .rcases hd with rfl|hd
     .exact z2
     .intro y;subst y;rw[hP]at hd;cases hd
    .rw[other d (λy=>by subst y;rw[hP]at q;cases q) (ne' d _ q)];exact q
    .rw[other d (λy=>by subst y;rw[hP]at q;cases q) (ne' d _ q)];exact q
structure Made(X:Cx)(scope:Scope)(params:Arguments)(body:Expr)(P:Addr)(q:Str)(pos:Pos)(s:Shared)(H H':Hp)(f:Addr)(cd ctv:Value)(s':Shared):Prop where
 fn:s'.heap.get? f=some { cls:=.type "function",data:=.func (kla_fn "<lambda>" q params body scope (AU X.env.cells scope.names []) ((X.mg "__name__").getD .none) cd ctv) }
 cdc:∃c,cd=.ref c/\H' c=some (.ext (cdF c q))
 step:TabStep P q pos H H'
 new:s.heap.objs.size<=f
 fre:H' f=none
def IY(S:CSc X scope fr ix)(LA:LamAt X c P)(I:Inv X pins σ H s){A:Around}{E:Value->Shared->Prop}{params:Arguments}{body:Expr}{pos:Pos}{ps:Array Value}{Q:Value->Shared->Prop}(hdef:defaultsOf params X.env=([],[]))
 (hP:H P=some (.tbl ps)) (hg:DU H (X.env.qual++"<lambda>") pos ps)
 (h:∀f cd ctv H' s',Inv X pins σ H' s'->Made X scope params body P (X.env.qual++"<lambda>") pos s H H' f cd ctv s'->Q (.ref f) s'):
 wpAny (model X.prog X.w) A (eval (.Lambda params body scope pos) X.env) Q E s:=by
 have hcl:closureFor scope X.env=pure (AU X.env.cells scope.names []):=Cw (S.clos I.ok);have hns:=I.mod.glob.keeps I.bk;have hb:=LA.bl.keeps I.bk;have hcd:=LA.hd.keeps I.bk;have hobj:s.heap.get? P=some (tabObj ps):=I.hok P _ hP;have hgP:mainGlobals≠P:=λz=>by
  obtain⟨o,es,ep,e,hd,_⟩:=hns;rw[z,hobj]at e;cases e;cases hd
 refine kla_eval hdef ?_;rcases hg with rfl|⟨c',rfl,hc'⟩
 .refine kla_makeFunction hcl I.ok.glob hns LA.code hcd hobj trivial rfl hgP hb λc' ctv h' tk hx hge hlt hrec htb=>?_;have hx':∀b o,b≠P->s.heap.get? b=some o->(h'.push (kla_obj "<lambda>" (X.env.qual++"<lambda>") params body scope (AU X.env.cells scope.names []) ((X.mg "__name__").getD .none) c' ctv)).get? b=some o:=λb o n e=>Heap.get?_push_of_some _ (hx b o n e);have J:=Y5 (t':=tk) I hP hx' hge (hrec.push _) (Heap.get?_push_of_some _ htb);refine h _ _ ctv _ _ J ⟨Heap.get?_push_size _ rfl,⟨c',rfl,AI⟩,.inr ⟨c',I.hok.fresh hge,(AV hP (I.hok.fresh hge)).symm,?_⟩,?_,?_⟩
  .simp
  .exact le_trans hge (le_of_lt hlt)
  .have hs:s.heap.objs.size<=h'.objs.size:=le_trans hge (le_of_lt hlt);rw[upd_ne (ne_of_gt hlt),upd_ne (ne_of_gt (lt_of_lt_of_le (Heap.lt_size hobj) hs))];exact I.hok.fresh hs
 .have hrec:s.heap.CodeRec (.ref c') (X.env.qual++"<lambda>"):=(I.hok c' _ hc').1;have hf:codeAmong pos (#[rawInt pos.line,rawInt pos.col,Value.ref c']:Array Value).toList=some (.ref c'):=by simp[codeAmong,rawInt]
  refine kla_makeFunctionHit hcl I.ok.glob hns LA.code hcd hobj (by simp[TriplesOk,rawInt]) hf hb λctv h' tk hk hsz=>?_;have hk':∀b o,s.heap.get? b=some o->(h'.push { cls:=.type "function",data:=.func (kla_fn "<lambda>" (X.env.qual++"<lambda>") params body scope (AU X.env.cells scope.names []) ((X.mg "__name__").getD .none) (.ref c') ctv) }).get? b=some o:=λb o e=>Heap.get?_push_of_some _ (hk b o e);exact h _ _ ctv _ _ (I.kept (t':=tk) hk') ⟨Heap.get?_push_size _ rfl,⟨c',rfl,hc'⟩,.inl rfl,hsz,I.hok.fresh hsz⟩
end
end L2
namespace L2
open PySem PySem.Spec PyProof.Rows
inductive I where
 |non|bl (b:Bool)|int (i:Int)|str (x:Str)|tup (ds:List I)
inductive D where
 |im (i:I)|mu (n:Nat)|tm (ds:List D)|ro (ns:List Int)
inductive MO where
 |lst (ds:List D)|dic (kvs:List (Key×D))
abbrev Hd:=List MO
abbrev Ls:=List (Option D)
def RoL(K:PySem.W.Frag)(H:Hp)(a:Addr)(xs:List V):Prop:=(∃o,H a=some (.frz o (.lst xs))) ∨
 ∃(o:Obj) (its:Array Value) (n:Nat),K.lookup a=some o/\o.cls=.type "list"/\o.dict=none/\o.data=.seq its n/\its.size<=sizeLine/\Vals xs its.toList
def RoL.sq{K:PySem.W.Frag}{H:Hp}{a:Addr}{xs:List V}(h:RoL K H a xs):SqL K H a xs:=by
 rcases h with⟨o,h⟩|h
 .exact .inl (.inr ⟨o,h⟩)
 .exact .inr h
def RoL.grow{K:PySem.W.Frag}{H H':Hp}{a:Addr}{xs:List V}(g:Grow H H')(h:RoL K H a xs):RoL K H' a xs:=by
 rcases h with⟨o,h⟩|h
 .exact .inl ⟨o,g.frz _ _ _ h⟩
 .exact .inr h
def BT(n:Nat):Prop:=n<=sizeLine
def DO(n:Nat):Prop:=n<sizeLine
def EA(i j:Int):Prop:=(-(2^64)<i/\i<2^64)∨(-(2^64)<j/\j<2^64)
def Fk(i j:Int):Prop:=0<=j/\j<=1000000/\i.natAbs<2^64
def Lk(j:Int):Prop:=0<j/\j<1073741824
def EB(j:Int):Prop:=0<j
def Fd(j:Int):Prop:=-(2^62)<=j/\j<2^62
def P2(i j:Int):Prop:=(-(2^62)<=i/\i<2^62)/\-(2^62)<=j/\j<2^62
def HJ(j:Int):Prop:=j<2^24/\-(2^62)<=j
def VC(i j:Int):Prop:=(-(2^62)<=i/\i<2^62)/\(-(2^62)<=j/\j<2^62)/\(j-i).toNat<=2^24
def AK{n:Nat}(h:n<=1000000):BT n:=le_trans h (by rw[sizeLine_eq];decide)
def BD{n:Nat}(h:n<1000000):DO n:=lt_of_lt_of_le h (by rw[sizeLine_eq];decide)
def D8{i j:Int}(a:-1000000000000<=i)(b:i<=1000000000000):EA i j:=.inl ⟨by omega,by omega⟩
def HL{i j:Int}(a:-1000000000000<=j)(b:j<=1000000000000):EA i j:=.inr ⟨by omega,by omega⟩
def EF{j:Int}(a:-1000000000000<=j)(b:j<=1000000000000):Fd j:=⟨by omega,by omega⟩
def WH{i j:Int}(a:-1000000000000<=i)(b:i<=1000000000000)(c:-1000000000000<=j)(d:j<=1000000000000):P2 i j:=⟨⟨by omega,by omega⟩,by omega,by omega⟩
def IK{j:Int}(a:-1000000000000<=j)(b:j<=1000000):HJ j:=⟨by omega,by omega⟩
section
variable(K:PySem.W.Frag)
mutual
def RI(H:Hp):I->V->Prop
 |.non,v=>v=.non
 |.bl b,v=>v=.bl b
 |.int i,v=>v=.int i
 |.str x,v=>v=.str x
 |.tup ds,v=>∃a xs,v=.ref a/\SqT K H a xs/\RIs H ds xs
def RIs(H:Hp):List I->List V->Prop
 |[],xs=>xs=[]
 |d::ds,xs=>∃x r,xs=x::r/\RI H d x/\RIs H ds r
end
mutual
def RD(ρ:List Addr)(H:Hp):D->V->Prop
 |.im i,v=>RI K H i v
 |.mu n,v=>∃a,ρ[n]?=some a/\v=.ref a
 |.tm ds,v=>∃a xs,v=.ref a/\SqT K H a xs/\RDs ρ H ds xs
 |.ro ns,v=>∃a,v=.ref a/\RoL K H a (ns.map V.int)
def RDs(ρ:List Addr)(H:Hp):List D->List V->Prop
 |[],xs=>xs=[]
 |d::ds,xs=>∃x r,xs=x::r/\RD ρ H d x/\RDs ρ H ds r
end
def RKs(ρ:List Addr)(H:Hp):List (Key×D)->List (Key×V)->Prop
 |[],xs=>xs=[]
 |d::ds,xs=>∃x r,xs=x::r/\x.1=d.1/\RD K ρ H d.2 x.2/\RKs ρ H ds r
def RC(ρ:List Addr)(H:Hp):MO->HO->Prop
 |.lst ds,o=>∃xs,o=.lst xs/\RDs K ρ H ds xs
 |.dic kvs,o=>∃kv,o=.dK kv/\RKs K ρ H kvs kv
def LV:List Value->List (Addr×Str×Pos)
 |.ref P::.str q _::.int l _::.int c _::r=>(P,q,⟨l.toNat,c.toNat,0,0⟩)::LV r
 |_=>[]
def bq(o:Obj):List (Addr×Str×Pos):=match o.cls,o.data with
 |.str _ _,.fields vs=>LV vs.toList
 |_,_=>[]
def CS(K:PySem.W.Frag):List (Addr×Str×Pos):=match K.getLast? with
 |some p=>bq p.2
 |none=>[]
def TabsOk(K:PySem.W.Frag)(H:Hp):Prop:=∀x∈CS K,∃ps,H x.1=some (.tbl ps)/\DU H x.2.1 x.2.2 ps
structure RH(ρ:List Addr)(H:Hp)(hd:Hd):Prop where
 len:ρ.length=hd.length
 nd:ρ.Nodup
 tabs:TabsOk K H
 ob:∀(n:Nat) (o:MO) (a:Addr),hd[n]?=some o->ρ[n]?=some a->∃ho,H a=some ho/\RC K ρ H o ho
structure RL(ρ:List Addr)(H:Hp)(ls:Ls)(σ:St):Prop where
 len:ls.length=σ.length
 ob:∀(i:Nat) (d:D),ls[i]?=some (some d)->∃v,σ[i]?=some (some v)/\RD K ρ H d v
end
structure Ext(ρ:List Addr)(H:Hp)(ρ':List Addr)(H':Hp):Prop where
 pre:∃r,ρ'=ρ++r/\∀b∈r,H b=none
 keep:∀b o,H b=some o->b∉ρ->(∀ps,o≠.tbl ps)->H' b=some o
 tab:∀b ps,H b=some (.tbl ps)->∃ps',H' b=some (.tbl ps')
def nt{o:HO}(h:match o with|.tbl _=>False|_=>True:=by trivial):∀ps,o≠.tbl ps:=λps e=>by subst e;exact h
def TabsOk.upd{K:PySem.W.Frag}{H:Hp}(t:TabsOk K H){a:Addr}{ho:HO}(h1:∀ps,H a≠some (.tbl ps))(h2:∀φ,H a≠some (.ext φ)):TabsOk K (upd H a ho):=λx hx=>by
 obtain⟨ps,e,g⟩:=t x hx;have ne:x.1≠a:=λz=>h1 ps (by rw[<- z];exact e);refine⟨ps,by rw[upd_ne ne];exact e,?_⟩;rcases g with g|⟨c,g1,g2⟩
 .exact .inl g
 .have nc:c≠a:=λz=>h2 _ (by rw[<- z];exact g2);exact .inr ⟨c,g1,by rw[upd_ne nc];exact g2⟩
section
variable{K:PySem.W.Frag}{ρ ρ' ρ1 ρ2:List Addr}{H H' H1 H2:Hp}{hd hd' hd1:Hd}
mutual
def RI.grow(g:Grow H H'):∀{i:I} {v:V},RI K H i v->RI K H' i v
 |.non,v,h=>by simpa only[RI]using h
 |.bl b,v,h=>by simpa only[RI]using h
 |.int b,v,h=>by simpa only[RI]using h
 |.str b,v,h=>by simpa only[RI]using h
 |.tup ds,v,h=>by
  simp only[RI]at h ⊢;obtain⟨a,xs,e,q,r⟩:=h;exact⟨a,xs,e,g.sq q,RIs.grow g r⟩
def RIs.grow(g:Grow H H'):∀{i:List I} {v:List V},RIs K H i v->RIs K H' i v
 |[],v,h=>by simpa only[RIs]using h
 |d::ds,v,h=>by
  simp only[RIs]at h ⊢;obtain⟨x,r,e,q,z⟩:=h;exact⟨x,r,e,q.grow g,RIs.grow g z⟩
end
def RH.mut(h:RH K ρ H hd){a:Addr}(m:a∈ρ):(∃xs,H a=some (.lst xs))∨∃kv,H a=some (.dK kv):=by
 obtain⟨n,e⟩:=mem_iff_getElem?.mp m;have hn:n<hd.length:=by rw[<- h.len];exact(List.getElem?_eq_some_iff.mp e).1
 obtain⟨ho,e1,e2⟩:=h.ob n hd[n] a (by simp[hn]) e;cases q:hd[n]with
 |lst ds=>rw[q]at e2;obtain⟨xs,rfl,_⟩:=e2;exact .inl ⟨xs,e1⟩
 |dic ds=>rw[q]at e2;obtain⟨xs,rfl,_⟩:=e2;exact .inr ⟨xs,e1⟩
def RH.tup_out(h:RH K ρ H hd){a:Addr}{xs:List V}(e:H a=some (.tup xs)):a∉ρ:=λm=>by
 rcases h.mut m with⟨y,z⟩|⟨y,z⟩<;>(rw[e]at z;cases z)
def RH.frz_out(h:RH K ρ H hd){a:Addr}{o:Obj}{u:HO}(e:H a=some (.frz o u)):a∉ρ:=λm=>by
 rcases h.mut m with⟨y,z⟩|⟨y,z⟩<;>(rw[e]at z;cases z)
def Ext.grow(e:Ext ρ H ρ' H')(h:RH K ρ H hd):Grow H H':=⟨λb xs q=>e.keep b _ q (h.tup_out q) nt,λb o u q=>e.keep b _ q (h.frz_out q) nt⟩
def Ext.refl:Ext ρ H ρ H:=⟨⟨[],by simp,by simp⟩,λ_ _ h _ _=>h,λ_ ps h=>⟨ps,h⟩⟩
def Ext.trans(e:Ext ρ H ρ1 H1)(h0:RH K ρ1 H1 hd1)(e2:Ext ρ1 H1 ρ2 H2):Ext ρ H ρ2 H2:=by
 obtain⟨r1,rfl,f1⟩:=e.pre;obtain⟨r2,rfl,f2⟩:=e2.pre;refine⟨⟨r1++r2,by simp,λb m=>?_⟩,λb o q n t=>?_,λb ps q=>?_⟩
 .rcases mem_append.mp m with m|m
  .exact f1 b m
  .have z:=f2 b m;cases q:H b with
   |none=>rfl
   |some o=>
    by_cases n:b∈ρ
    .rcases h0.mut (mem_append_left r1 n)with⟨y,w⟩|⟨y,w⟩<;>(rw[z]at w;cases w)
    .by_cases t:∃ps,o=.tbl ps
     .obtain⟨ps,rfl⟩:=t;obtain⟨ps',this⟩:=e.tab b ps q;rw[z]at this;cases this
     .have:=e.keep b o q n λps y=>t ⟨ps,y⟩;rw[z]at this;cases this
 .refine e2.keep b o (e.keep b o q n t) (λm=>?_) t;rcases mem_append.mp m with m|m
  .exact n m
  .have:=f1 b m;rw[q]at this;cases this
 .obtain⟨ps',q'⟩:=e.tab b ps q;exact e2.tab b ps' q'
mutual
def RD.mono(g:Grow H H')(r:List Addr):∀{d:D} {v:V},RD K ρ H d v->RD K (ρ++r) H' d v
 |.im i,v,h=>by simp only[RD]at h ⊢;exact h.grow g
 |.mu n,v,h=>by
  simp only[RD]at h ⊢;obtain⟨a,e,q⟩:=h;exact⟨a,by rw[List.getElem?_append_left (List.getElem?_eq_some_iff.mp e).1];exact e,q⟩
 |.tm ds,v,h=>by
  simp only[RD]at h ⊢;obtain⟨a,xs,e,q,z⟩:=h;exact⟨a,xs,e,g.sq q,RDs.mono g r z⟩
 |.ro ns,v,h=>by
  simp only[RD]at h ⊢;obtain⟨a,e,q⟩:=h;exact⟨a,e,q.grow g⟩
def RDs.mono(g:Grow H H')(r:List Addr):∀{d:List D} {v:List V},RDs K ρ H d v->RDs K (ρ++r) H' d v
 |[],v,h=>by simpa only[RDs]using h
 |d::ds,v,h=>by
  simp only[RDs]at h ⊢;obtain⟨x,r',e,q,z⟩:=h;exact⟨x,r',e,q.mono g r,RDs.mono g r z⟩
end
def RKs.mono(g:Grow H H')(r:List Addr):∀{d:List (Key×D)} {v:List (Key×V)},RKs K ρ H d v->RKs K (ρ++r) H' d v
 |[],v,h=>by simpa only[RKs]using h
 |d::ds,v,h=>by
  simp only[RKs]at h ⊢;obtain⟨x,r',e,q1,q,z⟩:=h;exact⟨x,r',e,q1,q.mono g r,RKs.mono g r z⟩
def RC.mono(g:Grow H H')(r:List Addr){o:MO}{ho:HO}(h:RC K ρ H o ho):RC K (ρ++r) H' o ho:=by
 cases o with
 |lst ds=>obtain⟨xs,e,q⟩:=h;exact⟨xs,e,q.mono g r⟩
 |dic ds=>obtain⟨xs,e,q⟩:=h;exact⟨xs,e,q.mono g r⟩
def RD.ext(h:RH K ρ H hd)(e:Ext ρ H ρ' H'){d:D}{v:V}(q:RD K ρ H d v):RD K ρ' H' d v:=by
 obtain⟨r,rfl,_⟩:=e.pre;exact q.mono (e.grow h) r
def RDs.ext(h:RH K ρ H hd)(e:Ext ρ H ρ' H'){d:List D}{v:List V}(q:RDs K ρ H d v):RDs K ρ' H' d v:=by
 obtain⟨r,rfl,_⟩:=e.pre;exact q.mono (e.grow h) r
def RL.ext(h:RH K ρ H hd)(e:Ext ρ H ρ' H'){ls:Ls}{σ:St}(q:RL K ρ H ls σ):RL K ρ' H' ls σ:=
 ⟨q.len,λi d z=>let ⟨v,a,b⟩:=q.ob i d z;⟨v,a,b.ext h e⟩⟩
def RDs.len:∀{ds:List D} {xs:List V},RDs K ρ H ds xs->xs.length=ds.length
 |[],xs,h=>by simp only[RDs]at h;rw[h];rfl
 |d::ds,xs,h=>by
  simp only[RDs]at h;obtain⟨x,r,rfl,_,z⟩:=h;simp[RDs.len z]
def RDs.get:∀{ds:List D} {xs:List V} {i:Nat} {d:D},RDs K ρ H ds xs->ds[i]?=some d->∃x,xs[i]?=some x/\RD K ρ H d x
 |[],xs,i,d,h,e=>by simp at e
 |d::ds,xs,0,e,h,q=>by
  simp only[RDs]at h;obtain⟨x,r,rfl,z,_⟩:=h;simp at q;subst q;exact⟨x,rfl,z⟩
 |d::ds,xs,i+1,e,h,q=>by
  simp only[RDs]at h;obtain⟨x,r,rfl,_,z⟩:=h;obtain⟨y,a,b⟩:=RDs.get (i:=i) z (by simpa using q);exact⟨y,by simpa using a,b⟩
def RDs.nil:RDs K ρ H [] []:=by simp[RDs]
def RDs.cons{d:D}{v:V}{ds:List D}{vs:List V}(h:RD K ρ H d v)(t:RDs K ρ H ds vs):RDs K ρ H (d::ds) (v::vs):=by
 simp only[RDs];exact⟨v,vs,rfl,h,t⟩
def RDs.app:∀{ds es:List D} {xs ys:List V},RDs K ρ H ds xs->RDs K ρ H es ys->RDs K ρ H (ds++es) (xs++ys)
 |[],es,xs,ys,h,t=>by simp only[RDs]at h;subst h;simpa using t
 |d::ds,es,xs,ys,h,t=>by
  simp only[RDs]at h;obtain⟨x,r,rfl,z,q⟩:=h;simp only[cons_append];exact .cons z (q.app t)
def RDs.set:∀{ds:List D} {xs:List V} {d:D} {v:V} (i:Nat),RDs K ρ H ds xs->RD K ρ H d v->RDs K ρ H (ds.set i d) (xs.set i v)
 |[],xs,d,v,i,h,t=>by simp only[RDs]at h;subst h;simp[RDs]
 |d::ds,xs,e,v,0,h,t=>by
  simp only[RDs]at h;obtain⟨x,r,rfl,z,q⟩:=h;simpa using RDs.cons t q
 |d::ds,xs,e,v,i+1,h,t=>by
  simp only[RDs]at h;obtain⟨x,r,rfl,z,q⟩:=h;simpa using RDs.cons z (q.set i t)
def RDs.drop:∀{ds:List D} {xs:List V} (n:Nat),RDs K ρ H ds xs->RDs K ρ H (ds.drop n) (xs.drop n)
 |ds,xs,0,h=>by simpa using h
 |[],xs,n+1,h=>by simp only[RDs]at h;subst h;simp[RDs]
 |d::ds,xs,n+1,h=>by
  simp only[RDs]at h;obtain⟨x,r,rfl,z,q⟩:=h;simpa using q.drop n
def RDs.take:∀{ds:List D} {xs:List V} (n:Nat),RDs K ρ H ds xs->RDs K ρ H (ds.take n) (xs.take n)
 |ds,xs,0,h=>by simp[RDs]
 |[],xs,n+1,h=>by simp only[RDs]at h;subst h;simp[RDs]
 |d::ds,xs,n+1,h=>by
  simp only[RDs]at h;obtain⟨x,r,rfl,z,q⟩:=h;simpa using RDs.cons z (q.take n)
def RIs.ds:∀{is:List I} {xs:List V},RIs K H is xs->RDs K ρ H (is.map D.im) xs
 |[],xs,h=>by simpa only[RIs,RDs,map_nil]using h
 |i::is,xs,h=>by
  simp only[RIs]at h;obtain⟨x,r,rfl,z,q⟩:=h;exact .cons (by simpa only[RD]using z) q.ds
def RDs.is:∀{is:List I} {xs:List V},RDs K ρ H (is.map D.im) xs->RIs K H is xs
 |[],xs,h=>by simpa only[RIs,RDs,map_nil]using h
 |i::is,xs,h=>by
  simp only[map_cons,RDs]at h;obtain⟨x,r,rfl,z,q⟩:=h;simp only[RIs];exact⟨x,r,rfl,by simpa only[RD]using z,q.is⟩
def RH.new(h:RH K ρ H hd){a:Addr}(ha:H a=none){o:MO}{ho:HO}(c:RC K ρ H o ho):RH K (ρ++[a]) (upd H a ho) (hd++[o])/\Ext ρ H (ρ++[a]) (upd H a ho):=by
 have out:a∉ρ:=λm=>by rcases h.mut m with⟨y,z⟩|⟨y,z⟩<;>(rw[ha]at z;cases z)
 have ex:Ext ρ H (ρ++[a]) (upd H a ho):=⟨⟨[a],rfl,λb m=>by simp at m;subst m;exact ha⟩,λb o q n _=>by rw[upd_ne (AV q ha)];exact q,λb ps q=>⟨ps,by rw[upd_ne (AV q ha)];exact q⟩⟩
 refine⟨⟨by simp[h.len],?_,h.tabs.upd (by simp[ha]) (by simp[ha]),λn o' b e1 e2=>?_⟩,ex⟩
 .rw[nodup_append];refine⟨h.nd,by simp,λx hx y hy z=>?_⟩;simp at hy;subst hy;subst z;exact out hx
 .have gr:=ex.grow h;by_cases hn:n<ρ.length
  .rw[List.getElem?_append_left hn]at e2;rw[List.getElem?_append_left (by rw[<- h.len];exact hn)]at e1;obtain⟨ho',q1,q2⟩:=h.ob n o' b e1 e2;exact⟨ho',by rw[upd_ne (AV q1 ha)];exact q1,q2.mono gr [a]⟩
  .have hn':n=ρ.length:=by
    have:=(List.getElem?_eq_some_iff.mp e2).1;simp at this;omega
   subst hn';simp at e2;rw[h.len]at e1;simp at e1;subst e1;subst e2;exact⟨ho,AI,c.mono gr [a]⟩
def RH.put(h:RH K ρ H hd){n:Nat}{a:Addr}(hn:ρ[n]?=some a){o:MO}{ho:HO}(c:RC K ρ H o ho):RH K ρ (upd H a ho) (hd.set n o)/\Ext ρ H ρ (upd H a ho):=by
 have ha:=h.mut (mem_of_getElem? hn);have n1:∀ps,H a≠some (.tbl ps):=λps e=>by rcases ha with⟨y,z⟩|⟨y,z⟩<;>(rw[e]at z;cases z)
 have n2:∀φ,H a≠some (.ext φ):=λps e=>by rcases ha with⟨y,z⟩|⟨y,z⟩<;>(rw[e]at z;cases z)
 have ex:Ext ρ H ρ (upd H a ho):=⟨⟨[],by simp,by simp⟩,λb o q m _=>by
  have:b≠a:=λz=>m (by rw[z];exact mem_of_getElem? hn);rw[upd_ne this];exact q,λb ps q=>⟨ps,(upd_ne (show b≠a from λz=>n1 ps (by rw[<- z];exact q))).trans q⟩⟩
 have gr:=ex.grow h;refine⟨⟨by simp[h.len],h.nd,h.tabs.upd n1 n2,λm o' b e1 e2=>?_⟩,ex⟩;have hm:m<hd.length:=by rw[<- h.len];exact(List.getElem?_eq_some_iff.mp e2).1
 by_cases hmn:m=n
 .subst hmn;rw[hn]at e2;cases e2;rw[List.getElem?_set_self hm]at e1;cases e1;exact⟨ho,AI,by simpa using c.mono gr []⟩
 .rw[List.getElem?_set_ne (λz=>hmn z.symm)]at e1;obtain⟨ho',q1,q2⟩:=h.ob m o' b e1 e2;have:b≠a:=λz=>by
   subst z;have l1:=(List.getElem?_eq_some_iff.mp e2).1;have l2:=(List.getElem?_eq_some_iff.mp hn).1;exact hmn ((List.getElem?_inj l1 h.nd).mp (e2.trans hn.symm))
  exact⟨ho',by rw[upd_ne this];exact q1,by simpa using q2.mono gr []⟩
def RH.lst(h:RH K ρ H hd){n:Nat}{a:Addr}{ds:List D}(hn:ρ[n]?=some a)(e:hd[n]?=some (.lst ds)):∃xs,H a=some (.lst xs)/\RDs K ρ H ds xs:=by
 obtain⟨ho,q,xs,rfl,r⟩:=h.ob n _ a e hn;exact⟨xs,q,r⟩
def RH.dic(h:RH K ρ H hd){n:Nat}{a:Addr}{ds:List (Key×D)}(hn:ρ[n]?=some a)(e:hd[n]?=some (.dic ds)):∃xs,H a=some (.dK xs)/\RKs K ρ H ds xs:=by
 obtain⟨ho,q,xs,rfl,r⟩:=h.ob n _ a e hn;exact⟨xs,q,r⟩
def RH.hid(h:RH K ρ H hd){a:Addr}(ha:H a=none){ho:HO}:RH K ρ (upd H a ho) hd/\Ext ρ H ρ (upd H a ho):=by
 have out:a∉ρ:=λm=>by rcases h.mut m with⟨y,z⟩|⟨y,z⟩<;>(rw[ha]at z;cases z)
 have ex:Ext ρ H ρ (upd H a ho):=⟨⟨[],by simp,by simp⟩,λb o q n _=>by rw[upd_ne (AV q ha)];exact q,λb ps q=>⟨ps,by rw[upd_ne (AV q ha)];exact q⟩⟩
 have gr:=ex.grow h;refine⟨⟨h.len,h.nd,h.tabs.upd (by simp[ha]) (by simp[ha]),λm o' b e1 e2=>?_⟩,ex⟩;obtain⟨ho',q1,q2⟩:=h.ob m o' b e1 e2;exact⟨ho',by rw[upd_ne (AV q1 ha)];exact q1,by simpa using q2.mono gr []⟩
def RH.hput(h:RH K ρ H hd){a:Addr}(out:a∉ρ){xs:List V}{ho:HO}(hl:H a=some (.lst xs)):RH K ρ (upd H a ho) hd:=by
 have gr:Grow H (upd H a ho):=Grow.refl.put (.lst hl);refine⟨h.len,h.nd,h.tabs.upd (by simp[hl]) (by simp[hl]),λm o' b e1 e2=>?_⟩;obtain⟨ho',q1,q2⟩:=h.ob m o' b e1 e2;have:b≠a:=λz=>out (by rw[<- z];exact mem_of_getElem? e2);exact⟨ho',by rw[upd_ne this];exact q1,by simpa using q2.mono gr []⟩
end
end L2
namespace L2
open PySem PySem.Spec PyProof.Rows
abbrev ME:=Ls->Hd->Option (D×Hd)
abbrev MT:=Ls->Hd->Option (Bool×Hd)
abbrev MA:=Ls->Hd->Option (List D×Hd)
inductive Fl where
 |nx (ls:Ls)|rt (d:D)|bk (ls:Ls)|ct (ls:Ls)
abbrev MS:=Ls->Hd->Option (Fl×Hd)
section
variable(K:PySem.W.Frag)
def RE(t:TE)(m:ME):Prop:=∀(ρ:List Addr) (σ:St) (H:Hp) (hd:Hd) (ls:Ls) (Q:VK) (d:D) (hd':Hd),RH K ρ H hd->RL K ρ H ls σ->m ls hd=some (d,hd') ->
 (∀ρ' H' v,Ext ρ H ρ' H'->RH K ρ' H' hd'->RD K ρ' H' d v->Q v H')->t σ H Q
def RT(t:TT)(m:MT):Prop:=∀(ρ:List Addr) (σ:St) (H:Hp) (hd:Hd) (ls:Ls) (Q:Bool->Hp->Prop) (d:Bool) (hd':Hd),RH K ρ H hd->RL K ρ H ls σ->m ls hd=some (d,hd') ->
 (∀ρ' H',Ext ρ H ρ' H'->RH K ρ' H' hd'->Q d H')->t σ H Q
def RA(t:TA)(m:MA):Prop:=∀(ρ:List Addr) (σ:St) (H:Hp) (hd:Hd) (ls:Ls) (Q:List V->Hp->Prop) (d:List D) (hd':Hd),RH K ρ H hd->RL K ρ H ls σ->m ls hd=some (d,hd') ->
 (∀ρ' H' v,Ext ρ H ρ' H'->RH K ρ' H' hd'->RDs K ρ' H' d v->Q v H')->t σ H Q
def RN(t:TE)(m:MA):Prop:=∀(ρ:List Addr) (σ:St) (H:Hp) (hd:Hd) (ls:Ls) (Q:VK) (d:List D) (hd':Hd),RH K ρ H hd->RL K ρ H ls σ->m ls hd=some (d,hd') ->
 (∀ρ' H' a xs,Ext ρ H ρ' H'->RH K ρ' H' hd'->H a=none->a∉ρ'->H' a=some (.lst xs)->RDs K ρ' H' d xs->Q (.ref a) H')->t σ H Q
def d7(E:Ends)(ρ:List Addr)(H:Hp):Fl->Prop
 |.nx ls=>∀σ,RL K ρ H ls σ->E.nx σ H
 |.bk ls=>∀σ,RL K ρ H ls σ->E.bk σ H
 |.ct ls=>∀σ,RL K ρ H ls σ->E.ct σ H
 |.rt d=>∀v,RD K ρ H d v->E.rt v H
def RS(t:TS)(m:MS):Prop:=∀(ρ:List Addr) (σ:St) (H:Hp) (hd:Hd) (ls:Ls) (E:Ends) (f:Fl) (hd':Hd),RH K ρ H hd->RL K ρ H ls σ->m ls hd=some (f,hd') ->
 (∀ρ' H',Ext ρ H ρ' H'->RH K ρ' H' hd'->d7 K E ρ' H' f)->t E σ H
def RB(r:R2)(f:D->D->Hd->Option (D×Hd)):Prop:=∀(ρ:List Addr) (H:Hp) (hd:Hd) (d e:D) (v u:V) (Q:VK) (z:D) (hd':Hd),RH K ρ H hd->RD K ρ H d v->RD K ρ H e u->f d e hd=some (z,hd') ->
 (∀ρ' H' w,Ext ρ H ρ' H'->RH K ρ' H' hd'->RD K ρ' H' z w->Q w H')->r v u H Q
def RF(r:List V->Hp->VK->Prop)(f:List D->Hd->Option (D×Hd)):Prop:=∀(ρ:List Addr) (H:Hp) (hd:Hd) (ds:List D) (vs:List V) (Q:VK) (z:D) (hd':Hd),RH K ρ H hd->RDs K ρ H ds vs->f ds hd=some (z,hd') ->
 (∀ρ' H' w,Ext ρ H ρ' H'->RH K ρ' H' hd'->RD K ρ' H' z w->Q w H')->r vs H Q
def RG(tp:Bool)(r:List V->Hp->VK->Prop)(g:List D->Option D):Prop:=∀(ρ:List Addr) (H:Hp) (hd:Hd) (a:Addr) (xs:List V) (ds:List D) (Q:VK) (z:D),RH K ρ H hd->(SqL K H a xs∨(tp=true/\SqT K H a xs))->RDs K ρ H ds xs->g ds=some z ->
 (∀H' w,Ext ρ H ρ H'->RH K ρ H' hd->RD K ρ H' z w->Q w H')->r [.ref a] H Q
end
structure QE(K:PySem.W.Frag)(X:Cx)(e:Expr)(t:TE)(m:ME):Prop where
 p:PE X e t
 r:RE K t m
structure QT(K:PySem.W.Frag)(X:Cx)(e:Expr)(t:TT)(m:MT):Prop where
 p:PT X e t
 r:RT K t m
structure QW(K:PySem.W.Frag)(X:Cx)(e:Expr)(t:TT)(m:MT):Prop where
 p:PW X e t
 r:RT K t m
structure QA(K:PySem.W.Frag)(X:Cx)(e:List Expr)(t:TA)(m:MA):Prop where
 p:PA X e t
 r:RA K t m
structure QN(K:PySem.W.Frag)(X:Cx)(e:Expr)(t:TE)(m:MA):Prop where
 p:PE X e t
 r:RN K t m
structure QS(K:PySem.W.Frag)(X:Cx)(e:Stmt)(t:TS)(m:MS):Prop where
 p:PS X e t
 r:RS K t m
structure QSs(K:PySem.W.Frag)(X:Cx)(e:List Stmt)(t:TS)(m:MS):Prop where
 p:PSs X e t
 r:RS K t m
def AX:D->Option (List D)
 |.im (.tup is)=>some (is.map .im)
 |.tm ds=>some ds
 |_=>none
def Ar(hd:Hd):D->Option (List D)
 |.mu n=>match hd[n]? with
  |some (.lst ds)=>some ds
  |_=>none
 |.ro ns=>some (ns.map λn=>.im (.int n))
 |_=>none
def Ad(hd:Hd)(d:D):Option (List D):=match AX d with
 |some ds=>some ds
 |none=>Ar hd d
def BL:List D->Option (List I)
 |[]=>some []
 |.im i::r=>(BL r).map (i::·)
 |_::_=>none
def B4(ds:List D):D:=match BL ds with
 |some is=>.im (.tup is)
 |none=>.tm ds
def Ax:List D->Option (List Int)
 |[]=>some []
 |.im (.int i)::r=>(Ax r).map (i::·)
 |_::_=>none
def Ca:List D->Option (List Bool)
 |[]=>some []
 |.im (.bl i)::r=>(Ca r).map (i::·)
 |_::_=>none
section
variable{K:PySem.W.Frag}{ρ ρ':List Addr}{H H':Hp}{hd hd':Hd}
def GD:∀{ds:List D} {is:List I},BL ds=some is->ds=is.map .im
 |[],is,h=>by simp[BL]at h;subst h;rfl
 |.im i::r,is,h=>by
  simp only[BL,Option.map_eq_some_iff]at h;obtain⟨js,e,rfl⟩:=h;simp[GD e]
 |.mu _::_,is,h=>by simp[BL]at h
 |.tm _::_,is,h=>by simp[BL]at h
 |.ro _::_,is,h=>by simp[BL]at h
def C5:∀{ds:List D} {is:List Int},Ax ds=some is->ds=is.map λi=>.im (.int i)
 |[],is,h=>by simp[Ax]at h;subst h;rfl
 |.im (.int i)::r,is,h=>by
  simp only[Ax,Option.map_eq_some_iff]at h;obtain⟨js,e,rfl⟩:=h;simp[C5 e]
 |.im (.bl _)::_,is,h=>by simp[Ax]at h
 |.im (.str _)::_,is,h=>by simp[Ax]at h
 |.im .non::_,is,h=>by simp[Ax]at h
 |.im (.tup _)::_,is,h=>by simp[Ax]at h
 |.mu _::_,is,h=>by simp[Ax]at h
 |.tm _::_,is,h=>by simp[Ax]at h
 |.ro _::_,is,h=>by simp[Ax]at h
def OY:∀{ds:List D} {is:List Bool},Ca ds=some is->ds=is.map λi=>.im (.bl i)
 |[],is,h=>by simp[Ca]at h;subst h;rfl
 |.im (.bl i)::r,is,h=>by
  simp only[Ca,Option.map_eq_some_iff]at h;obtain⟨js,e,rfl⟩:=h;simp[OY e]
 |.im (.int _)::_,is,h=>by simp[Ca]at h
 |.im (.str _)::_,is,h=>by simp[Ca]at h
 |.im .non::_,is,h=>by simp[Ca]at h
 |.im (.tup _)::_,is,h=>by simp[Ca]at h
 |.mu _::_,is,h=>by simp[Ca]at h
 |.tm _::_,is,h=>by simp[Ca]at h
 |.ro _::_,is,h=>by simp[Ca]at h
@[simp] theorem allIm_map(is:List I):BL (is.map .im)=some is:=by induction is<;>simp_all [BL]
@[simp] theorem S0(is:List Int):Ax (is.map λi=>.im (.int i))=some is:=by induction is<;>simp_all [Ax]
@[simp] theorem V0(is:List Bool):Ca (is.map λi=>.im (.bl i))=some is:=by induction is<;>simp_all [Ca]
def EG:∀{ns:List Int} {xs:List V},RDs K ρ H (ns.map λi=>.im (.int i)) xs->xs=ns.map V.int
 |[],xs,h=>by simpa [RDs]using h
 |n::ns,xs,h=>by
  simp only[map_cons,RDs,RD,RI]at h;obtain⟨x,r,rfl,rfl,z⟩:=h;rw[EG z];rfl
def Dd:∀{ns:List Int},RDs K ρ H (ns.map λi=>.im (.int i)) (ns.map V.int)
 |[]=>by simp[RDs]
 |n::ns=>by simp only[map_cons];exact .cons (by simp[RD,RI]) Dd
def Qx:∀{ns:List Bool} {xs:List V},RDs K ρ H (ns.map λi=>.im (.bl i)) xs->xs=ns.map V.bl
 |[],xs,h=>by simpa [RDs]using h
 |n::ns,xs,h=>by
  simp only[map_cons,RDs,RD,RI]at h;obtain⟨x,r,rfl,rfl,z⟩:=h;rw[Qx z];rfl
def RD.tup{d:D}{v:V}{ds:List D}(h:RD K ρ H d v)(e:AX d=some ds):∃a xs,v=.ref a/\SqT K H a xs/\RDs K ρ H ds xs:=by
 cases d with
 |im i=>
  cases i with
  |tup is=>
   simp only[AX,Option.some.injEq]at e;subst e;simp only[RD,RI]at h;obtain⟨a,xs,rfl,q,r⟩:=h;exact⟨a,xs,rfl,q,r.ds⟩
  |_=>simp[AX]at e
 |tm es=>
  simp only[AX,Option.some.injEq]at e;subst e;simpa only[RD]using h
 |_=>simp[AX]at e
def RD.lst{d:D}{v:V}{ds:List D}(hR:RH K ρ H hd)(h:RD K ρ H d v)(e:Ar hd d=some ds):∃a xs,v=.ref a/\SqL K H a xs/\RDs K ρ H ds xs:=by
 cases d with
 |mu n=>
  simp only[Ar]at e;simp only[RD]at h;obtain⟨a,hn,rfl⟩:=h;split at e
  .next q=>
   cases e;obtain⟨xs,e1,e2⟩:=hR.lst hn q;exact⟨a,xs,rfl,SqL.of e1,e2⟩
  .cases e
 |ro ns=>
  simp only[Ar,Option.some.injEq]at e;subst e;simp only[RD]at h;obtain⟨a,rfl,q⟩:=h;exact⟨a,_,rfl,q.sq,Dd⟩
 |_=>simp[Ar]at e
def RD.seq{d:D}{v:V}{ds:List D}(hR:RH K ρ H hd)(h:RD K ρ H d v)(e:Ad hd d=some ds):∃a xs,v=.ref a/\(SqL K H a xs∨SqT K H a xs)/\RDs K ρ H ds xs:=by
 unfold Ad at e;split at e
 .next q=>
  cases e;obtain⟨a,xs,e1,e2,e3⟩:=h.tup q;exact⟨a,xs,e1,.inr e2,e3⟩
 .obtain⟨a,xs,e1,e2,e3⟩:=h.lst hR e;exact⟨a,xs,e1,.inl e2,e3⟩
def CU{ds:List D}{a:Addr}{xs:List V}(q:SqT K H a xs)(r:RDs K ρ H ds xs):RD K ρ H (B4 ds) (.ref a):=by
 unfold B4;split
 .next e=>
  rw[GD e]at r;simp only[RD,RI];exact⟨a,xs,rfl,q,r.is⟩
 .simp only[RD];exact⟨a,xs,rfl,q,r⟩
def A0(i:Nat):ME:=λls hd=>match ls[i]? with
 |some (some d)=>some (d,hd)
 |_=>none
def Z4{i:Nat}:RE K (Ss i) (A0 i):=by
 and_intros;unfold A0 at hm;split at hm
 .next e=>
  cases hm;obtain⟨v,e1,e2⟩:=hL.ob i _ e;exact⟨v,e1,hQ ρ H v .refl hR e2⟩
 .cases hm
def mC(i:I):ME:=λ_ hd=>some (.im i,hd)
def P7{v:V}{i:I}(h:∀H,RI K H i v):RE K (tC v) (mC i):=by
 and_intros;cases hm;exact hQ ρ H v .refl hR (by simpa only[RD]using h H)
def mOp(f:D->D->Hd->Option (D×Hd))(ma mb:ME):ME:=λls hd=>(ma ls hd).bind λp=>(mb ls p.2).bind λq=>f p.1 q.1 q.2
def LY{r:R2}{f:D->D->Hd->Option (D×Hd)}{ta tb:TE}{ma mb:ME}(hr:RB K r f)(ha:RE K ta ma)(hb:RE K tb mb):RE K (tOp r ta tb) (mOp f ma mb):=by
 and_intros;obtain⟨⟨d1,h1⟩,e1,hm⟩:=fW hm;obtain⟨⟨d2,h2⟩,e2,hm⟩:=fW hm;refine ha ρ σ H hd ls _ d1 h1 hR hL e1 λρ1 H1 v1 x1 R1 r1=>?_;refine hb ρ1 σ H1 h1 ls _ d2 h2 R1 (hL.ext hR x1) e2 λρ2 H2 v2 x2 R2 r2=>?_;exact hr ρ2 H2 h2 d1 d2 v1 v2 Q d hd' R2 (r1.ext R1 x2) r2 hm λρ' H' w x3 R3 r3=>hQ ρ' H' w ((x1.trans R1 x2).trans R2 x3) R3 r3
def D3(ta tb:MT):MT:=λls hd=>(ta ls hd).bind λp=>if p.1=true then tb ls p.2 else some (false,p.2)
def mOr(ta tb:MT):MT:=λls hd=>(ta ls hd).bind λp=>if p.1=true then some (true,p.2)else tb ls p.2
def Gf(ta:MT):MT:=λls hd=>(ta ls hd).bind λp=>some (!p.1,p.2)
def Yo{ta tb:TT}{ma mb:MT}(ha:RT K ta ma)(hb:RT K tb mb):RT K (T7 ta tb) (D3 ma mb):=by
 and_intros;obtain⟨⟨d1,h1⟩,e1,hm⟩:=fW hm;refine ha ρ σ H hd ls _ d1 h1 hR hL e1 λρ1 H1 x1 R1=>?_;cases d1 with
 |true=>
  rw[if_pos rfl]at hm ⊢;exact hb ρ1 σ H1 h1 ls Q d hd' R1 (hL.ext hR x1) hm λρ2 H2 x2 R2=>hQ ρ2 H2 (x1.trans R1 x2) R2
 |false=>
  rw[if_neg Bool.false_ne_true]at hm ⊢;cases hm;exact hQ ρ1 H1 x1 R1
def bt{ta tb:TT}{ma mb:MT}(ha:RT K ta ma)(hb:RT K tb mb):RT K (tOr ta tb) (mOr ma mb):=by
 and_intros;obtain⟨⟨d1,h1⟩,e1,hm⟩:=fW hm;refine ha ρ σ H hd ls _ d1 h1 hR hL e1 λρ1 H1 x1 R1=>?_;cases d1 with
 |true=>
  rw[if_pos rfl]at hm ⊢;cases hm;exact hQ ρ1 H1 x1 R1
 |false=>
  rw[if_neg Bool.false_ne_true]at hm ⊢;exact hb ρ1 σ H1 h1 ls Q d hd' R1 (hL.ext hR x1) hm λρ2 H2 x2 R2=>hQ ρ2 H2 (x1.trans R1 x2) R2
def Yn{ta:TT}{ma:MT}(ha:RT K ta ma):RT K (Sy ta) (Gf ma):=by
 and_intros;obtain⟨⟨d1,h1⟩,e1,hm⟩:=fW hm;cases hm;exact ha ρ σ H hd ls _ d1 h1 hR hL e1 λρ1 H1 x1 R1=>hQ ρ1 H1 x1 R1
open Classical in
def Cz(hd:Hd):D->Option Bool
 |.im .non=>some false
 |.im (.bl b)=>some b
 |.im (.int i)=>some (i != 0)
 |.im (.str x)=>if BT x.length then some ((x.length:Int) != 0)else none
 |.im (.tup is)=>some (!is.isEmpty)
 |.tm is=>some (!is.isEmpty)
 |.ro ns=>some (!ns.isEmpty)
 |.mu n=>match hd[n]? with
  |some (.lst ds)=>some (!ds.isEmpty)
  |some (.dic ds)=>some (!ds.isEmpty)
  |none=>none
def Ct{α β:Type}{xs:List α}{ys:List β}(h:xs.length=ys.length):xs.isEmpty=ys.isEmpty:=by
 cases xs<;>cases ys<;>simp_all
def RKs.len:∀{ds:List (Key×D)} {xs:List (Key×V)},RKs K ρ H ds xs->xs.length=ds.length
 |[],xs,h=>by simp only[RKs]at h;rw[h];rfl
 |d::ds,xs,h=>by
  simp only[RKs]at h;obtain⟨x,r,rfl,_,_,z⟩:=h;simp[RKs.len z]
def Vt{d:D}{v:V}{b:Bool}(hR:RH K ρ H hd)(h:RD K ρ H d v)(e:Cz hd d=some b):NS K v H b:=by
 cases d with
 |im i=>
  cases i with
  |non=>simp only[RD,RI]at h;subst h;simp only[Cz,Option.some.injEq]at e;subst e;exact rfl
  |bl c=>simp only[RD,RI]at h;subst h;simp only[Cz,Option.some.injEq]at e;subst e;exact rfl
  |int c=>simp only[RD,RI]at h;subst h;simp only[Cz,Option.some.injEq]at e;subst e;exact rfl
  |str c=>
   simp only[RD,RI]at h;subst h;simp only[Cz]at e;split at e
   .next z=>cases e;exact⟨z,rfl⟩
   .cases e
  |tup is=>
   obtain⟨a,xs,rfl,q,r⟩:=h.tup (ds:=is.map .im) rfl;simp only[Cz,Option.some.injEq]at e;subst e;exact .inr (.inl ⟨xs,q,by rw[Ct (show xs.length=is.length by simpa using r.len)]⟩)
 |tm ds=>
  obtain⟨a,xs,rfl,q,r⟩:=h.tup (ds:=ds) rfl;simp only[Cz,Option.some.injEq]at e;subst e;exact .inr (.inl ⟨xs,q,by rw[Ct r.len]⟩)
 |ro ns=>
  obtain⟨a,xs,rfl,q,r⟩:=h.lst hR (hd:=hd) (ds:=ns.map λn=>.im (.int n)) rfl;simp only[Cz,Option.some.injEq]at e;subst e;exact .inl ⟨xs,q,by rw[Ct (show xs.length=ns.length by simpa using r.len)]⟩
 |mu n=>
  simp only[RD]at h;obtain⟨a,hn,rfl⟩:=h;simp only[Cz]at e;split at e
  .next q=>
   cases e;obtain⟨xs,e1,e2⟩:=hR.lst hn q;exact .inl ⟨xs,SqL.of e1,by rw[Ct e2.len]⟩
  .next q=>
   cases e;obtain⟨xs,e1,e2⟩:=hR.dic hn q;exact .inr (.inr ⟨xs,e1,by rw[Ct e2.len]⟩)
  .cases e
def E3(ma:ME):MT:=λls hd=>(ma ls hd).bind λp=>(Cz p.2 p.1).map (·,p.2)
def TL{ta:TE}{ma:ME}(ha:RE K ta ma):RT K (λσ H Q=>ta σ H λx H'=>∃k,NS K x H' k/\Q k H') (E3 ma):=by
 and_intros;obtain⟨⟨d1,h1⟩,e1,hm⟩:=fW hm;obtain⟨b,e2,e3⟩:=fX hm;cases e3;exact ha ρ σ H hd ls _ d1 h1 hR hL e1 λρ1 H1 v x1 R1 r1=>⟨_,Vt R1 r1 e2,hQ ρ1 H1 x1 R1⟩
def A6(ma:ME):MT:=λls hd=>(ma ls hd).bind λp=>match p.1 with
 |.im (.bl b)=>some (b,p.2)
 |_=>none
def D7{ta:TE}{ma:ME}(ha:RE K ta ma):RT K (Ei ta) (A6 ma):=by
 and_intros;obtain⟨⟨d1,h1⟩,e1,hm⟩:=fW hm;dsimp only at hm;split at hm
 .cases hm;exact ha ρ σ H hd ls _ _ _ hR hL e1 λρ1 H1 v x1 R1 r1=>⟨_,by simpa only[RD,RI]using r1,hQ ρ1 H1 x1 R1⟩
 .cases hm
def TN{ta:TE}{ma:ME}(ha:RE K ta ma):RT K (tB ta) (A6 ma):=D7 ha
def mIf(c:MT)(ma mb:ME):ME:=λls hd=>(c ls hd).bind λp=>if p.1=true then ma ls p.2 else mb ls p.2
def c5{tc:TT}{c:MT}{ta tb:TE}{ma mb:ME}(hc:RT K tc c)(ha:RE K ta ma)(hb:RE K tb mb):RE K (tIf tc ta tb) (mIf c ma mb):=by
 and_intros;obtain⟨⟨d1,h1⟩,e1,hm⟩:=fW hm;refine hc ρ σ H hd ls _ d1 h1 hR hL e1 λρ1 H1 x1 R1=>?_;cases d1 with
 |true=>
  rw[if_pos rfl]at hm ⊢;exact ha ρ1 σ H1 h1 ls Q d hd' R1 (hL.ext hR x1) hm λρ2 H2 v x2 R2 r2=>hQ ρ2 H2 v (x1.trans R1 x2) R2 r2
 |false=>
  rw[if_neg Bool.false_ne_true]at hm ⊢;exact hb ρ1 σ H1 h1 ls Q d hd' R1 (hL.ext hR x1) hm λρ2 H2 v x2 R2 r2=>hQ ρ2 H2 v (x1.trans R1 x2) R2 r2
def Fs(ma mb:ME):ME:=λls hd=>(A6 ma ls hd).bind λp=>if p.1=true then mb ls p.2 else some (.im (.bl false),p.2)
def dM(ma mb:ME):ME:=λls hd=>(A6 ma ls hd).bind λp=>if p.1=true then some (.im (.bl true),p.2)else mb ls p.2
def HN(ma:ME):ME:=λls hd=>(A6 ma ls hd).bind λp=>some (.im (.bl (!p.1)),p.2)
def Wh{ta tb:TE}{ma mb:ME}(ha:RE K ta ma)(hb:RE K tb mb):RE K (Oq ta tb) (Fs ma mb):=by
 and_intros;obtain⟨⟨d1,h1⟩,e1,hm⟩:=fW hm;refine D7 ha ρ σ H hd ls (λc H1=>if c=true then tb σ H1 Q else Q (.bl false) H1) d1 h1 hR hL e1 λρ1 H1 x1 R1=>?_;cases d1 with
 |true=>
  rw[if_pos rfl]at hm ⊢;exact hb ρ1 σ H1 h1 ls Q d hd' R1 (hL.ext hR x1) hm λρ2 H2 v x2 R2 r2=>hQ ρ2 H2 v (x1.trans R1 x2) R2 r2
 |false=>
  rw[if_neg Bool.false_ne_true]at hm ⊢;cases hm;exact hQ ρ1 H1 _ x1 R1 (by simp[RD,RI])
def WW{ta:TE}{ma:ME}(ha:RE K ta ma):RE K (On ta) (HN ma):=by
 and_intros;obtain⟨⟨d1,h1⟩,e1,hm⟩:=fW hm;cases hm;exact D7 ha ρ σ H hd ls (λc H1=>Q (.bl (!c)) H1) d1 h1 hR hL e1 λρ1 H1 x1 R1=>hQ ρ1 H1 _ x1 R1 (by simp[RD,RI])
def A4:MA:=λ_ hd=>some ([],hd)
def A1(ma:ME)(mr:MA):MA:=λls hd=>(ma ls hd).bind λp=>(mr ls p.2).bind λq=>some (p.1::q.1,q.2)
def Md:RA K BR A4:=by
 and_intros;cases hm;exact hQ ρ H [] .refl hR .nil
def Wk{ta:TE}{tr:TA}{ma:ME}{mr:MA}(ha:RE K ta ma)(hr:RA K tr mr):RA K (BH ta tr) (A1 ma mr):=by
 and_intros;obtain⟨⟨d1,h1⟩,e1,hm⟩:=fW hm;obtain⟨⟨d2,h2⟩,e2,hm⟩:=fW hm;cases hm;refine ha ρ σ H hd ls _ d1 h1 hR hL e1 λρ1 H1 v1 x1 R1 r1=>?_;exact hr ρ1 σ H1 h1 ls _ d2 _ R1 (hL.ext hR x1) e2 λρ2 H2 v2 x2 R2 r2=>hQ ρ2 H2 _ (x1.trans R1 x2) R2 (.cons (r1.ext R1 x2) r2)
open Classical in
def BC(ma:MA):ME:=λls hd=>(ma ls hd).bind λp=>if BT p.1.length then some (B4 p.1,p.2)else none
def Z5{t:TA}{m:MA}(h:RA K t m):RE K (Su t) (BC m):=by
 and_intros;obtain⟨⟨d1,h1⟩,e1,hm⟩:=fW hm;dsimp only at hm;split at hm
 .next z=>
  cases hm;refine h ρ σ H hd ls _ d1 _ hR hL e1 λρ1 H1 v1 x1 R1 r1=>⟨by rw[r1.len];exact z,λp hp=>?_⟩
  obtain⟨R2,x2⟩:=R1.hid (ho:=.tup v1) hp;exact hQ ρ1 _ _ (x1.trans R1 x2) R2 (CU (SqT.of AI) (r1.ext R1 x2))
 .cases hm
open Classical in
def Aj(ma:MA):MA:=λls hd=>(ma ls hd).bind λp=>if BT p.1.length then some (p.1,p.2)else none
def RH.out(hR:RH K ρ H hd){a:Addr}(h:H a=none):a∉ρ:=λm=>by rcases hR.mut m with⟨y,z⟩|⟨y,z⟩<;>(rw[h]at z;cases z)
def Ext.none(e:Ext ρ H ρ' H')(hR:RH K ρ H hd){a:Addr}(h:H' a=none)(hR':RH K ρ' H' hd'):H a=none:=by
 cases q:H a with
 |none=>rfl
 |some o=>
  by_cases m:a∈ρ
  .obtain⟨r,rfl,_⟩:=e.pre;exact absurd (mem_append_left r m) (hR'.out h)
  .by_cases t:∃ps,o=.tbl ps
   .obtain⟨ps,rfl⟩:=t;obtain⟨ps',this⟩:=e.tab a ps q;rw[h]at this;cases this
   .rw[e.keep a o q m λps y=>t ⟨ps,y⟩]at h;cases h
def Yu{t:TA}{m:MA}(h:RA K t m):RN K (Sz t) (Aj m):=by
 and_intros;obtain⟨⟨d1,h1⟩,e1,hm⟩:=fW hm;dsimp only at hm;split at hm
 .next z=>
  cases hm;refine h ρ σ H hd ls _ _ _ hR hL e1 λρ1 H1 v1 x1 R1 r1=>⟨by rw[r1.len];exact z,λp hp=>?_⟩
  obtain⟨R2,x2⟩:=R1.hid (ho:=.lst v1) hp;exact hQ ρ1 _ p v1 (x1.trans R1 x2) R2 (x1.none hR hp R1) (R1.out hp) AI (r1.ext R1 x2)
 .cases hm
def Aa(ml:MA):ME:=λls hd=>(ml ls hd).bind λp=>some (.mu p.2.length,p.2++[.lst p.1])
def RH.name(hR:RH K ρ H hd){a:Addr}{xs:List V}{ds:List D}(out:a∉ρ)(e:H a=some (.lst xs))(r:RDs K ρ H ds xs):RH K (ρ++[a]) H (hd++[.lst ds]):=by
 have mono:∀{o:MO} {ho:HO},RC K ρ H o ho->RC K (ρ++[a]) H o ho:=λc=>c.mono Grow.refl [a];refine⟨by simp[hR.len],?_,hR.tabs,λn o' b e1 e2=>?_⟩
 .rw[nodup_append];refine⟨hR.nd,by simp,λx hx y hy z=>?_⟩;simp at hy;subst hy;subst z;exact out hx
 .by_cases hn:n<ρ.length
  .rw[List.getElem?_append_left hn]at e2;rw[List.getElem?_append_left (by rw[<- hR.len];exact hn)]at e1;obtain⟨ho',q1,q2⟩:=hR.ob n o' b e1 e2;exact⟨ho',q1,mono q2⟩
  .have hn':n=ρ.length:=by
    have:=(List.getElem?_eq_some_iff.mp e2).1;simp at this;omega
   subst hn';simp at e2;rw[hR.len]at e1;simp at e1;subst e1;subst e2;exact⟨_,e,mono ⟨xs,rfl,r⟩⟩
def Ext.name(e:Ext ρ H ρ' H'){a:Addr}(h:H a=Option.none):Ext ρ H (ρ'++[a]) H':=by
 obtain⟨r,rfl,f⟩:=e.pre;refine⟨⟨r++[a],by simp,λb m=>?_⟩,e.keep,e.tab⟩;rcases mem_append.mp m with m|m
 .exact f b m
 .simp at m;subst m;exact h
def Qv{t:TE}{m:MA}(h:RN K t m):RE K t (Aa m):=by
 and_intros;obtain⟨⟨d1,h1⟩,e1,hm⟩:=fW hm;cases hm;refine h ρ σ H hd ls Q d1 h1 hR hL e1 λρ1 H1 a xs x1 R1 na oa ea r1=>?_;refine hQ (ρ1++[a]) H1 _ (x1.name na) (R1.name oa ea r1) ?_;simp only[RD];exact⟨a,by rw[<- R1.len];simp,rfl⟩
end
section
variable{K:PySem.W.Frag}{ρ ρ':List Addr}{H H':Hp}{hd hd':Hd}
def fI(g:Int->Int->Option I):D->D->Hd->Option (D×Hd)
 |.im (.int i),.im (.int j),hd=>(g i j).map (.im ·,hd)
 |_,_,_=>none
def K5{C:Int->Int->Prop}{g:Int->Int->V}{f:Int->Int->Option I}(h:∀i j z,f i j=some z->C i j/\∀H,RI K H z (g i j)):RB K (rI C g) (fI f):=by
 intro ρ H hd d e v u Q z hd' hR h1 h2 hf hQ;unfold fI at hf;split at hf
 .simp only[RD,RI]at h1 h2;subst h1 h2;obtain⟨w,e1,e2⟩:=fX hf;cases e2;obtain⟨c,r⟩:=h _ _ _ e1;exact⟨_,_,rfl,rfl,c,hQ ρ H _ .refl hR (by simpa only[RD]using r H)⟩
 .cases hf
def Fg{g:Int->Int->V}{f:Int->Int->I}(h:∀i j H,RI K H (f i j) (g i j)):RB K (rI0 g) (fI λi j=>some (f i j)):=by
 intro ρ H hd d e v u Q z hd' hR h1 h2 hf hQ;unfold fI at hf;split at hf
 .simp only[RD,RI]at h1 h2;subst h1 h2;cases hf;exact⟨_,_,rfl,rfl,hQ ρ H _ .refl hR (by simpa only[RD]using h _ _ H)⟩
 .cases hf
def Eu(f g:D->D->Hd->Option (D×Hd)):D->D->Hd->Option (D×Hd):=λd e hd=>match f d e hd with
 |some z=>some z
 |none=>g d e hd
def FH{r r':R2}{f g:D->D->Hd->Option (D×Hd)}(h:RB K r f)(h':RB K r' g):RB K (λx y H Q=>r x y H Q∨r' x y H Q) (Eu f g):=by
 intro ρ H hd d e v u Q z hd' hR h1 h2 hf hQ;unfold Eu at hf;split at hf
 .next q=>cases hf;exact .inl (h ρ H hd d e v u Q z hd' hR h1 h2 q hQ)
 .exact .inr (h' ρ H hd d e v u Q z hd' hR h1 h2 hf hQ)
abbrev KL:D->D->Hd->Option (D×Hd):=fI λi j=>some (.int (i+j))
abbrev Cf:D->D->Hd->Option (D×Hd):=fI λi j=>some (.int (i-j))
def ZL:RB K (rI0 λi j=>.int (i+j)) KL:=Fg λ_ _ _=>by simp[RI]
def ZE:RB K (rI0 λi j=>.int (i-j)) Cf:=Fg λ_ _ _=>by simp[RI]
open Classical in
abbrev Bg:D->D->Hd->Option (D×Hd):=fI λi j=>if EA i j then some (.int (i*j))else none
def ZI:RB K (rI CMul λi j=>.int (i*j)) Bg:=K5 λi j z h=>by
 split at h
 .next q=>cases h;exact⟨q,λ_=>by simp[RI]⟩
 .cases h
open Classical in
abbrev Co:D->D->Hd->Option (D×Hd):=fI λi j=>if EB j then some (.int (i%j))else none
def ZJ:RB K (rI (λ_ j=>0<j) λi j=>.int (i%j)) Co:=K5 λi j z h=>by
 split at h
 .next q=>cases h;exact⟨q,λ_=>by simp[RI]⟩
 .cases h
open Classical in
abbrev Fz:D->D->Hd->Option (D×Hd):=fI λi j=>if Lk j then some (.int (i/j))else none
def Wi:RB K (rI bi λi j=>.int (i/j)) Fz:=K5 λi j z h=>by
 split at h
 .next q=>cases h;exact⟨q,λ_=>by simp[RI]⟩
 .cases h
open Classical in
abbrev Pn:D->D->Hd->Option (D×Hd):=fI λi j=>if Fk i j then some (.int (i^j.toNat))else none
def ZH:RB K (rI Q6 λi j=>.int (i^j.toNat)) Pn:=K5 λi j z h=>by
 split at h
 .next q=>cases h;exact⟨q,λ_=>by simp[RI]⟩
 .cases h
abbrev gLt:D->D->Hd->Option (D×Hd):=fI λi j=>some (.bl (decide (i<j)))
abbrev gLe:D->D->Hd->Option (D×Hd):=fI λi j=>some (.bl (decide (i<=j)))
abbrev gGt:D->D->Hd->Option (D×Hd):=fI λi j=>some (.bl (decide (j<i)))
abbrev gGe:D->D->Hd->Option (D×Hd):=fI λi j=>some (.bl (decide (j<=i)))
def VG:RB K (rI0 λi j=>.bl (decide (i<j))) gLt:=Fg λ_ _ _=>by simp[RI]
def VH:RB K (rI0 λi j=>.bl (decide (i<=j))) gLe:=Fg λ_ _ _=>by simp[RI]
def VI:RB K (rI0 λi j=>.bl (decide (j<i))) gGt:=Fg λ_ _ _=>by simp[RI]
def c9:RB K (rI0 λi j=>.bl (decide (j<=i))) gGe:=Fg λ_ _ _=>by simp[RI]
def scI:I->Option V
 |.non=>some .non
 |.bl b=>some (.bl b)
 |.int i=>some (.int i)
 |.str x=>some (.str x)
 |.tup _=>none
def JC{i:I}{v w:V}(e:scI i=some w)(h:RI K H i v):v=w:=by
 cases i with
 |tup _=>simp[scI]at e
 |_=>simp only[scI,Option.some.injEq]at e;subst e;simpa only[RI]using h
def E6(neg:Bool):D->D->Hd->Option (D×Hd)
 |.im i,.im j,hd=>match scI i,scI j with
  |some x,some y=>if MH x y=true then some (.im (.bl (if neg then !decide (x=y)else decide (x=y))),hd)else none
  |_,_=>none
 |_,_,_=>none
def R8:RB K rEq (E6 false):=by
 intro ρ H hd d e v u Q z hd' hR h1 h2 hf hQ;unfold E6 at hf;split at hf
 .split at hf
  .next x y e1 e2=>
   split at hf
   .next s=>
    cases hf;simp only[RD]at h1 h2;rw[JC e1 h1,JC e2 h2];exact⟨s,hQ ρ H _ .refl hR (by simp[RD,RI])⟩
   .cases hf
  .cases hf
 .cases hf
def Qy:RB K rNe (E6 true):=by
 intro ρ H hd d e v u Q z hd' hR h1 h2 hf hQ;unfold E6 at hf;split at hf
 .split at hf
  .next x y e1 e2=>
   split at hf
   .next s=>
    cases hf;simp only[RD]at h1 h2;rw[JC e1 h1,JC e2 h2];exact⟨s,hQ ρ H _ .refl hR (by simp[RD,RI])⟩
   .cases hf
  .cases hf
 .cases hf
mutual
def I.py:I->PyData
 |.non=>.none
 |.bl b=>.bool b
 |.int i=>.int i
 |.str x=>.str x
 |.tup ds=>.tuple (I.pys ds)
def I.pys:List I->List PyData
 |[]=>[]
 |d::ds=>I.py d::I.pys ds
end
mutual
def RI.rep:∀{i:I} {v:V},RI K H i v->Rep K H i.py v
 |.non,v,h=>by simpa only[RI,I.py,Rep]using h
 |.bl _,v,h=>by simpa only[RI,I.py,Rep]using h
 |.int _,v,h=>by simpa only[RI,I.py,Rep]using h
 |.str _,v,h=>by simpa only[RI,I.py,Rep]using h
 |.tup ds,v,h=>by
  simp only[RI]at h;obtain⟨a,xs,e,q,r⟩:=h;simp only[I.py,Rep];exact⟨a,xs,e,q,RIs.rep r⟩
def RIs.rep:∀{i:List I} {v:List V},RIs K H i v->CC K H (I.pys i) v
 |[],v,h=>by simpa only[RIs,I.pys,CC]using h
 |d::ds,v,h=>by
  simp only[RIs]at h;obtain⟨x,r,e,q,z⟩:=h;simp only[I.pys,CC];exact⟨x,r,e,q.rep,RIs.rep z⟩
end
def pyD(hd:Hd):D->Option PyData
 |.im i=>some i.py
 |.mu n=>match hd[n]? with
  |some (.lst ds)=>(BL ds).map λis=>.list (I.pys is)
  |_=>none
 |.ro ns=>some (.list (I.pys (ns.map I.int)))
 |_=>none
def FJ{d:D}{v:V}{p:PyData}(hR:RH K ρ H hd)(h:RD K ρ H d v)(e:pyD hd d=some p):Rep K H p v:=by
 cases d with
 |im i=>simp only[pyD,Option.some.injEq]at e;subst e;simp only[RD]at h;exact h.rep
 |mu n=>
  simp only[pyD]at e;simp only[RD]at h;obtain⟨a,hn,rfl⟩:=h;split at e
  .next q=>
   obtain⟨is,e1,rfl⟩:=fX e;obtain⟨xs,e2,e3⟩:=hR.lst hn q;rw[GD e1]at e3;simp only[Rep];exact⟨a,xs,rfl,SqL.of e2,e3.is.rep⟩
  .cases e
 |ro ns=>
  simp only[pyD,Option.some.injEq]at e;subst e;obtain⟨a,xs,rfl,q,r⟩:=h.lst hR (hd:=hd) (ds:=ns.map λn=>.im (.int n)) rfl;simp only[Rep];refine⟨a,xs,rfl,q,RIs.rep (RDs.is (ρ:=ρ) ?_)⟩;rw[map_map];exact r
 |tm _=>simp[pyD]at e
def G0(neg:Bool):D->D->Hd->Option (D×Hd):=λd e hd=>match pyD hd d,pyD hd e with
 |some x,some y=>if x.canLay0=true/\y.canLay0=true/\min x.depth y.depth<=60 then some (.im (.bl (if neg then !PyData.eqv x y else PyData.eqv x y)),hd)else none
 |_,_=>none
def R9:RB K (Tn K) (G0 false):=by
 intro ρ H hd d e v u Q z hd' hR h1 h2 hf hQ;unfold G0 at hf;split at hf
 .next e1 e2=>
  split at hf
  .next c=>cases hf;exact⟨_,_,FJ hR h1 e1,FJ hR h2 e2,c.1,c.2.1,c.2.2,hQ ρ H _ .refl hR (by simp[RD,RI])⟩
  .cases hf
 .cases hf
def Qz:RB K (Tk K) (G0 true):=by
 intro ρ H hd d e v u Q z hd' hR h1 h2 hf hQ;unfold G0 at hf;split at hf
 .next e1 e2=>
  split at hf
  .next c=>cases hf;exact⟨_,_,FJ hR h1 e1,FJ hR h2 e2,c.1,c.2.1,c.2.2,hQ ρ H _ .refl hR (by simp[RD,RI])⟩
  .cases hf
 .cases hf
abbrev gEq:=Eu (E6 false) (G0 false)
abbrev gNe:=Eu (E6 true) (G0 true)
def gIx:D->D->Hd->Option (D×Hd)
 |d,.im (.int i),hd=>(Ad hd d).bind λds=>(atI ds i).map (·,hd)
 |_,_,_=>none
def Oa{α β:Type}{xs:List α}{ys:List β}{i:Int}{y:β}(h:xs.length=ys.length)(e:atI ys i=some y):∃(j:Nat),ys[j]?=some y/\∀x,xs[j]?=some x->atI xs i=some x:=by
 unfold atI at e;obtain⟨j,e1,e2⟩:=fW e;exact⟨j,e2,λx q=>by unfold atI;rw[h,e1];exact q⟩
def LZ(K:PySem.W.Frag):R2:=λx y H Q=>Tm K x y H Q∨Tl K x y H Q
def c8:RB K (LZ K) gIx:=by
 intro ρ H hd d e v u Q z hd' hR h1 h2 hf hQ;unfold gIx at hf;split at hf
 .obtain⟨ds,e1,hf⟩:=fW hf;obtain⟨w,e2,e3⟩:=fX hf;cases e3;obtain⟨a,xs,rfl,q,r⟩:=h1.seq hR e1;simp only[RD,RI]at h2;subst h2;obtain⟨j,j1,j2⟩:=Oa r.len e2;obtain⟨x,x1,x2⟩:=r.get j1;rcases q with q|q
  .exact .inl ⟨a,xs,_,x,rfl,rfl,q,j2 x x1,hQ ρ H x .refl hR x2⟩
  .exact .inr ⟨a,xs,_,x,rfl,rfl,q,j2 x x1,hQ ρ H x .refl hR x2⟩
 .cases hf
def DR(xs:List D)(lo hi:Option Int):List D:=(xs.drop (HT.sIx xs.length 0 lo)).take (HT.sIx xs.length xs.length hi-HT.sIx xs.length 0 lo)
def OT{ds:List D}{xs:List V}{lo hi:Option Int}(r:RDs K ρ H ds xs):RDs K ρ H (DR ds lo hi) (FA xs lo hi):=by
 unfold DR FA;rw[r.len];exact(r.drop _).take _
abbrev MO1:=Ls->Hd->Option (Option Int×Hd)
def RO1(K:PySem.W.Frag)(t:TO)(m:MO1):Prop:=∀(ρ:List Addr) (σ:St) (H:Hp) (hd:Hd) (ls:Ls) (Q:Option Int->Hp->Prop) (d:Option Int) (hd':Hd),RH K ρ H hd->RL K ρ H ls σ->m ls hd=some (d,hd') ->
 (∀ρ' H',Ext ρ H ρ' H'->RH K ρ' H' hd'->Q d H')->t σ H Q
def DY:MO1:=λ_ hd=>some (none,hd)
def Fo(m:ME):MO1:=λls hd=>(m ls hd).bind λp=>match p.1 with
 |.im (.int i)=>some (some i,p.2)
 |_=>none
def WG:RO1 K Jz DY:=by
 and_intros;cases hm;exact hQ ρ H .refl hR
def WD{t:TE}{m:ME}(h:RE K t m):RO1 K (Om t) (Fo m):=by
 and_intros;obtain⟨⟨d1,h1⟩,e1,hm⟩:=fW hm;dsimp only at hm;split at hm
 .cases hm;exact h ρ σ H hd ls _ _ _ hR hL e1 λρ1 H1 v x1 R1 r1=>⟨_,by simpa only[RD,RI]using r1,hQ ρ1 H1 x1 R1⟩
 .cases hm
def KD(m:ME)(ml mh:MO1):ME:=λls hd=>(m ls hd).bind λp=>(ml ls p.2).bind λl=>(mh ls l.2).bind λh=>(AX p.1).bind λds=>
 if ¬ (HT.sIx ds.length 0 l.1=0/\HT.sIx ds.length ds.length h.1=ds.length)then some (B4 (DR ds l.1 h.1),h.2)else none
def Z6{t:TE}{tl th:TO}{m:ME}{ml mh:MO1}(h:RE K t m)(hl:RO1 K tl ml)(hh:RO1 K th mh):RE K (tSl (P9 K) t tl th) (KD m ml mh):=by
 and_intros;obtain⟨⟨d1,h1⟩,e1,hm⟩:=fW hm;obtain⟨⟨d2,h2⟩,e2,hm⟩:=fW hm;obtain⟨⟨d3,h3⟩,e3,hm⟩:=fW hm;obtain⟨ds,e4,hm⟩:=fW hm;dsimp only at e2 e3 e4 hm;split at hm
 .next c=>
  cases hm;refine h ρ σ H hd ls _ d1 h1 hR hL e1 λρ1 H1 v1 x1 R1 r1=>?_;refine hl ρ1 σ H1 h1 ls _ d2 h2 R1 (hL.ext hR x1) e2 λρ2 H2 x2 R2=>?_;refine hh ρ2 σ H2 h2 ls _ d3 _ R2 (hL.ext hR (x1.trans R1 x2)) e3 λρ3 H3 x3 R3=>?_;obtain⟨a,xs,rfl,q,r⟩:=((r1.ext R1 x2).ext R2 x3).tup e4;refine⟨a,xs,rfl,q,by rw[r.len];exact c,λp hp=>?_⟩;obtain⟨R4,x4⟩:=R3.hid (ho:=.tup (FA xs d2 d3)) hp;exact hQ ρ3 _ _ (((x1.trans R1 x2).trans R2 x3).trans R3 x4) R4 (CU (SqT.of AI) ((OT r).ext R3 x4))
 .cases hm
def KF(m:ME)(ml mh:MO1):MA:=λls hd=>(m ls hd).bind λp=>(ml ls p.2).bind λl=>(mh ls l.2).bind λh=>(Ar h.2 p.1).bind λds=>some (DR ds l.1 h.1,h.2)
def Ys{t:TE}{tl th:TO}{m:ME}{ml mh:MO1}(h:RE K t m)(hl:RO1 K tl ml)(hh:RO1 K th mh):RN K (tSl (PB K) t tl th) (KF m ml mh):=by
 and_intros;obtain⟨⟨d1,h1⟩,e1,hm⟩:=fW hm;obtain⟨⟨d2,h2⟩,e2,hm⟩:=fW hm;obtain⟨⟨d3,h3⟩,e3,hm⟩:=fW hm;obtain⟨ds,e4,hm⟩:=fW hm;dsimp only at e2 e3 e4 hm;cases hm;refine h ρ σ H hd ls _ d1 h1 hR hL e1 λρ1 H1 v1 x1 R1 r1=>?_;refine hl ρ1 σ H1 h1 ls _ d2 h2 R1 (hL.ext hR x1) e2 λρ2 H2 x2 R2=>?_;refine hh ρ2 σ H2 h2 ls _ d3 _ R2 (hL.ext hR (x1.trans R1 x2)) e3 λρ3 H3 x3 R3=>?_;obtain⟨a,xs,rfl,q,r⟩:=RD.lst R3 ((r1.ext R1 x2).ext R2 x3) e4;refine⟨a,xs,rfl,q,λp hp=>?_⟩;obtain⟨R4,x4⟩:=R3.hid (ho:=.lst (FA xs d2 d3)) hp;have x123:=(x1.trans R1 x2).trans R2 x3;exact hQ ρ3 _ p _ (x123.trans R3 x4) R4 (x123.none hR hp R3) (R3.out hp) AI ((OT r).ext R3 x4)
def mCB(f:List D->Hd->Option (D×Hd))(ma:MA):ME:=λls hd=>(ma ls hd).bind λp=>f p.1 p.2
def VE{r:List V->Hp->VK->Prop}{f:List D->Hd->Option (D×Hd)}{t:TA}{m:MA}(hr:RF K r f)(h:RA K t m):RE K (tCB r t) (mCB f m):=by
 and_intros;obtain⟨⟨d1,h1⟩,e1,hm⟩:=fW hm;refine h ρ σ H hd ls _ d1 h1 hR hL e1 λρ1 H1 v1 x1 R1 r1=>?_;exact hr ρ1 H1 h1 d1 v1 Q d hd' R1 r1 hm λρ' H' w x2 R2 r2=>hQ ρ' H' w (x1.trans R1 x2) R2 r2
def f1(tp:Bool)(g:List D->Option D):List D->Hd->Option (D×Hd)
 |[d],hd=>((if tp then Ad hd d else Ar hd d)).bind λds=>(g ds).map (·,hd)
 |_,_=>none
def K3{tp:Bool}{r:List V->Hp->VK->Prop}{g:List D->Option D}(h:RG K tp r g):RF K r (f1 tp g):=by
 intro ρ H hd ds vs Q z hd' hR h1 hf hQ;unfold f1 at hf;split at hf
 .next d hd'=>
  obtain⟨es,e1,hf⟩:=fW hf;obtain⟨w,e2,e3⟩:=fX hf;cases e3;simp only[RDs]at h1;obtain⟨x,r,rfl,rx,rfl⟩:=h1;cases tp with
  |true=>
   rw[if_pos rfl]at e1;obtain⟨a,xs,rfl,q,rr⟩:=rx.seq hR e1;exact h ρ H hd a xs es Q z hR (q.imp id λq=>⟨rfl,q⟩) rr e2 λH' w x R r=>hQ ρ H' w x R r
  |false=>
   rw[if_neg Bool.false_ne_true]at e1;obtain⟨a,xs,rfl,q,rr⟩:=rx.lst hR e1;exact h ρ H hd a xs es Q z hR (.inl q) rr e2 λH' w x R r=>hQ ρ H' w x R r
 .cases hf
def B7(g:List D->Option D)(ml:MA):ME:=λls hd=>(ml ls hd).bind λp=>(g p.1).map (·,p.2)
def Qw{tp:Bool}{r:List V->Hp->VK->Prop}{g:List D->Option D}{t:TE}{m:MA}(hr:RG K tp r g)(h:RN K t m):RE K (tCB r (BH t BR)) (B7 g m):=by
 and_intros;obtain⟨⟨d1,h1⟩,e1,hm⟩:=fW hm;obtain⟨w,e2,e3⟩:=fX hm;cases e3;refine h ρ σ H hd ls _ d1 _ hR hL e1 λρ1 H1 a xs x1 R1 na oa ea r1=>?_;exact hr ρ1 H1 _ a xs d1 Q d R1 (.inl (SqL.of ea)) r1 e2 λH' w x R r=>hQ ρ1 H' w (x1.trans R1 x) R r
def BF(ds:List D):Option D:=some (.im (.int ds.length))
def Z2:RG K true (ZN K) BF:=by
 intro ρ H hd a xs ds Q z hR q r e hQ;cases e;refine⟨a,xs,rfl,q.imp id λq=>q.2,?_⟩;rw[r.len];exact hQ H _ .refl hR (by simp[RD,RI])
def BK(ds:List D):Option D:=some (B4 ds)
def MY:RG K true (Me K) BK:=by
 intro ρ H hd a xs ds Q z hR q r e hQ;cases e;refine⟨a,xs,rfl,?_⟩;rcases q with q|⟨_,q⟩
 .refine .inl ⟨q,λp hp=>?_⟩;obtain⟨R2,x2⟩:=hR.hid (ho:=.tup xs) hp;exact hQ _ _ x2 R2 (CU (SqT.of AI) (r.ext hR x2))
 .exact .inr ⟨q,hQ H _ .refl hR (CU q r)⟩
def Gq(ds:List D):Option D:=(Ax ds).map λns=>.im (.int ns.sum)
def dE(K:PySem.W.Frag):List V->Hp->VK->Prop:=λxs H Q=>VL K xs H Q∨VJ K xs H Q
def Qr:RG K true (dE K) Gq:=by
 intro ρ H hd a xs ds Q z hR q r e hQ;obtain⟨ns,e1,rfl⟩:=fX e;rw[C5 e1]at r;have:=EG r;subst this;rcases q with q|⟨_,q⟩
 .exact .inl ⟨a,ns,rfl,q,hQ H _ .refl hR (by simp[RD,RI])⟩
 .exact .inr ⟨a,ns,rfl,q,hQ H _ .refl hR (by simp[RD,RI])⟩
def Mv(ds:List D):Option D:=(Ca ds).map λbs=>.im (.bl (bs.any id))
def Qu:RG K false (ZO K) Mv:=by
 intro ρ H hd a xs ds Q z hR q r e hQ;obtain⟨ns,e1,rfl⟩:=fX e;rw[OY e1]at r;have:=Qx r;subst this;rcases q with q|⟨q,_⟩
 .exact⟨a,ns,rfl,q,hQ H _ .refl hR (by simp[RD,RI])⟩
 .cases q
def DI:List Int->Int
 |[]=>0
 |[x]=>x
 |x::r=>if DI r>x then DI r else x
def DH:List Int->Int
 |[]=>0
 |[x]=>x
 |x::r=>if DH r<x then DH r else x
def CW:∀{xs:List Int},xs≠[]->DI xs∈xs/\∀x∈xs,x<=DI xs
 |[],h=>absurd rfl h
 |[x],_=>by simp[DI]
 |x::y::r,_=>by
  obtain⟨h1,h2⟩:=CW (xs:=y::r) (by simp);rw[DI];split
  .next h=>exact⟨mem_cons_of_mem _ h1,λz m=>by rcases mem_cons.mp m with rfl|m;omega;exact h2 z m⟩
  .next h=>exact⟨mem_cons_self,λz m=>by rcases mem_cons.mp m with rfl|m;omega;exact Int.le_trans (h2 z m) (by omega)⟩
  .simp
def D9:∀{xs:List Int},xs≠[]->DH xs∈xs/\∀x∈xs,DH xs<=x
 |[],h=>absurd rfl h
 |[x],_=>by simp[DH]
 |x::y::r,_=>by
  obtain⟨h1,h2⟩:=D9 (xs:=y::r) (by simp);rw[DH];split
  .next h=>exact⟨mem_cons_of_mem _ h1,λz m=>by rcases mem_cons.mp m with rfl|m;omega;exact h2 z m⟩
  .next h=>exact⟨mem_cons_self,λz m=>by rcases mem_cons.mp m with rfl|m;omega;exact Int.le_trans (by omega) (h2 z m)⟩
  .simp
def E5(ds:List D):Option D:=(Ax ds).bind λns=>if ns=[]then none else some (.im (.int (DI ns)))
def Ft(ds:List D):Option D:=(Ax ds).bind λns=>if ns=[]then none else some (.im (.int (DH ns)))
def dF(K:PySem.W.Frag):List V->Hp->VK->Prop:=λxs H Q=>VO K xs H Q∨VN K xs H Q
def FP{α:Type}{xs:List α}(h:xs≠[]):0<xs.length:=by cases xs<;>simp_all
def Qt:RG K true (dF K) E5:=by
 intro ρ H hd a xs ds Q z hR q r e hQ;obtain⟨ns,e1,e⟩:=fW e;split at e
 .cases e
 .next hn=>
  cases e;rw[C5 e1]at r;have:=EG r;subst this;have u:∀M:Int,M∈ns->(∀x∈ns,x<=M)->M=DI ns:=λM m1 m2=>by
   obtain⟨n1,n2⟩:=CW hn;have:=n2 M m1;have:=m2 _ n1;omega
  rcases q with q|⟨_,q⟩
  .exact .inl ⟨a,ns,rfl,q,FP hn,λM m1 m2=>by rw[u M m1 m2];exact hQ H _ .refl hR (by simp[RD,RI])⟩
  .exact .inr ⟨a,ns,rfl,q,FP hn,λM m1 m2=>by rw[u M m1 m2];exact hQ H _ .refl hR (by simp[RD,RI])⟩
def Qs:RG K false (VM K) Ft:=by
 intro ρ H hd a xs ds Q z hR q r e hQ;obtain⟨ns,e1,e⟩:=fW e;split at e
 .cases e
 .next hn=>
  cases e;rw[C5 e1]at r;have:=EG r;subst this;have u:∀M:Int,M∈ns->(∀x∈ns,M<=x)->M=DH ns:=λM m1 m2=>by
   obtain⟨n1,n2⟩:=D9 hn;have:=n2 M m1;have:=m2 _ n1;omega
  rcases q with q|⟨q,_⟩
  .exact⟨a,ns,rfl,q,FP hn,λM m1 m2=>by rw[u M m1 m2];exact hQ H _ .refl hR (by simp[RD,RI])⟩
  .cases q
def Dm:List D->Hd->Option (D×Hd)
 |[.im (.int i),.im (.int j)],hd=>some (.im (.int (if j>i then j else i)),hd)
 |_,_=>none
def HZ:List D->Hd->Option (D×Hd)
 |[.im (.int i),.im (.int j)],hd=>some (.im (.int (if j<i then j else i)),hd)
 |_,_=>none
def WR:RF K (λxs H Q=>∃i j,xs=[.int i,.int j]/\Q (.int (if j>i then j else i)) H) Dm:=by
 intro ρ H hd ds vs Q z hd' hR h1 hf hQ;unfold Dm at hf;split at hf
 .cases hf;simp only[RDs,RD,RI]at h1;obtain⟨x,r,rfl,rfl,y,r2,rfl,rfl,rfl⟩:=h1;exact⟨_,_,rfl,hQ ρ H _ .refl hR (by simp[RD,RI])⟩
 .cases hf
def WQ:RF K (λxs H Q=>∃i j,xs=[.int i,.int j]/\Q (.int (if j<i then j else i)) H) HZ:=by
 intro ρ H hd ds vs Q z hd' hR h1 hf hQ;unfold HZ at hf;split at hf
 .cases hf;simp only[RDs,RD,RI]at h1;obtain⟨x,r,rfl,rfl,y,r2,rfl,rfl,rfl⟩:=h1;exact⟨_,_,rfl,hQ ρ H _ .refl hR (by simp[RD,RI])⟩
 .cases hf
def dR:List D->Hd->Option (D×Hd)
 |[.im (.int i)],hd=>some (.im (.int (if i<0 then -i else i)),hd)
 |_,_=>none
def HP(ma:ME):MA:=λls hd=>(ma ls hd).bind λp=>(Ad p.2 p.1).map (·,p.2)
def WJ{t:TE}{m:ME}(h:RE K t m):RN K (tCB (FI K) (BH t BR)) (HP m):=by
 and_intros;obtain⟨⟨d1,h1⟩,e1,hm⟩:=fW hm;obtain⟨w,e2,e3⟩:=fX hm;cases e3;refine h ρ σ H hd ls _ d1 _ hR hL e1 λρ1 H1 v x1 R1 r1=>?_;obtain⟨a,xs,rfl,q,rr⟩:=r1.seq R1 e2;refine⟨a,xs,rfl,q,λl hl=>?_⟩;obtain⟨R2,x2⟩:=R1.hid (ho:=.lst xs) hl;exact hQ ρ1 _ l xs (x1.trans R1 x2) R2 (x1.none hR hl R1) (R1.out hl) AI (rr.ext R1 x2)
def Gh(ml:MA):MA:=ml
def Ta{t:TE}{m:MA}(h:RN K t m):RN K (tCB (FI K) (BH t BR)) (Gh m):=by
 and_intros;refine h ρ σ H hd ls _ d _ hR hL hm λρ1 H1 a xs x1 R1 na oa ea r1=>?_;refine⟨a,xs,rfl,.inl (SqL.of ea),λl hl=>?_⟩;obtain⟨R2,x2⟩:=R1.hid (ho:=.lst xs) hl;exact hQ ρ1 _ l xs (x1.trans R1 x2) R2 (x1.none hR hl R1) (R1.out hl) AI (r1.ext R1 x2)
def ED:I->Option V
 |.non=>some .non
 |.bl b=>some (.bl b)
 |.int i=>some (.int i)
 |.str x=>some (.str x)
 |.tup _=>none
def CB:List D->Option (List V)
 |[]=>some []
 |.im i::r=>(ED i).bind λv=>(CB r).map (v::·)
 |_::_=>none
def Ib{i:I}{v w:V}(e:ED i=some w)(h:RI K H i v):v=w/\Dk w=true:=by
 cases i with
 |tup _=>simp[ED]at e
 |_=>simp only[ED,Option.some.injEq]at e;subst e;exact⟨by simpa only[RI]using h,rfl⟩
def Gu:∀{ds:List D} {vs ws:List V},CB ds=some ws->RDs K ρ H ds vs->vs=ws/\ws.all Dk=true
 |[],vs,ws,e,h=>by simp[CB]at e;subst e;simp only[RDs]at h;subst h;exact⟨rfl,rfl⟩
 |.im i::r,vs,ws,e,h=>by
  simp only[CB]at e;obtain⟨v,e1,e⟩:=fW e;obtain⟨us,e2,rfl⟩:=fX e;simp only[RDs,RD]at h;obtain⟨x,y,rfl,h1,h2⟩:=h;obtain⟨rfl,f1⟩:=Ib e1 h1;obtain⟨rfl,f2⟩:=Gu e2 h2;exact⟨rfl,by simp[f1,f2]⟩
 |.mu _::_,_,_,e,_=>by simp[CB]at e
 |.tm _::_,_,_,e,_=>by simp[CB]at e
 |.ro _::_,_,_,e,_=>by simp[CB]at e
def gIn(neg:Bool):D->D->Hd->Option (D×Hd)
 |.im i,e,hd=>(ED i).bind λx=>(Ad hd e).bind λds=>(CB ds).map λxs=>(.im (.bl (if neg then !inV x xs else inV x xs)),hd)
 |_,_,_=>none
def P8{neg:Bool}:RB K (rIn K neg) (gIn neg):=by
 intro ρ H hd d e v u Q z hd' hR h1 h2 hf hQ;unfold gIn at hf;split at hf
 .obtain⟨x,e1,hf⟩:=fW hf;obtain⟨ds,e2,hf⟩:=fW hf;obtain⟨xs,e3,e4⟩:=fX hf;cases e4;simp only[RD]at h1;obtain⟨rfl,f1⟩:=Ib e1 h1;obtain⟨a,ys,rfl,q,r⟩:=h2.seq hR e2;obtain⟨rfl,f2⟩:=Gu e3 r;exact⟨a,ys,rfl,q,f1,f2,hQ ρ H _ .refl hR (by simp[RD,RI])⟩
 .cases hf
def mMt(f:D->List D->Hd->Option (D×Hd))(mo:ME)(ma:MA):ME:=λls hd=>(mo ls hd).bind λp=>match Ar p.2 p.1 with
 |some _=>(ma ls p.2).bind λq=>f p.1 q.1 q.2
 |none=>none
def RM(K:PySem.W.Frag)(r:V->List V->Hp->VK->Prop)(f:D->List D->Hd->Option (D×Hd)):Prop:=∀(ρ:List Addr) (H:Hp) (hd:Hd) (d:D) (v:V) (ds:List D) (vs:List V) (Q:VK) (z:D) (hd':Hd),RH K ρ H hd->RD K ρ H d v->RDs K ρ H ds vs->f d ds hd=some (z,hd') ->
 (∀ρ' H' w,Ext ρ H ρ' H'->RH K ρ' H' hd'->RD K ρ' H' z w->Q w H')->r v vs H Q
def VD{r:V->List V->Hp->VK->Prop}{f:D->List D->Hd->Option (D×Hd)}{to:TE}{t:TA}{mo:ME}{ma:MA}(hr:RM K r f)(ho:RE K to mo)(ha:RA K t ma):RE K (tBM K "list" r to t) (mMt f mo ma):=by
 and_intros;obtain⟨⟨d1,h1⟩,e1,hm⟩:=fW hm;dsimp only at hm;split at hm
 .next e=>
  obtain⟨⟨d2,h2⟩,e2,hm⟩:=fW hm;refine ho ρ σ H hd ls _ d1 h1 hR hL e1 λρ1 H1 v x1 R1 r1=>⟨?_,?_⟩
  .obtain⟨a,xs,rfl,q,_⟩:=r1.lst R1 e;exact .inl ⟨rfl,xs,q⟩
  .exact ha ρ1 σ H1 h1 ls _ d2 h2 R1 (hL.ext hR x1) e2 λρ2 H2 vs x2 R2 r2=>hr ρ2 H2 h2 d1 v d2 vs Q d hd' R2 (r1.ext R1 x2) r2 hm λρ' H' w x3 R3 r3=>hQ ρ' H' w ((x1.trans R1 x2).trans R2 x3) R3 r3
 .cases hm
def Z8{r:V->List V->Hp->VK->Prop}{f:D->List D->Hd->Option (D×Hd)}{to:TE}{mo:ME}(hr:RM K r f)(ho:RE K to mo):RE K (T5 K "list" r to) (mMt f mo A4):=VD (t:=BR) hr ho Md
open Classical in
def Ae:D->List D->Hd->Option (D×Hd)
 |.mu n,[x],hd=>match hd[n]? with
  |some (.lst ds)=>if DO ds.length then some (.im .non,hd.set n (.lst (ds++[x])))else none
  |_=>none
 |_,_,_=>none
def Qo:RM K O7 Ae:=by
 intro ρ H hd d v ds vs Q z hd' hR h1 h2 hf hQ;unfold Ae at hf;split at hf
 .split at hf
  .next q=>
   split at hf
   .next c=>
    cases hf;simp only[RD]at h1;obtain⟨a,hn,rfl⟩:=h1;simp only[RDs]at h2;obtain⟨x,r,rfl,rx,rfl⟩:=h2;obtain⟨xs,e1,e2⟩:=hR.lst hn q;obtain⟨R2,x2⟩:=hR.put hn (o:=.lst (_++[_])) (ho:=.lst (xs++[x])) ⟨_,rfl,e2.app (.cons rx .nil)⟩;exact⟨a,xs,x,rfl,rfl,e1,by rw[e2.len];exact c,hQ ρ _ _ x2 R2 (by simp[RD,RI])⟩
   .cases hf
  .cases hf
 .cases hf
def Gv:D->List D->Hd->Option (D×Hd)
 |.mu n,[],hd=>match hd[n]? with
  |some (.lst ds)=>(ds[ds.length-1]?).map λy=>(y,hd.set n (.lst ds.dropLast))
  |_=>none
 |_,_,_=>none
def RDs.dropLast{ds:List D}{xs:List V}(h:RDs K ρ H ds xs):RDs K ρ H ds.dropLast xs.dropLast:=by
 rw[List.dropLast_eq_take,List.dropLast_eq_take,h.len];exact h.take _
def Yx:RM K ZM Gv:=by
 intro ρ H hd d v ds vs Q z hd' hR h1 h2 hf hQ;unfold Gv at hf;split at hf
 .split at hf
  .next q=>
   obtain⟨y,e0,e3⟩:=fX hf;cases e3;simp only[RD]at h1;obtain⟨a,hn,rfl⟩:=h1;simp only[RDs]at h2;subst h2;obtain⟨xs,e1,e2⟩:=hR.lst hn q;obtain⟨x,x1,x3⟩:=e2.get e0;obtain⟨R2,x2⟩:=hR.put hn (o:=.lst _) (ho:=.lst xs.dropLast) ⟨_,rfl,e2.dropLast⟩;exact⟨a,xs,x,rfl,rfl,e1,by rw[e2.len];exact x1,hQ ρ _ _ x2 R2 (x3.ext hR x2)⟩
  .cases hf
 .cases hf
end
end L2
namespace L2
open PySem PySem.Spec PyProof.Rows
section
variable{K:PySem.W.Frag}{ρ ρ':List Addr}{H H':Hp}{hd hd':Hd}
def AY:MS:=λls hd=>some (.nx ls,hd)
def O0:RS K Iy AY:=by
 intro ρ σ H hd ls E f hd' hR hL hm hQ;cases hm;exact hQ ρ H .refl hR σ hL
def A5(a b:MS):MS:=λls hd=>(a ls hd).bind λp=>match p.1 with
 |.nx ls1=>b ls1 p.2
 |f=>some (f,p.2)
def Yp{t u:TS}{a b:MS}(ha:RS K t a)(hb:RS K u b):RS K (Sv t u) (A5 a b):=by
 intro ρ σ H hd ls E f hd' hR hL hm hQ;obtain⟨⟨f1,h1⟩,e1,hm⟩:=fW hm;refine ha ρ σ H hd ls { E with nx:=u E } f1 h1 hR hL e1 λρ1 H1 x1 R1=>?_;cases f1 with
 |nx ls1=>
  intro σ1 L1;exact hb ρ1 σ1 H1 h1 ls1 E f hd' R1 L1 hm λρ2 H2 x2 R2=>hQ ρ2 H2 (x1.trans R1 x2) R2
 |bk ls1=>cases hm;exact hQ ρ1 H1 x1 R1
 |ct ls1=>cases hm;exact hQ ρ1 H1 x1 R1
 |rt d=>cases hm;exact hQ ρ1 H1 x1 R1
def az:MS:=λls hd=>some (.bk ls,hd)
def cZ:MS:=λls hd=>some (.ct ls,hd)
def B8(m:ME):MS:=λls hd=>(m ls hd).bind λp=>some (.nx ls,p.2)
def W9{t:TE}{m:ME}(h:RE K t m):RS K (Oo t) (B8 m):=by
 intro ρ σ H hd ls E f hd' hR hL hm hQ;obtain⟨⟨d1,h1⟩,e1,hm⟩:=fW hm;cases hm;exact h ρ σ H hd ls _ d1 _ hR hL e1 λρ1 H1 v x1 R1 r1=>hQ ρ1 H1 x1 R1 σ (hL.ext hR x1)
def AL(m:ME):MS:=λls hd=>(m ls hd).bind λp=>some (.rt p.1,p.2)
def Yq{t:TE}{m:ME}(h:RE K t m):RS K (Sw t) (AL m):=by
 intro ρ σ H hd ls E f hd' hR hL hm hQ;obtain⟨⟨d1,h1⟩,e1,hm⟩:=fW hm;cases hm;exact h ρ σ H hd ls _ d1 _ hR hL e1 λρ1 H1 v x1 R1 r1=>hQ ρ1 H1 x1 R1 v r1
def cW:MS:=λ_ hd=>some (.rt (.im .non),hd)
def Af(c:MT)(a b:MS):MS:=λls hd=>(c ls hd).bind λp=>if p.1=true then a ls p.2 else b ls p.2
def bu{tc:TT}{t u:TS}{c:MT}{a b:MS}(hc:RT K tc c)(ha:RS K t a)(hb:RS K u b):RS K (T2 tc t u) (Af c a b):=by
 intro ρ σ H hd ls E f hd' hR hL hm hQ;obtain⟨⟨d1,h1⟩,e1,hm⟩:=fW hm;refine hc ρ σ H hd ls _ d1 h1 hR hL e1 λρ1 H1 x1 R1=>?_;cases d1 with
 |true=>
  rw[if_pos rfl]at hm ⊢;exact ha ρ1 σ H1 h1 ls E f hd' R1 (hL.ext hR x1) hm λρ2 H2 x2 R2=>hQ ρ2 H2 (x1.trans R1 x2) R2
 |false=>
  rw[if_neg Bool.false_ne_true]at hm ⊢;exact hb ρ1 σ H1 h1 ls E f hd' R1 (hL.ext hR x1) hm λρ2 H2 x2 R2=>hQ ρ2 H2 (x1.trans R1 x2) R2
def Gg:MS:=λ_ _=>none
def TU:RS K M3 Gg:=by
 intro ρ σ H hd ls E f hd' hR hL hm hQ;cases hm
abbrev MG:=D->Ls->Hd->Option Ls
abbrev MGs:=List D->Ls->Hd->Option Ls
def RGt(K:PySem.W.Frag)(t:TG)(m:MG):Prop:=∀(ρ:List Addr) (σ:St) (H:Hp) (hd:Hd) (ls ls':Ls) (d:D) (v:V) (Q:St->Hp->Prop),RH K ρ H hd->RL K ρ H ls σ->RD K ρ H d v->m d ls hd=some ls' ->
 (∀σ',RL K ρ H ls' σ'->Q σ' H)->t v σ H Q
def NU(K:PySem.W.Frag)(t:TGs)(m:MGs):Prop:=∀(ρ:List Addr) (σ:St) (H:Hp) (hd:Hd) (ls ls':Ls) (d:List D) (v:List V) (Q:St->Hp->Prop),RH K ρ H hd->RL K ρ H ls σ->RDs K ρ H d v->m d ls hd=some ls' ->
 (∀σ',RL K ρ H ls' σ'->Q σ' H)->t v σ H Q
def RL.set{ls:Ls}{σ:St}{d:D}{v:V}(h:RL K ρ H ls σ)(i:Nat)(r:RD K ρ H d v):RL K ρ H (ls.set i (some d)) (σ.set i (some v)):=by
 refine⟨by simp[h.len],λj e q=>?_⟩;by_cases hij:i=j
 .subst hij;have hl:i<ls.length:=by
   have:=(List.getElem?_eq_some_iff.mp q).1;simpa using this
  rw[List.getElem?_set_self hl]at q;cases q;exact⟨v,by rw[List.getElem?_set_self (by rw[<- h.len];exact hl)],r⟩
 .rw[List.getElem?_set_ne hij]at q;obtain⟨w,e1,e2⟩:=h.ob j e q;exact⟨w,by rw[List.getElem?_set_ne hij];exact e1,e2⟩
def AA(i:Nat):MG:=λd ls _=>some (ls.set i (some d))
def K2{i:Nat}:RGt K (Dj i) (AA i):=by
 intro ρ σ H hd ls ls' d v Q hR hL hd hm hQ;cases hm;exact hQ _ (hL.set i hd)
def Bc:MGs:=λds ls _=>match ds with
 |[]=>some ls
 |_=>none
def AO(m:MG)(r:MGs):MGs:=λds ls hd=>match ds with
 |d::es=>(m d ls hd).bind λls1=>r es ls1 hd
 |[]=>none
def WN:NU K Uq Bc:=by
 intro ρ σ H hd ls ls' d v Q hR hL hd hm hQ;cases d with
 |nil=>
  simp only[RDs]at hd;subst hd;cases hm;exact⟨rfl,hQ _ hL⟩
 |cons a b=>cases hm
def Td{t:TG}{u:TGs}{m:MG}{r:MGs}(h:RGt K t m)(h':NU K u r):NU K (Po t u) (AO m r):=by
 intro ρ σ H hd ls ls' d v Q hR hL hd hm hQ;cases d with
 |nil=>cases hm
 |cons a b=>
  simp only[RDs]at hd;obtain⟨x,y,rfl,h1,h2⟩:=hd;obtain⟨ls1,e1,e2⟩:=fW hm;exact⟨x,y,rfl,h ρ σ H _ ls ls1 a x _ hR hL h1 e1 λσ1 L1=>h' ρ σ1 H _ ls1 ls' b y Q hR L1 h2 e2 hQ⟩
def Bb(n:Nat)(r:MGs):MG:=λd ls hd=>(AX d).bind λds=>if ds.length=n then r ds ls hd else none
def Z1{n:Nat}{u:TGs}{r:MGs}(h':NU K u r):RGt K (Pl K n u) (Bb n r):=by
 intro ρ σ H hd ls ls' d v Q hR hL hd hm hQ;obtain⟨ds,e1,hm⟩:=fW hm;split at hm
 .next c=>
  obtain⟨a,xs,rfl,q,rr⟩:=hd.tup e1;exact⟨a,xs,rfl,q,by rw[rr.len];exact c,h' ρ σ H _ ls ls' ds xs Q hR hL rr hm hQ⟩
 .cases hm
def F1(m:ME)(g:MG):MS:=λls hd=>(m ls hd).bind λp=>(g p.1 ls p.2).map λls'=>(.nx ls',p.2)
def MW{t:TE}{m:ME}{g:TG}{n:MG}(h:RE K t m)(hg:RGt K g n):RS K (EQ t g) (F1 m n):=by
 intro ρ σ H hd ls E f hd' hR hL hm hQ;obtain⟨⟨d1,h1⟩,e1,hm⟩:=fW hm;obtain⟨ls',e2,e3⟩:=fX hm;cases e3;exact h ρ σ H hd ls _ d1 _ hR hL e1 λρ1 H1 v x1 R1 r1=>hg ρ1 σ H1 _ ls ls' d1 v _ R1 (hL.ext hR x1) r1 e2 λσ' L'=>hQ ρ1 H1 x1 R1 σ' L'
abbrev AF(i:Nat)(m:ME):MS:=F1 m (AA i)
def Pb(ix:List Nat)(ma:MA):MS:=λls hd=>(ma ls hd).bind λp=>if p.1.length=ix.length then some (.nx ((ix.zip p.1).foldl (λl q=>l.set q.1 (some q.2)) ls),p.2)else none
def cX(i j k:Nat)(ma:MA):MS:=Pb [k,j,i] (λls hd=>(ma ls hd).map λp=>(p.1.reverse,p.2))
abbrev Gd:=List (Nat×List D)
abbrev MI:=Ls->Hd->Option ((List D×Gd)×Hd)
def GOk(hd:Hd)(g:Gd):Prop:=∀p∈g,hd[p.1]?=some (.lst p.2)
@[simp] theorem AE(hd:Hd):GOk hd []:=λp h=>by cases h
def NR(K:PySem.W.Frag)(ρ:List Addr)(H:Hp)(J:It)(ds:List D)(g:Gd):Prop:=∀(ρ2:List Addr) (H2:Hp) (hd2:Hd),Ext ρ H ρ2 H2->RH K ρ2 H2 hd2->GOk hd2 g ->
 ∀i:Nat,(i<ds.length->J.go i H2/\∀x H3,J.yld i H2 x H3->∃ρ3 d,Ext ρ2 H2 ρ3 H3/\ρ3=ρ2/\RH K ρ3 H3 hd2/\ds[i]?=some d/\RD K ρ3 H3 d x)/\(i=ds.length->J.stop i H2)
def RIt(K:PySem.W.Frag)(t:TI)(m:MI):Prop:=∀(ρ:List Addr) (σ:St) (H:Hp) (hd:Hd) (ls:Ls) (Q:It->Hp->Prop) (d:List D) (g:Gd) (hd':Hd),RH K ρ H hd->RL K ρ H ls σ->m ls hd=some ((d,g),hd') ->
 (∀ρ' H' J,Ext ρ H ρ' H'->RH K ρ' H' hd'->GOk hd' g->NR K ρ' H' J d g->Q J H')->t σ H Q
def Oc{a:Addr}{xs:List V}{ds:List D}(hR:RH K ρ H hd)(q:SqT K H a xs)(r:RDs K ρ H ds xs)(g:Gd):NR K ρ H (Itt K a) ds g:=by
 intro ρ2 H2 hd2 x2 R2 _ i;have q2:=(x2.grow hR).sq q;have r2:=r.ext hR x2;have uniq:∀ys,SqT K H2 a ys->True:=λ_ _=>trivial;refine⟨λhi=>?_,λhi=>⟨xs,q2,by rw[r2.len,hi];exact le_refl _⟩⟩;have e:ds[i]?=some ds[i]:=by simp[hi]
 obtain⟨x,x1,x3⟩:=r2.get e;refine⟨⟨xs,x,q2,x1⟩,λy H3 ⟨e3,hy⟩=>?_⟩;subst e3;have:=hy xs q2;rw[x1]at this;cases this;exact⟨ρ2,_,.refl,rfl,R2,e,x3⟩
def Az(m:ME):MI:=λls hd=>(m ls hd).bind λp=>(AX p.1).map λds=>((ds,[]),p.2)
def Qp{t:TE}{m:ME}(h:RE K t m):RIt K (N1 K t) (Az m):=by
 intro ρ σ H hd ls Q d g hd' hR hL hm hQ;obtain⟨⟨d1,h1⟩,e1,hm⟩:=fW hm;obtain⟨ds,e2,e3⟩:=fX hm;cases e3;refine h ρ σ H hd ls _ d1 _ hR hL e1 λρ1 H1 v x1 R1 r1=>?_;obtain⟨a,xs,rfl,q,r⟩:=r1.tup e2;exact⟨a,rfl,⟨xs,q⟩,hQ ρ1 H1 _ x1 R1 (AE _) (Oc R1 q r [])⟩
def Bu(m:ME):MI:=λls hd=>(m ls hd).bind λp=>match p.1 with
 |.mu n=>match p.2[n]? with
  |some (.lst ds)=>some ((ds,[(n,ds)]),p.2)
  |_=>none
 |.ro ns=>some ((ns.map λn=>.im (.int n),[]),p.2)
 |_=>none
def O2{t:TE}{m:ME}(h:RE K t m):RIt K (Fw K t) (Bu m):=by
 intro ρ σ H hd ls Q d g hd' hR hL hm hQ;obtain⟨⟨d1,h1⟩,e1,hm⟩:=fW hm;dsimp only at hm;split at hm
 .next n=>
  split at hm
  .next ds q=>
   cases hm;refine h ρ σ H hd ls _ _ _ hR hL e1 λρ1 H1 v x1 R1 r1=>?_;simp only[RD]at r1;obtain⟨a,hn,rfl⟩:=r1;obtain⟨xs,e2,e3⟩:=R1.lst hn q;refine⟨a,rfl,⟨xs,SqL.of e2⟩,hQ ρ1 H1 _ x1 R1 (λp z=>by simp at z;subst z;exact q) ?_⟩;intro ρ2 H2 hd2 x2 R2 G2 i;have q2:=G2 (n,d) (by simp);have hn2:ρ2[n]?=some a:=by
    obtain⟨r,rfl,_⟩:=x2.pre;rw[List.getElem?_append_left (List.getElem?_eq_some_iff.mp hn).1];exact hn
   obtain⟨ys,e4,e5⟩:=R2.lst hn2 q2;refine⟨λhi=>?_,λhi=>⟨ys,SqL.of e4,by rw[e5.len,hi];exact le_refl _⟩⟩;have e:d[i]?=some d[i]:=by simp[hi]
   obtain⟨x,y1,y2⟩:=e5.get e;refine⟨⟨ys,x,SqL.of e4,y1⟩,λy H3 ⟨e6,hy⟩=>?_⟩;subst e6;have:=hy ys (SqL.of e4);rw[y1]at this;cases this;exact⟨ρ2,_,.refl,rfl,R2,e,y2⟩
  .cases hm
 .next ns=>
  cases hm;refine h ρ σ H hd ls _ _ _ hR hL e1 λρ1 H1 v x1 R1 r1=>?_;simp only[RD]at r1;obtain⟨a,rfl,q⟩:=r1;refine⟨a,rfl,⟨_,q.sq⟩,hQ ρ1 H1 _ x1 R1 (AE _) ?_⟩;intro ρ2 H2 hd2 x2 R2 G2 i;have q2:=(q.grow (x2.grow R1)).sq;have e5:RDs K ρ2 H2 (ns.map λn=>.im (.int n)) (ns.map V.int):=Dd;refine⟨λhi=>?_,λhi=>⟨_,q2,by rw[e5.len,hi];exact le_refl _⟩⟩;have e:(ns.map λn=>D.im (.int n))[i]?=some ((ns.map λn=>D.im (.int n))[i]):=by simp[hi]
  obtain⟨x,y1,y2⟩:=e5.get e;refine⟨⟨_,x,q2,y1⟩,λy H3 ⟨e6,hy⟩=>?_⟩;subst e6;have:=hy _ q2;rw[y1]at this;cases this;exact⟨ρ2,_,.refl,rfl,R2,e,y2⟩
 .cases hm
def IX(ml:MA):MI:=λls hd=>(ml ls hd).map λp=>((p.1,[]),p.2)
def Yz{t:TE}{m:MA}(h:RN K t m):RIt K (Fw K t) (IX m):=by
 intro ρ σ H hd ls Q d g hd' hR hL hm hQ;obtain⟨⟨d1,h1⟩,e1,e3⟩:=fX hm;obtain⟨⟨rfl,rfl⟩,rfl⟩:=Prod.mk.inj e3 |>.imp Prod.mk.inj id;clear e3 hm;refine h ρ σ H hd ls _ _ _ hR hL e1 λρ1 H1 a xs x1 R1 na oa ea r1=>?_;refine⟨a,rfl,⟨xs,SqL.of ea⟩,hQ ρ1 H1 _ x1 R1 (AE _) ?_⟩;intro ρ2 H2 hd2 x2 R2 G2 i;have q2:SqL K H2 a xs:=SqL.of (x2.keep a _ ea oa nt);have r2:=r1.ext R1 x2;refine⟨λhi=>?_,λhi=>⟨xs,q2,by rw[r2.len,hi];exact le_refl _⟩⟩;have hi:i<d1.length:=hi;have e:d1[i]?=some d1[i]:=by simp[hi]
 obtain⟨x,y1,y2⟩:=r2.get e;refine⟨⟨xs,x,q2,y1⟩,λy H3 ⟨e6,hy⟩=>?_⟩;subst e6;have:=hy xs q2;rw[y1]at this;cases this;exact⟨ρ2,_,.refl,rfl,R2,e,y2⟩
def AT(lo:Int):Nat->List D
 |0=>[]
 |n+1=>.im (.int lo)::AT (lo+1) n
@[simp] theorem JM(lo:Int)(n:Nat):(AT lo n).length=n:=by
 induction n generalizing lo with
 |zero=>rfl
 |succ n ih=>simp[AT,ih]
def JN{n:Nat}:∀{lo:Int} {i:Nat},i<n->(AT lo n)[i]?=some (.im (.int (lo+i))):=by
 induction n with
 |zero=>intro lo i h;omega
 |succ n ih=>
  intro lo i h;cases i with
  |zero=>simp[AT]
  |succ i=>
   simp only[AT,List.getElem?_cons_succ];rw[ih (by omega)]
   congr 3
   push_cast
   omega
def Iq{lo:Int}{n:Nat}{g:Gd}:NR K ρ H (Itr lo n) (AT lo n) g:=by
 intro ρ2 H2 hd2 x2 R2 G2 i;refine⟨λhi=>?_,λhi=>by rw[hi,JM];exact le_refl _⟩;rw[JM]at hi;refine⟨hi,λx H3 ⟨e1,e2⟩=>?_⟩;subst e1 e2;exact⟨ρ2,_,.refl,rfl,R2,JN hi,by simp[RD,RI]⟩
open Classical in
def CH(m:MA):MI:=λls hd=>(m ls hd).bind λp=>match p.1 with
 |[.im (.int j)]=>if Fd j then some ((AT 0 j.toNat,[]),p.2)else none
 |_=>none
def WM{t:TA}{m:MA}(h:RA K t m):RIt K (Pj t) (CH m):=by
 intro ρ σ H hd ls Q d g hd' hR hL hm hQ;obtain⟨⟨d1,h1⟩,e1,hm⟩:=fW hm;dsimp only at hm;split at hm
 .next j=>
  split at hm
  .next c=>
   cases hm;refine h ρ σ H hd ls _ _ _ hR hL e1 λρ1 H1 v x1 R1 r1=>?_;simp only[RDs,RD,RI]at r1;obtain⟨x,r,rfl,rfl,rfl⟩:=r1;exact⟨j,rfl,c.1,c.2,hQ ρ1 H1 _ x1 R1 (AE _) Iq⟩
  .cases hm
 .cases hm
open Classical in
def HQ(m:MA):MI:=λls hd=>(m ls hd).bind λp=>match p.1 with
 |[.im (.int i),.im (.int j)]=>if P2 i j then some ((AT i (j-i).toNat,[]),p.2)else none
 |_=>none
def WK{t:TA}{m:MA}(h:RA K t m):RIt K (Pi t) (HQ m):=by
 intro ρ σ H hd ls Q d g hd' hR hL hm hQ;obtain⟨⟨d1,h1⟩,e1,hm⟩:=fW hm;dsimp only at hm;split at hm
 .next i j=>
  split at hm
  .next c=>
   cases hm;refine h ρ σ H hd ls _ _ _ hR hL e1 λρ1 H1 v x1 R1 r1=>?_;simp only[RDs,RD,RI]at r1;obtain⟨x,r,rfl,rfl,y,r2,rfl,rfl,rfl⟩:=r1;exact⟨i,j,rfl,⟨c.1.1,c.1.2,c.2.1,c.2.2⟩,hQ ρ1 H1 _ x1 R1 (AE _) Iq⟩
  .cases hm
 .cases hm
open Classical in
def BZ(n:MG)(b:MS)(g:Gd):List D->Ls->Hd->Option (Fl×Hd)
 |[],ls,hd=>some (.nx ls,hd)
 |d::r,ls,hd=>(n d ls hd).bind λls1=>(b ls1 hd).bind λp=>match p.1 with
  |.nx ls2=>if GOk p.2 g then BZ n b g r ls2 p.2 else none
  |.ct ls2=>if GOk p.2 g then BZ n b g r ls2 p.2 else none
  |.bk ls2=>some (.nx ls2,p.2)
  |.rt d=>some (.rt d,p.2)
def BS(mi:MI)(n:MG)(b:MS):MS:=λls hd=>(mi ls hd).bind λp=>BZ n b p.1.2 p.1.1 ls p.2
def Yr{wi:TI}{g:TG}{tb:TS}{mi:MI}{n:MG}{b:MS}(hi:RIt K wi mi)(hg:RGt K g n)(hb:RS K tb b):RS K (T3 wi g tb) (BS mi n b):=by
 intro ρ σ H hd ls E f hd' hR hL hm hQ;obtain⟨⟨⟨ds,gd⟩,h1⟩,e1,hm⟩:=fW hm;refine hi ρ σ H hd ls _ ds gd h1 hR hL e1 λρ1 H1 J x1 R1 G1 Y=>?_;dsimp only at hm;refine⟨λi m σ2 H2=>m=ds.length-i/\i<=ds.length/\∃ρ2 ls2 hd2,Ext ρ1 H1 ρ2 H2/\RH K ρ2 H2 hd2/\RL K ρ2 H2 ls2 σ2/\GOk hd2 gd/\BZ n b gd (ds.drop i) ls2 hd2=some (f,hd'),
  ⟨ds.length,by simp,zero_le _,ρ1,ls,h1,.refl,R1,hL.ext hR x1,G1,by simpa using hm⟩,?_⟩
 rintro i m σ2 H2 ⟨rfl,hi,ρ2,ls2,hd2,x2,R2,L2',G2,hm2⟩;obtain⟨Y1,Y2⟩:=Y ρ2 H2 hd2 x2 R2 G2 i;by_cases hlt:i<ds.length
 .obtain⟨go,Y1⟩:=Y1 hlt;have ed:ds.drop i=ds[i]::ds.drop (i+1):=drop_eq_getElem_cons hlt;rw[ed]at hm2;unfold BZ at hm2;obtain⟨ls3,e3,hm2⟩:=fW hm2;obtain⟨⟨fl,hd4⟩,e4,hm2⟩:=fW hm2;refine .inr ⟨go,λσ' H'=>∃ρ2 ls2 hd2,Ext ρ1 H1 ρ2 H'/\RH K ρ2 H' hd2/\RL K ρ2 H' ls2 σ'/\GOk hd2 gd/\BZ n b gd (ds.drop (i+1)) ls2 hd2=some (f,hd'),λσ' H' z=>⟨ds.length-(i+1),by omega,rfl,hlt,z⟩,λx H3 y=>?_⟩;obtain⟨ρ3,d3,x3,rfl,R3,e5,r3⟩:=Y1 x H3 y;have e6:d3=ds[i]:=by
   have:ds[i]?=some ds[i]:=by simp[hlt]
   rw[this]at e5;exact(Option.some.inj e5).symm
  subst e6;refine hg ρ3 σ2 H3 hd2 ls2 ls3 _ x _ R3 (L2'.ext R2 x3) r3 e3 λσ4 L4=>?_;refine hb ρ3 σ4 H3 hd2 ls3 _ fl hd4 R3 L4 e4 λρ5 H5 x5 R5=>?_;have x15:=(x2.trans R2 x3).trans R3 x5;cases fl with
  |nx ls5=>
   intro σ5 L5;dsimp only at hm2;split at hm2
   .next c=>exact⟨ρ5,ls5,hd4,x15,R5,L5,c,hm2⟩
   .cases hm2
  |ct ls5=>
   intro σ5 L5;dsimp only at hm2;split at hm2
   .next c=>exact⟨ρ5,ls5,hd4,x15,R5,L5,c,hm2⟩
   .cases hm2
  |bk ls5=>
   intro σ5 L5;cases hm2;exact hQ ρ5 H5 (x1.trans R1 x15) R5 σ5 L5
  |rt d5=>
   intro v5 r5;cases hm2;exact hQ ρ5 H5 (x1.trans R1 x15) R5 v5 r5
 .have e:i=ds.length:=by omega
  subst e;rw[List.drop_length]at hm2;unfold BZ at hm2;cases hm2;exact .inl ⟨Y2 rfl,hQ ρ2 H2 (x1.trans R1 x2) R2 σ2 L2'⟩
open Classical in
def B5(n:MG)(c:MT)(m:ME)(g:Gd):List D->Ls->Hd->Option (List D×Hd)
 |[],_,hd=>some ([],hd)
 |d::r,ls,hd=>(n d ls hd).bind λls1=>(c ls1 hd).bind λp=>if p.1=true then(m ls1 p.2).bind λq=>if GOk q.2 g then(B5 n c m g r ls1 q.2).map λz=>(q.1::z.1,z.2)else none else if GOk p.2 g then B5 n c m g r ls1 p.2 else none
def Cj(k:Nat)(ix:List Nat)(ls:Ls):Ls:=List.replicate k none++ix.map λi=>(ls[i]?).join
open Classical in
def Ab(k:Nat)(ix:List Nat)(mi:MI)(n:MG)(c:MT)(m:ME):MA:=λls hd=>(mi ls hd).bind λp=>if BT p.1.1.length then B5 n c m p.1.2 p.1.1 (Cj k ix ls) p.2 else none
def OX{k:Nat}{ix:List Nat}{ls:Ls}{σ:St}(h:RL K ρ H ls σ):RL K ρ H (Cj k ix ls) (GA k ix σ):=by
 refine⟨by simp[Cj,GA],λi d e=>?_⟩;unfold Cj at e;unfold GA;by_cases hi:i<k
 .rw[List.getElem?_append_left (by simpa using hi),List.getElem?_replicate]at e;split at e<;>cases e
 .have hi':k<=i:=not_lt.mp hi;rw[List.getElem?_append_right (by simpa using hi'),List.length_replicate,List.getElem?_map]at e ⊢;cases q:ix[i-k]? with
  |none=>rw[q]at e;cases e
  |some j=>
   rw[q]at e;simp only[map_some,Option.some.injEq]at e ⊢;have e5:ls[j]?=some (some d):=by
    cases w:ls[j]? with
    |none=>rw[w]at e;cases e
    |some z=>rw[w]at e;simpa using e
   obtain⟨v,e6,e7⟩:=h.ob j d e5;exact⟨v,by rw[e6];rfl,e7⟩
def O1{k:Nat}{ix:List Nat}{wi:TI}{g:TG}{tf:TT}{te:TE}{mi:MI}{n:MG}{c:MT}{m:ME}(hi:RIt K wi mi)(hg:RGt K g n)(hf:RT K tf c)(he:RE K te m):RN K (Fa k ix wi g tf te) (Ab k ix mi n c m):=by
 intro ρ σ H hd ls Q out hd' hR hL hm hQ;obtain⟨⟨⟨ds,gd⟩,h1⟩,e1,hm⟩:=fW hm;dsimp only at hm;split at hm
 .next hlen=>
  have hlen:ds.length<=sizeLine:=hlen;refine hi ρ σ H hd ls _ ds gd h1 hR hL e1 λρ1 H1 J x1 R1 G1 Y=>?_;intro Da hDa;obtain⟨R1',x1'⟩:=R1.hid (ho:=.lst []) hDa;have oD:Da∉ρ1:=R1.out hDa;have nD:H Da=none:=x1.none hR hDa R1;refine⟨λi mm σ2 ys H2=>mm=ds.length-i/\i<=ds.length/\∃ρ2 ls2 hd2 es rest,Ext ρ1 (upd H1 Da (.lst ys)) ρ2 H2/\Ext ρ1 H1 ρ2 H2/\Da∉ρ2/\H2 Da=some (.lst ys)/\RH K ρ2 H2 hd2/\RL K ρ2 H2 ls2 σ2/\RDs K ρ2 H2 es ys/\es.length<=i/\GOk hd2 gd/\B5 n c m gd (ds.drop i) ls2 hd2=some (rest,hd')/\out=es++rest,
   ⟨ds.length,by simp,zero_le _,ρ1,_,h1,[],out,.refl,x1',oD,AI,R1',(OX ((hL.ext hR x1).ext R1 x1')),.nil,le_refl _,G1,by simpa using hm,rfl⟩,?_⟩
  rintro i mm σ2 ys H2 ⟨rfl,hi,ρ2,ls2,hd2,es,rest,x2',x2,oD2,hD2,R2,L2',r2,hle,G2,hm2,rfl⟩;refine⟨hD2,?_⟩;obtain⟨Y1,Y2⟩:=Y ρ2 H2 hd2 x2 R2 G2 i;by_cases hlt:i<ds.length
  .obtain⟨go,Y1⟩:=Y1 hlt;have ed:ds.drop i=ds[i]::ds.drop (i+1):=drop_eq_getElem_cons hlt;rw[ed]at hm2;unfold B5 at hm2;obtain⟨ls3,e3,hm2⟩:=fW hm2;obtain⟨⟨bb,hd4⟩,e4,hm2⟩:=fW hm2;refine .inr ⟨go,Nat.lt_of_le_of_lt (by rw[r2.len];exact hle) (by omega),λσ' ys' H'=>∃ρ2 ls2 hd2 es' rest',Ext ρ1 (upd H1 Da (.lst ys')) ρ2 H'/\Ext ρ1 H1 ρ2 H'/\Da∉ρ2/\H' Da=some (.lst ys')/\RH K ρ2 H' hd2/\RL K ρ2 H' ls2 σ'/\RDs K ρ2 H' es' ys'/\es'.length<=i+1/\GOk hd2 gd/\B5 n c m gd (ds.drop (i+1)) ls2 hd2=some (rest',hd')/\es++rest=es'++rest',λσ' ys' H' z=>⟨ds.length-(i+1),by omega,rfl,hlt,z⟩,λx H3 y=>?_⟩;obtain⟨ρ3,d3,x3,rfl,R3,e5,r3⟩:=Y1 x H3 y;have e6:d3=ds[i]:=by
    have:ds[i]?=some ds[i]:=by simp[hlt]
    rw[this]at e5;exact(Option.some.inj e5).symm
   subst e6;refine hg ρ3 σ2 H3 hd2 ls2 ls3 _ x _ R3 (L2'.ext R2 x3) r3 e3 λσ4 L4=>?_;refine hf ρ3 σ4 H3 hd2 ls3 _ bb hd4 R3 L4 e4 λρ5 H5 x5 R5=>?_;have hD5:H5 Da=some (.lst ys):=x5.keep Da _ (x3.keep Da _ hD2 oD2 nt) oD2 nt;have out5:Da∉ρ5:=by
    obtain⟨r,rfl,fr⟩:=x5.pre;intro z;rcases mem_append.mp z with z|z
    .exact oD2 z
    .have:=fr _ z;rw[x3.keep Da _ hD2 oD2 nt]at this;cases this
   cases bb with
   |false=>
    rw[if_neg Bool.false_ne_true]at hm2 ⊢;have y25:=x3.trans R3 x5;split at hm2
    .next g5=>exact⟨ρ5,ls3,hd4,es,rest,x2'.trans R2 y25,(x2.trans R2 y25),out5,hD5,R5,L4.ext R3 x5,(r2.ext R2 y25),by omega,g5,hm2,rfl⟩
    .cases hm2
   |true=>
    rw[if_pos rfl]at hm2 ⊢;obtain⟨⟨z,hd6⟩,e6,hm2⟩:=fW hm2;obtain⟨g6,hm2⟩:GOk hd6 gd/\((B5 n c m gd (ds.drop (i+1)) ls3 hd6).map λq=>(z::q.1,q.2))=some (rest,hd'):=by
     dsimp only at hm2;split at hm2
     .next g6=>exact⟨g6,hm2⟩
     .cases hm2
    obtain⟨⟨zs,hd7⟩,e7,e8⟩:=fX hm2;cases e8;refine he ρ5 σ4 H5 hd4 ls3 _ z hd6 R5 (L4.ext R3 x5) e6 λρ6 H6 v6 x6 R6 r6=>?_;have hD6:H6 Da=some (.lst ys):=x6.keep Da _ hD5 out5 nt;have out6:Da∉ρ6:=by
     obtain⟨r,rfl,fr⟩:=x6.pre;intro z;rcases mem_append.mp z with z|z
     .exact out5 z
     .have:=fr _ z;rw[hD5]at this;cases this
    refine⟨hD6,?_⟩;have y26:=(x3.trans R3 x5).trans R5 x6;have gr:Grow H6 (upd H6 Da (.lst (ys++[v6]))):=Grow.refl.put (.lst hD6);have R7:=R6.hput (ho:=.lst (ys++[v6])) out6 hD6;have x12:=x2.trans R2 y26;have ext7:Ext ρ1 H1 ρ6 (upd H6 Da (.lst (ys++[v6]))):=⟨x12.pre,λb o q nb t=>by
     have:b≠Da:=AV q hDa;rw[upd_ne this];exact x12.keep b o q nb t,λb ps q=>by
     have:b≠Da:=AV q hDa;rw[upd_ne this];exact x12.tab b ps q⟩
    have ext8:Ext ρ1 (upd H1 Da (.lst (ys++[v6]))) ρ6 (upd H6 Da (.lst (ys++[v6]))):=by
     obtain⟨r,er,fr⟩:=x12.pre;refine⟨⟨r,er,λb hb=>?_⟩,λb o q nb t=>?_,λb ps q=>?_⟩
     .have:b≠Da:=λz=>out6 (by rw[er,<- z];exact mem_append_right _ hb);rw[upd_ne this];exact fr b hb
     .by_cases hb:b=Da
      .subst hb;rw[AI]at q ⊢;exact q
      .rw[upd_ne hb]at q ⊢;exact x12.keep b o q nb t
     .by_cases hb:b=Da
      .subst hb;rw[AI]at q;cases q
      .rw[upd_ne hb]at q ⊢;exact x12.tab b ps q
    refine⟨ρ6,ls3,hd6,es++[z],zs,ext8,ext7,out6,AI,R7,?_,?_,by simp;omega,g6,e7,by simp⟩
    .have L6:=(L4.ext R3 x5).ext R5 x6;exact⟨L6.len,λi d e=>let ⟨v,a,b⟩:=L6.ob i d e;⟨v,a,by simpa using b.mono gr []⟩⟩
    .have:=((r2.ext R2 y26).app (.cons r6 .nil)).mono gr [];simpa using this
  .have e:i=ds.length:=by omega
   subst e;rw[List.drop_length]at hm2;unfold B5 at hm2;cases hm2;refine .inl ⟨Y2 rfl,?_⟩;exact hQ ρ2 H2 Da ys (x1.trans R1 x2) R2 nD oD2 hD2 (by simpa using r2)
 .cases hm
end
mutual
def clD(w:Nat):D->Bool
 |.im _=>true
 |.mu n=>decide (n<w)
 |.tm ds=>Ap w ds
 |.ro _=>true
def Ap(w:Nat):List D->Bool
 |[]=>true
 |d::ds=>clD w d&&Ap w ds
end
def Bz(w:Nat):List (Key×D)->Bool
 |[]=>true
 |d::ds=>clD w d.2&&Bz w ds
def clO(w:Nat):MO->Bool
 |.lst ds=>Ap w ds
 |.dic ds=>Bz w ds
section
variable{K:PySem.W.Frag}{ρ ρ' ρ1:List Addr}{H H' H1:Hp}{hd hd' h1 h2:Hd}
@[simp] theorem df{w:Nat}(a b:List D):Ap w (a++b)=(Ap w a&&Ap w b):=by induction a<;>simp_all [Ap,Bool.and_assoc]
mutual
def RD.take(w:Nat):∀{d:D} {v:V},RD K ρ H d v->clD w d=true->RD K (ρ.take w) H d v
 |.im i,v,h,_=>by simp only[RD]at h ⊢;exact h
 |.mu n,v,h,c=>by
  simp only[RD]at h ⊢;obtain⟨a,e,q⟩:=h;exact⟨a,by rw[List.getElem?_take_of_lt (by simpa [clD]using c)];exact e,q⟩
 |.tm ds,v,h,c=>by
  simp only[RD]at h ⊢;obtain⟨a,xs,e,q,z⟩:=h;exact⟨a,xs,e,q,RDs.take' w z (by simpa [clD]using c)⟩
 |.ro ns,v,h,c=>by simp only[RD]at h ⊢;exact h
def RDs.take'(w:Nat):∀{d:List D} {v:List V},RDs K ρ H d v->Ap w d=true->RDs K (ρ.take w) H d v
 |[],v,h,_=>by simpa only[RDs]using h
 |d::ds,v,h,c=>by
  simp only[RDs]at h ⊢;obtain⟨x,r',e,q,z⟩:=h;have c:clD w d=true/\Ap w ds=true:=by simpa [Ap]using c
  exact⟨x,r',e,q.take w c.1,RDs.take' w z c.2⟩
end
def RKs.take(w:Nat):∀{d:List (Key×D)} {v:List (Key×V)},RKs K ρ H d v->Bz w d=true->RKs K (ρ.take w) H d v
 |[],v,h,_=>by simpa only[RKs]using h
 |d::ds,v,h,c=>by
  simp only[RKs]at h ⊢;obtain⟨x,r',e,q1,q,z⟩:=h;have c:clD w d.2=true/\Bz w ds=true:=by simpa [Bz]using c
  exact⟨x,r',e,q1,q.take w c.1,RKs.take w z c.2⟩
def RC.take(w:Nat){o:MO}{ho:HO}(h:RC K ρ H o ho)(c:clO w o=true):RC K (ρ.take w) H o ho:=by
 cases o with
 |lst ds=>obtain⟨xs,e,q⟩:=h;exact⟨xs,e,q.take' w c⟩
 |dic ds=>obtain⟨xs,e,q⟩:=h;exact⟨xs,e,q.take w c⟩
def RH.take(h:RH K ρ H hd)(w:Nat)(c:(hd.take w).all (clO w)=true):RH K (ρ.take w) H (hd.take w):=by
 refine⟨by simp[h.len],h.nd.sublist (List.take_sublist _ _),h.tabs,λn o a e1 e2=>?_⟩;have co:=all_eq_true.mp c o (mem_of_getElem? e1);have hn:n<w:=by
  have:=(List.getElem?_eq_some_iff.mp e1).1;simp at this;omega
 rw[List.getElem?_take_of_lt hn]at e1 e2;obtain⟨ho,q1,q2⟩:=h.ob n o a e1 e2;exact⟨ho,q1,q2.take w co⟩
def RH.back(R1:RH K ρ1 H1 h1){w:Nat}(hw:w<=h1.length)(c1:(h1.take w).all (clO w)=true)(x:Ext (ρ1.take w) H1 ρ' H')(R':RH K ρ' H' h2)(c:(h2.take w).all (clO w)=true):
 RH K ρ1 H' (h2.take w++h1.drop w)/\Ext ρ1 H1 ρ1 H'/\ρ'.take w=ρ1.take w:=by
 obtain⟨r,rfl,fr⟩:=x.pre;have lw:(ρ1.take w).length=w:=by rw[length_take,R1.len];omega
 have l2:w<=h2.length:=by rw[<- R'.len];simp[lw]
 have tk:(ρ1.take w++r).take w=ρ1.take w:=by rw[List.take_append_of_le_length (by omega),List.take_take];simp
 refine⟨⟨?_,R1.nd,R'.tabs,λn o a e1 e2=>?_⟩,⟨⟨[],by simp,by simp⟩,λb o q nb t=>x.keep b o q (λm=>nb (List.mem_of_mem_take m)) t,x.tab⟩,tk⟩
 .rw[length_append,length_take,length_drop,R1.len];omega
 .by_cases hn:n<w
  .rw[List.getElem?_append_left (by rw[length_take];omega),List.getElem?_take_of_lt hn]at e1;have e3:(ρ1.take w++r)[n]?=some a:=by
    rw[List.getElem?_append_left (by omega),List.getElem?_take_of_lt hn];exact e2
   obtain⟨ho,q1,q2⟩:=R'.ob n o a e1 e3;have co:=all_eq_true.mp c o (by
    have:(h2.take w)[n]?=some o:=by rw[List.getElem?_take_of_lt hn];exact e1
    exact mem_of_getElem? this)
   have q3:=q2.take w co;rw[tk]at q3;have q4:=q3.mono (Grow.refl (H:=H')) (ρ1.drop w);rw[List.take_append_drop]at q4;exact⟨ho,q1,q4⟩
  .rw[List.getElem?_append_right (by rw[length_take];omega),length_take,List.getElem?_drop]at e1;have e1:h1[n]?=some o:=by
    have:w+(n-min w h2.length)=n:=by omega
    rw[this]at e1;exact e1
   obtain⟨ho,q1,q2⟩:=R1.ob n o a e1 e2;have out:a∉ρ1.take w:=λm=>by
    obtain⟨k,hk⟩:=mem_iff_getElem?.mp m;have kw:k<w:=by
     have:=(List.getElem?_eq_some_iff.mp hk).1;rw[lw]at this;exact this
    rw[List.getElem?_take_of_lt kw]at hk;have:=(List.getElem?_inj (List.getElem?_eq_some_iff.mp e2).1 R1.nd).mp (e2.trans hk.symm);omega
   have gr:=x.grow (R1.take w c1);exact⟨ho,x.keep a ho q1 out (λps z=>by rcases R1.mut (mem_of_getElem? e2)with⟨y,w⟩|⟨y,w⟩<;>(rw[q1,z]at w;cases w)),by simpa using q2.mono gr []⟩
def spF(K:PySem.W.Frag)(k:Nat)(F:List D->Hd->Option (D×Hd)):Sp:=λvs H Q _=>vs.length=k/\∃(ρ:List Addr) (hd:Hd) (ds:List D) (d:D) (hd':Hd),RH K ρ H hd/\RDs K ρ H ds vs/\F ds hd=some (d,hd')/\
 ∀ρ' H' v,Ext ρ H ρ' H'->RH K ρ' H' hd'->RD K ρ' H' d v->Q v H'
def mkF(k n:Nat)(m:MS):List D->Hd->Option (D×Hd):=λds hd=>if ds.length=k then(match m (ds.map some++List.replicate (n-k) none) hd with
 |some (.rt d,hd')=>some (d,hd')
 |some (.nx _,hd')=>some (.im .non,hd')
 | _=>none)else none
def MX{N:List Str}:∀{ds:List D} {vs:List V},RDs K ρ H ds vs->RL K ρ H (ds.map some++List.replicate (N.length-ds.length) none) (start N vs):=by
 intro ds vs r;have hl:=r.len;refine⟨by simp[start,hl],λi d e=>?_⟩;unfold start;by_cases hi:i<ds.length
 .rw[List.getElem?_append_left (by simpa using hi),List.getElem?_map]at e;have e':ds[i]?=some d:=by
   cases q:ds[i]? with
   |none=>rw[q]at e;cases e
   |some z=>rw[q]at e;simpa using e
  obtain⟨x,x1,x2⟩:=r.get e';exact⟨x,by rw[List.getElem?_append_left (by rw[length_map,hl];exact hi),List.getElem?_map,x1];rfl,x2⟩
 .rw[List.getElem?_append_right (by simpa using not_lt.mp hi),List.getElem?_replicate]at e;split at e<;>cases e
def Nr{k:Nat}{N:List Str}{m:MS}{t:TS}(h:RS K t m){vs:List V}{H:Hp}{Q:VK}{E:XK}(s:spF K k (mkF k N.length m) vs H Q E):t { nx:=λ_ H'=>Q .non H',rt:=Q } (start N vs) H:=by
 obtain⟨hk,ρ,hd,ds,d,hd',hR,hr,hF,hQ⟩:=s;unfold mkF at hF;split at hF
 .next hl=>
  subst hl;split at hF
  .next q=>
   cases hF;exact h ρ _ H hd _ _ _ _ hR (MX hr) q λρ' H' x R v r=>hQ ρ' H' v x R r
  .next q=>
   cases hF;exact h ρ _ H hd _ _ _ _ hR (MX hr) q λρ' H' x R σ L=>hQ ρ' H' .non x R (by simp[RD,RI])
  .cases hF
 .cases hF
def CA(F:List D->Hd->Option (D×Hd))(ma:MA):ME:=λls hd=>(ma ls hd).bind λp=>F p.1 p.2
def Th{k:Nat}{F:List D->Hd->Option (D×Hd)}{t:TA}{m:MA}(h:RA K t m)(hk:∀ds hd z,F ds hd=some z->ds.length=k):RE K (C2 (spF K k F) [] E0 t) (CA F m):=by
 and_intros;obtain⟨⟨d1,h1⟩,e1,hm⟩:=fW hm;refine h ρ σ H hd ls _ d1 h1 hR hL e1 λρ1 H1 v1 x1 R1 r1=>?_;rw[append_nil];exact⟨by rw[r1.len];exact hk _ _ _ hm,ρ1,h1,d1,d,hd',R1,r1,hm,λρ' H' w x2 R2 r2=>hQ ρ' H' w (x1.trans R1 x2) R2 r2⟩
def OC{k n:Nat}{m:MS}:∀ds hd z,mkF k n m ds hd=some z->ds.length=k:=λds hd z h=>by
 unfold mkF at h;split at h
 .next e=>exact e
 .cases h
def fin(w:Nat)(d:D)(h2 rest:Hd):Option (D×Hd):=if(h2.take w).all (clO w)=true then(match d with
 | .mu k=>if k<w then some (.mu k,h2.take w++rest)else(match h2[k]? with
  |some (.lst ds)=>if Ap w ds=true then some (.mu (w+rest.length),h2.take w++rest++[.lst ds])else none
  | _=>none)
 | d=>if clD w d=true then some (d,h2.take w++rest)else none)else none
def AC(w:Nat)(F:List D->Hd->Option (D×Hd))(ma:MA):ME:=λls hd=>(ma ls hd).bind λp=>
 if w<=p.2.length/\Ap w p.1=true/\(p.2.take w).all (clO w)=true then(F p.1 (p.2.take w)).bind λr=>fin w r.1 r.2 (p.2.drop w)else none
def MZ{w k:Nat}{F:List D->Hd->Option (D×Hd)}{t:TA}{m:MA}(h:RA K t m)(hk:∀ds hd z,F ds hd=some z->ds.length=k):RE K (C2 (spF K k F) [] E0 t) (AC w F m):=by
 and_intros;obtain⟨⟨d1,h1⟩,e1,hm⟩:=fW hm;dsimp only at hm;split at hm
 .next c=>
  obtain⟨c0,c1,c2⟩:=c;obtain⟨⟨d2,h2⟩,e2,hm⟩:=fW hm;refine h ρ σ H hd ls _ d1 h1 hR hL e1 λρ1 H1 v1 x1 R1 r1=>?_;rw[append_nil];refine⟨by rw[r1.len];exact hk _ _ _ e2,ρ1.take w,h1.take w,d1,d2,h2,R1.take w c2,r1.take' w c1,e2,λρ' H' v x2 R2 r2=>?_⟩;unfold fin at hm;dsimp only at hm;split at hm
  .next c3=>
   obtain⟨R3,x3,tk⟩:=R1.back c0 c2 x2 R2 c3;have up:∀{d:D} {v:V},RD K ρ' H' d v->clD w d=true->RD K ρ1 H' d v:=λr c=>by
    have q:=r.take w c;rw[tk]at q;have q:=q.mono (Grow.refl (H:=H')) (ρ1.drop w);rw[List.take_append_drop]at q;exact q
   have ups:∀{d:List D} {v:List V},RDs K ρ' H' d v->Ap w d=true->RDs K ρ1 H' d v:=λr c=>by
    have q:=r.take' w c;rw[tk]at q;have q:=q.mono (Grow.refl (H:=H')) (ρ1.drop w);rw[List.take_append_drop]at q;exact q
   split at hm
   .next k'=>
    split at hm
    .next hk'=>
     cases hm;exact hQ ρ1 H' v (x1.trans R1 x3) R3 (up r2 (by simpa [clD]using hk'))
    .next hk'=>
     split at hm
     .next ds q=>
      split at hm
      .next c4=>
       cases hm;simp only[RD]at r2;obtain⟨a,ea,rfl⟩:=r2;obtain⟨xs,l1,l2⟩:=R2.lst ea q;have len3:=R3.len;have out:a∉ρ1:=λm=>by
        -- a is one of those made behind the first w
        obtain⟨r,er,fr⟩:=x2.pre;have lw:(ρ1.take w).length=w:=by rw[length_take,R1.len];omega
        have ma:a∈r:=by
         rw[er,List.getElem?_append_right (by rw[lw];omega)]at ea;exact mem_of_getElem? ea
        exact R1.out (fr a ma) m
       have na:H1 a=none:=by
        obtain⟨r,er,fr⟩:=x2.pre;have lw:(ρ1.take w).length=w:=by rw[length_take,R1.len];omega
        have ma:a∈r:=by
         rw[er,List.getElem?_append_right (by rw[lw];omega)]at ea;exact mem_of_getElem? ea
        exact fr a ma
       refine hQ (ρ1++[a]) H' _ (x1.trans R1 (x3.name na)) (R3.name out l1 (ups l2 c4)) ?_;simp only[RD];refine⟨a,?_,rfl⟩;have:w+(List.drop w h1).length=ρ1.length:=by rw[length_drop,R1.len];omega
       rw[this];simp
      .cases hm
     .cases hm
   .next d' nd=>
    split at hm
    .next c4=>cases hm;exact hQ ρ1 H' v (x1.trans R1 x3) R3 (up r2 c4)
    .cases hm
  .cases hm
 .cases hm
def B2(c:MT)(b:MS):Nat->Ls->Hd->Option (Fl×Hd)
 |0,_,_=>none
 | k+1,ls,hd=>(c ls hd).bind λp=>if p.1=true then(b ls p.2).bind λq=>(match q.1 with
  |.nx ls2=>B2 c b k ls2 q.2
  |.ct ls2=>B2 c b k ls2 q.2
  |.bk ls2=>some (.nx ls2,q.2)
  | .rt d=>some (.rt d,q.2))else some (.nx ls,p.2)
open Classical in
def Cs(c:MT)(b:MS):MS:=λls hd=>if h:∃r k,B2 c b k ls hd=some r then some h.choose else none
def Dh{c:MT}{b:MS}:∀{k j:Nat} {ls:Ls} {hd:Hd} {r:Fl×Hd},B2 c b k ls hd=some r->k<=j->B2 c b j ls hd=some r
 |0,_,_,_,_,h,_=>by cases h
 |k+1,0,_,_,_,_,hj=>by omega
 |k+1,j+1,ls,hd,r,h,hj=>by
  unfold B2 at h ⊢;obtain⟨p,e1,h⟩:=fW h;rw[e1];show(if p.1=true then _ else _)=_;split at h
  .next c=>
   rw[if_pos c];obtain⟨q,e2,h⟩:=fW h;rw[e2];obtain⟨f,hd2⟩:=q;cases f with
   |nx ls2=>exact Dh h (by omega)
   |ct ls2=>exact Dh h (by omega)
   |bk ls2=>exact h
   |rt d=>exact h
  .next c=>rw[if_neg c];exact h
def Kp{c:MT}{b:MS}{k:Nat}{ls:Ls}{hd:Hd}{r:Fl×Hd}(h:B2 c b k ls hd=some r):Cs c b ls hd=some r:=by
 unfold Cs;have ex:∃r k,B2 c b k ls hd=some r:=⟨r,k,h⟩
 rw[dif_pos ex];obtain⟨j,e⟩:=ex.choose_spec;have e1:=Dh e (Nat.le_max_left j k);have e2:=Dh h (Nat.le_max_right j k);rw[e1]at e2;exact e2
def TQ{tc:TT}{tb:TS}{c:MT}{b:MS}(hc:RT K tc c)(hb:RS K tb b):RS K (M2 tc tb) (Cs c b):=by
 intro ρ σ H hd ls E f hd' hR hL hm hQ;obtain⟨k,hk⟩:∃k,B2 c b k ls hd=some (f,hd'):=by
  unfold Cs at hm;split at hm
  .next ex=>
   obtain⟨j,e⟩:=ex.choose_spec;exact⟨j,by rw[e];exact hm⟩
  .cases hm
 refine⟨λm σ2 H2=>∃ρ2 ls2 hd2,Ext ρ H ρ2 H2/\RH K ρ2 H2 hd2/\RL K ρ2 H2 ls2 σ2/\B2 c b m ls2 hd2=some (f,hd'),⟨k,ρ,ls,hd,.refl,hR,hL,hk⟩,?_⟩;rintro m σ2 H2 ⟨ρ2,ls2,hd2,x2,R2,L2',hm2⟩;cases m with
 |zero=>cases hm2
 |succ m=>
  unfold B2 at hm2;obtain⟨⟨bb,hd3⟩,e1,hm2⟩:=fW hm2;refine hc ρ2 σ2 H2 hd2 ls2 _ bb hd3 R2 L2' e1 λρ3 H3 x3 R3=>?_;cases bb with
  |false=>
   rw[if_neg Bool.false_ne_true]at hm2 ⊢;cases hm2;exact hQ ρ3 H3 (x2.trans R2 x3) R3 σ2 (L2'.ext R2 x3)
  |true=>
   rw[if_pos rfl]at hm2 ⊢;obtain⟨⟨fl,hd4⟩,e2,hm2⟩:=fW hm2;refine⟨λσ' H'=>∃ρ2 ls2 hd2,Ext ρ H ρ2 H'/\RH K ρ2 H' hd2/\RL K ρ2 H' ls2 σ'/\B2 c b m ls2 hd2=some (f,hd'),λσ' H' z=>⟨m,Nat.lt_succ_self m,z⟩,?_⟩;refine hb ρ3 σ2 H3 hd3 ls2 _ fl hd4 R3 (L2'.ext R2 x3) e2 λρ5 H5 x5 R5=>?_;have x15:=(x2.trans R2 x3).trans R3 x5;cases fl with
   |nx ls5=>intro σ5 L5;exact⟨ρ5,ls5,hd4,x15,R5,L5,hm2⟩
   |ct ls5=>intro σ5 L5;exact⟨ρ5,ls5,hd4,x15,R5,L5,hm2⟩
   |bk ls5=>intro σ5 L5;cases hm2;exact hQ ρ5 H5 x15 R5 σ5 L5
   |rt d5=>intro v5 r5;cases hm2;exact hQ ρ5 H5 x15 R5 v5 r5
def BQ(kvs:List (Key×D))(k:Key):Option D:=(kvs.find? λkv=>decide (kv.1=k)).map (·.2)
def Cn(kvs:List (Key×D))(k:Key)(v:D):List (Key×D):=
 if(kvs.any λkv=>decide (kv.1=k))=true then kvs.map (λkv=>if kv.1=k then(kv.1,v)else kv)else kvs++[(k,v)]
def RKs.val:∀{kvs:List (Key×D)} {xs:List (Key×V)} {k:Key} {d:D},RKs K ρ H kvs xs->BQ kvs k=some d->∃v,DW xs k=some v/\RD K ρ H d v
 |[],xs,k,d,h,e=>by simp[BQ]at e
 |p::kvs,xs,k,d,h,e=>by
  simp only[RKs]at h;obtain⟨x,r,rfl,e1,r1,r2⟩:=h;by_cases hk:p.1=k
  .rw[EN (e1.trans hk)];simp[BQ,find?_cons,hk]at e;subst e;exact⟨_,rfl,r1⟩
  .rw[EO (by rw[e1];exact hk)];simp only[BQ,find?_cons,hk,decide_false]at e;exact RKs.val r2 e
def RKs.valN:∀{kvs:List (Key×D)} {xs:List (Key×V)} {k:Key},RKs K ρ H kvs xs->(DW xs k).isSome=(BQ kvs k).isSome
 |[],xs,k,h=>by simp only[RKs]at h;subst h;rfl
 |p::kvs,xs,k,h=>by
  simp only[RKs]at h;obtain⟨x,r,rfl,e1,r1,r2⟩:=h;by_cases hk:p.1=k
  .rw[EN (e1.trans hk)];simp[BQ,find?_cons,hk]
  .rw[EO (by rw[e1];exact hk)];simp only[BQ,find?_cons,hk,decide_false];exact RKs.valN r2
def RKs.any:∀{kvs:List (Key×D)} {xs:List (Key×V)} {k:Key},RKs K ρ H kvs xs->(xs.any λkv=>decide (kv.1=k))=(kvs.any λkv=>decide (kv.1=k))
 |[],xs,k,h=>by simp only[RKs]at h;subst h;rfl
 |p::kvs,xs,k,h=>by
  simp only[RKs]at h;obtain⟨x,r,rfl,e1,r1,r2⟩:=h;simp only[any_cons,e1,RKs.any r2]
def RKs.upd:∀{kvs:List (Key×D)} {xs:List (Key×V)} {k:Key} {d:D} {v:V},RKs K ρ H kvs xs->RD K ρ H d v->RKs K ρ H (kvs.map (λkv=>if kv.1=k then(kv.1,d)else kv)) (xs.map (λkv=>if kv.1=k then(kv.1,v)else kv))
 |[],xs,k,d,v,h,_=>by simp only[RKs]at h;subst h;simp[RKs]
 |p::kvs,xs,k,d,v,h,q=>by
  simp only[RKs]at h;obtain⟨x,r,rfl,e1,r1,r2⟩:=h;simp only[map_cons,RKs];refine⟨_,_,rfl,?_,?_,RKs.upd r2 q⟩
  .rw[e1];split<;>simp[e1]
  .rw[e1];split
   .exact q
   .exact r1
def RKs.app:∀{kvs ks:List (Key×D)} {xs ys:List (Key×V)},RKs K ρ H kvs xs->RKs K ρ H ks ys->RKs K ρ H (kvs++ks) (xs++ys)
 |[],ks,xs,ys,h,t=>by simp only[RKs]at h;subst h;simpa using t
 |d::ds,ks,xs,ys,h,t=>by
  simp only[RKs]at h;obtain⟨x,r,rfl,e,z,q⟩:=h;simp only[cons_append,RKs];exact⟨_,_,rfl,e,z,q.app t⟩
def RKs.put{kvs:List (Key×D)}{xs:List (Key×V)}{k:Key}{d:D}{v:V}(h:RKs K ρ H kvs xs)(q:RD K ρ H d v):RKs K ρ H (Cn kvs k d) (CV xs k v):=by
 unfold Cn CV;rw[h.any];split
 .exact h.upd q
 .exact h.app (by simp only[RKs];exact⟨_,_,rfl,rfl,q,rfl⟩)
def C4:D->Option Key
 |.im (.int i)=>some (.inl i)
 |.im (.str x)=>some (.inr x)
 |_=>none
def FR{d:D}{v:V}{k:Key}(h:RD K ρ H d v)(e:C4 d=some k):v=kV k:=by
 cases d with
 |im i=>
  cases i with
  |int i=>simp only[C4,Option.some.injEq]at e;subst e;simp only[RD,RI]at h;exact h
  |str i=>simp only[C4,Option.some.injEq]at e;subst e;simp only[RD,RI]at h;exact h
  |_=>simp[C4]at e
 |_=>simp[C4]at e
def Bx(hd:Hd):D->Option (List (Key×D))
 |.mu n=>match hd[n]? with
  |some (.dic kvs)=>some kvs
  |_=>none
 |_=>none
def RD.dic{d:D}{v:V}{kvs:List (Key×D)}(hR:RH K ρ H hd)(h:RD K ρ H d v)(e:Bx hd d=some kvs):∃n a xs,d=.mu n/\v=.ref a/\ρ[n]?=some a/\H a=some (.dK xs)/\RKs K ρ H kvs xs:=by
 cases d with
 |mu n=>
  simp only[Bx]at e;simp only[RD]at h;obtain⟨a,hn,rfl⟩:=h;split at e
  .next q=>
   cases e;obtain⟨xs,e1,e2⟩:=hR.dic hn q;exact⟨n,a,xs,rfl,rfl,hn,e1,e2⟩
  .cases e
 |_=>simp[Bx]at e
def DM:D->D->Hd->Option (D×Hd):=λd e hd=>(Bx hd d).bind λkvs=>(C4 e).bind λk=>(BQ kvs k).map (·,hd)
def We{td ty:TE}{md my:ME}(hd:RE K td md)(hy:RE K ty my):RE K (Op td ty) (mOp DM md my):=by
 intro ρ σ H hd0 ls Q d hd' hR hL hm hQ;obtain⟨⟨d1,h1⟩,e1,hm⟩:=fW hm;obtain⟨⟨d2,h2⟩,e2,hm⟩:=fW hm;obtain⟨kvs,e3,hm⟩:=fW hm;obtain⟨k,e4,hm⟩:=fW hm;obtain⟨w,e5,e6⟩:=fX hm;cases e6;refine hd ρ σ H hd0 ls _ d1 h1 hR hL e1 λρ1 H1 v1 x1 R1 r1=>?_;refine hy ρ1 σ H1 h1 ls _ d2 _ R1 (hL.ext hR x1) e2 λρ2 H2 v2 x2 R2 r2=>?_;obtain⟨n,a,xs,rfl,rfl,hn,l1,l2⟩:=RD.dic R2 (r1.ext R1 x2) e3;have:=FR r2 e4;subst this;obtain⟨v,v1,v2⟩:=l2.val e5;exact⟨a,v,rfl,v1 ▸ DGet.k l1,hQ ρ2 H2 v (x1.trans R1 x2) R2 v2⟩
def De(neg:Bool):D->D->Hd->Option (D×Hd):=λe d hd=>(Bx hd d).bind λkvs=>(C4 e).map λk=>(.im (.bl (if neg then !(BQ kvs k).isSome else(BQ kvs k).isSome)),hd)
def ZD{td ty:TE}{md my:ME}(hd:RE K td md)(hy:RE K ty my):RE K (T4 ty td) (mOp (De false) my md):=by
 intro ρ σ H hd0 ls Q d hd' hR hL hm hQ;obtain⟨⟨d1,h1⟩,e1,hm⟩:=fW hm;obtain⟨⟨d2,h2⟩,e2,hm⟩:=fW hm;obtain⟨kvs,e3,hm⟩:=fW hm;obtain⟨k,e4,e6⟩:=fX hm;cases e6;refine hy ρ σ H hd0 ls _ d1 h1 hR hL e1 λρ1 H1 v1 x1 R1 r1=>?_;refine hd ρ1 σ H1 h1 ls _ d2 _ R1 (hL.ext hR x1) e2 λρ2 H2 v2 x2 R2 r2=>?_;obtain⟨n,a,xs,rfl,rfl,hn,l1,l2⟩:=RD.dic R2 r2 e3;have:=FR r1 e4;subst this;refine⟨a,_,rfl,DGet.k l1,?_⟩;rw[l2.valN];exact hQ ρ2 H2 _ (x1.trans R1 x2) R2 (by simp[RD,RI])
def Wb{td ty:TE}{md my:ME}(hd:RE K td md)(hy:RE K ty my):RE K (K0 ty td) (mOp (De true) my md):=by
 intro ρ σ H hd0 ls Q d hd' hR hL hm hQ;obtain⟨⟨d1,h1⟩,e1,hm⟩:=fW hm;obtain⟨⟨d2,h2⟩,e2,hm⟩:=fW hm;obtain⟨kvs,e3,hm⟩:=fW hm;obtain⟨k,e4,e6⟩:=fX hm;cases e6;refine hy ρ σ H hd0 ls _ d1 h1 hR hL e1 λρ1 H1 v1 x1 R1 r1=>?_;refine hd ρ1 σ H1 h1 ls _ d2 _ R1 (hL.ext hR x1) e2 λρ2 H2 v2 x2 R2 r2=>?_;obtain⟨n,a,xs,rfl,rfl,hn,l1,l2⟩:=RD.dic R2 r2 e3;have:=FR r1 e4;subst this;refine⟨a,_,rfl,DGet.k l1,?_⟩;rw[l2.valN];exact hQ ρ2 H2 _ (x1.trans R1 x2) R2 (by simp[RD,RI])
open Classical in
def Fq(md my mv:ME):MS:=λls hd=>(mv ls hd).bind λp=>(md ls p.2).bind λq=>(my ls q.2).bind λr=>(C4 r.1).bind λk=>match q.1 with
 |.mu n=>match r.2[n]? with
  |some (.dic kvs)=>if DO kvs.length then some (.nx ls,r.2.set n (.dic (Cn kvs k p.1)))else none
  |_=>none
 |_=>none
def WB{td ty tv:TE}{md my mv:ME}(hd:RE K td md)(hy:RE K ty my)(hv:RE K tv mv):RS K (P0 td ty tv) (Fq md my mv):=by
 intro ρ σ H hd0 ls E f hd' hR hL hm hQ;obtain⟨⟨d1,h1⟩,e1,hm⟩:=fW hm;obtain⟨⟨d2,h2⟩,e2,hm⟩:=fW hm;obtain⟨⟨d3,h3⟩,e3,hm⟩:=fW hm;obtain⟨k,e4,hm⟩:=fW hm;dsimp only at hm;split at hm
 .split at hm
  .next q=>
   split at hm
   .next c=>
    cases hm;refine hv ρ σ H hd0 ls _ d1 h1 hR hL e1 λρ1 H1 v1 x1 R1 r1=>?_;refine hd ρ1 σ H1 h1 ls _ _ h2 R1 (hL.ext hR x1) e2 λρ2 H2 v2 x2 R2 r2=>?_;refine hy ρ2 σ H2 h2 ls _ d3 _ R2 (hL.ext hR (x1.trans R1 x2)) e3 λρ3 H3 v3 x3 R3 r3=>?_;have r2:=r2.ext R2 x3;simp only[RD]at r2;obtain⟨a,hn,rfl⟩:=r2;obtain⟨xs,l1,l2⟩:=R3.dic hn q;have:=FR r3 e4;subst this;obtain⟨R4,x4⟩:=R3.put hn (o:=.dic (Cn _ k d1)) (ho:=.dK (CV xs k v1)) ⟨_,rfl,l2.put ((r1.ext R1 x2).ext R2 x3)⟩;have x13:=(x1.trans R1 x2).trans R2 x3;exact⟨a,_,rfl,DPut.k l1 (by rw[l2.len];exact c),hQ ρ3 _ (x13.trans R3 x4) R4 σ ((hL.ext hR x13).ext R3 x4)⟩
   .cases hm
  .cases hm
 .cases hm
def FO:List (ME×ME)->Ls->Hd->Option (List (Key×D)×Hd)
 |[],_,hd=>some ([],hd)
 |(mk,mv)::r,ls,hd=>(mk ls hd).bind λp=>(mv ls p.2).bind λq=>(FO r ls q.2).bind λz=>(C4 p.1).map λk=>((k,q.1)::z.1,z.2)
def Rn(kvs more:List (Key×D)):List (Key×D):=more.foldl (λacc kv=>Cn acc kv.1 kv.2) kvs
def cY(ms:List (ME×ME)):ME:=λls hd=>(FO ms ls hd).bind λp=>if p.1.length<=15 then some (.mu p.2.length,p.2++[.dic (Rn [] p.1)])else none
def RH.nameD(hR:RH K ρ H hd){a:Addr}{xs:List (Key×V)}{kvs:List (Key×D)}(out:a∉ρ){o:HO}(e:H a=some o)(ht:∀ys,o≠.tup ys)(hf:∀x u,o≠.frz x u)(r:RKs K ρ H kvs xs)(h1:∀ps,o≠.tbl ps:=by intro _ z;cases z)(h2:∀φ,o≠.ext φ:=by intro _ z;cases z):RH K (ρ++[a]) (upd H a (.dK xs)) (hd++[.dic kvs]):=by
 have gr:Grow H (upd H a (.dK xs)):=Grow.refl.put ⟨λys z=>ht ys (by rw[e]at z;exact Option.some.inj z),λx u z=>hf x u (by rw[e]at z;exact Option.some.inj z)⟩;refine⟨by simp[hR.len],?_,hR.tabs.upd (λps z=>h1 ps (Option.some.inj (e.symm.trans z))) (λps z=>h2 ps (Option.some.inj (e.symm.trans z))),λn o' b e1 e2=>?_⟩
 .rw[nodup_append];refine⟨hR.nd,by simp,λx hx y hy z=>?_⟩;simp at hy;subst hy;subst z;exact out hx
 .by_cases hn:n<ρ.length
  .rw[List.getElem?_append_left hn]at e2;rw[List.getElem?_append_left (by rw[<- hR.len];exact hn)]at e1;obtain⟨ho',q1,q2⟩:=hR.ob n o' b e1 e2;have:b≠a:=λz=>out (by rw[<- z];exact mem_of_getElem? e2);exact⟨ho',by rw[upd_ne this];exact q1,q2.mono gr [a]⟩
  .have hn':n=ρ.length:=by
    have:=(List.getElem?_eq_some_iff.mp e2).1;simp at this;omega
   subst hn';simp at e2;rw[hR.len]at e1;simp at e1;subst e1;subst e2;exact⟨_,AI,⟨xs,rfl,r.mono gr [_]⟩⟩
def DJ(mo mi mv:ME):MS:=λls hd=>(mv ls hd).bind λp=>(mo ls p.2).bind λq=>(mi ls q.2).bind λr=>match q.1,r.1 with
 |.mu n,.im (.int i)=>match r.2[n]? with
  |some (.lst ds)=>(ixN ds.length i).map λj=>(.nx ls,r.2.set n (.lst (ds.set j p.1)))
  |_=>none
 |_,_=>none
def W8{to ti tv:TE}{mo mi mv:ME}(ho:RE K to mo)(hi:RE K ti mi)(hv:RE K tv mv):RS K (EQ tv (Uo to ti PD)) (DJ mo mi mv):=by
 intro ρ σ H hd0 ls E f hd' hR hL hm hQ;obtain⟨⟨d1,h1⟩,e1,hm⟩:=fW hm;obtain⟨⟨d2,h2⟩,e2,hm⟩:=fW hm;obtain⟨⟨d3,h3⟩,e3,hm⟩:=fW hm;dsimp only at hm;split at hm
 .split at hm
  .next q=>
   obtain⟨j,e4,e5⟩:=fX hm;cases e5;refine hv ρ σ H hd0 ls _ d1 h1 hR hL e1 λρ1 H1 v1 x1 R1 r1=>?_;refine ho ρ1 σ H1 h1 ls _ _ h2 R1 (hL.ext hR x1) e2 λρ2 H2 v2 x2 R2 r2=>?_;refine hi ρ2 σ H2 h2 ls _ _ _ R2 (hL.ext hR (x1.trans R1 x2)) e3 λρ3 H3 v3 x3 R3 r3=>?_;have r2:=r2.ext R2 x3;simp only[RD]at r2;obtain⟨a,hn,rfl⟩:=r2;simp only[RD,RI]at r3;subst r3;obtain⟨xs,l1,l2⟩:=R3.lst hn q;obtain⟨R4,x4⟩:=R3.put hn (o:=.lst _) (ho:=.lst (xs.set j v1)) ⟨_,rfl,l2.set j ((r1.ext R1 x2).ext R2 x3)⟩;have x13:=(x1.trans R1 x2).trans R2 x3;exact⟨a,xs,_,j,rfl,rfl,l1,by rw[l2.len];exact e4,hQ ρ3 _ (x13.trans R3 x4) R4 σ ((hL.ext hR x13).ext R3 x4)⟩
  .cases hm
 .cases hm
end
end L2
namespace L2
open PySem PySem.Spec PyProof.Rows
structure QG(K:PySem.W.Frag)(X:Cx)(e:Expr)(t:TG)(m:MG):Prop where
 p:PG X e t
 r:RGt K t m
structure QGs(K:PySem.W.Frag)(X:Cx)(e:List Expr)(t:TGs)(m:MGs):Prop where
 p:PGs X e t
 r:NU K t m
structure QI(K:PySem.W.Frag)(X:Cx)(tg e:Expr)(t:TI)(m:MI):Prop where
 p:PI X tg e t
 r:RIt K t m
structure QF(K:PySem.W.Frag)(X:Cx)(e:List Expr)(t:TT)(m:MT):Prop where
 p:PF X e t
 r:RT K t m
structure QO(K:PySem.W.Frag)(X:Cx)(e:Option Expr)(t:TO)(m:MO1):Prop where
 p:PO X e t
 r:RO1 K t m
def Px(a b:List D):Prop:=a≠[]/\BT (a.length+b.length)
open Classical in
def G3:D->D->Hd->Option (D×Hd):=λd e hd=>(AX d).bind λa=>(AX e).bind λb=>if Px a b then some (B4 (a++b),hd)else none
def Wj{K:PySem.W.Frag}:RB K (PH K) G3:=by
 intro ρ H hd d e v u Q z hd' hR h1 h2 hf hQ;unfold G3 at hf;obtain⟨a,e1,hf⟩:=fW hf;obtain⟨b,e2,hf⟩:=fW hf;split at hf
 .next c=>
  cases hf;obtain⟨p,xs,rfl,q1,r1⟩:=h1.tup e1;obtain⟨p2,ys,rfl,q2,r2⟩:=h2.tup e2;have l1:=r1.len;have l2:=r2.len;refine⟨p,p2,xs,ys,rfl,rfl,q1,q2,λz=>c.1 (by rw[z]at l1;simpa using l1.symm),by rw[l1,l2];exact c.2,λz=>?_,λ_ p3 hp=>?_⟩
  .have:b=[]:=by rw[z]at l2;simpa using l2.symm
   subst this;exact hQ ρ H _ .refl hR (by rw[append_nil];exact CU q1 r1)
  .obtain⟨R2,x2⟩:=hR.hid (ho:=.tup (xs++ys)) hp;exact hQ ρ _ _ x2 R2 (CU (SqT.of AI) ((r1.app r2).ext hR x2))
 .cases hf
abbrev An:=Eu KL G3
def Fp(neg:Bool)(m:ME):ME:=λls hd=>(m ls hd).bind λp=>some (.im (.bl (match p.1 with
 |.im .non=>!neg
 | _=>neg)),p.2)
def dL{K:PySem.W.Frag}{ρ:List Addr}{H:Hp}{d:D}{v:V}(h:RD K ρ H d v):decide (v=.non)=(match d with|.im .non=>true|_=>false):=by
 cases d with
 |im i=>
  cases i with
  |non=>simp only[RD,RI]at h;subst h;rfl
  |tup is=>simp only[RD,RI]at h;obtain⟨a,xs,rfl,_⟩:=h;rfl
  |_=>simp only[RD,RI]at h;subst h;rfl
 |mu n=>simp only[RD]at h;obtain⟨a,_,rfl⟩:=h;rfl
 |tm ds=>simp only[RD]at h;obtain⟨a,xs,rfl,_⟩:=h;rfl
 |ro ns=>simp only[RD]at h;obtain⟨a,rfl,_⟩:=h;rfl
def ZB{K:PySem.W.Frag}{t:TE}{m:ME}(h:RE K t m):RE K (T1 t) (Fp false m):=by
 and_intros;obtain⟨⟨d1,h1⟩,e1,hm⟩:=fW hm;cases hm;refine h ρ σ H hd ls _ d1 _ hR hL e1 λρ1 H1 v x1 R1 r1=>?_;rw[dL r1];refine hQ ρ1 H1 _ x1 R1 ?_;simp only[RD,RI];cases d1 with
 |im i=>cases i<;>rfl
 |_=>rfl
def IW(m:ME):ME:=λls hd=>(m ls hd).bind λp=>match p.1 with
 |.im (.int i)=>some (.im (.int (-i)),p.2)
 |_=>none
def Z7{K:PySem.W.Frag}{t:TE}{m:ME}(h:RE K t m):RE K (tUn (rU λi=>.int (-i)) t) (IW m):=by
 and_intros;obtain⟨⟨d1,h1⟩,e1,hm⟩:=fW hm;dsimp only at hm;split at hm
 .cases hm;exact h ρ σ H hd ls _ _ _ hR hL e1 λρ1 H1 v x1 R1 r1=>⟨_,by simpa only[RD,RI]using r1,hQ ρ1 H1 _ x1 R1 (by simp[RD,RI])⟩
 .cases hm
def Bt:MT:=λ_ hd=>some (true,hd)
def Ym{K:PySem.W.Frag}:RT K Sr Bt:=by
 and_intros;cases hm;exact hQ ρ H .refl hR
section
variable(K:PySem.W.Frag){X:Cx}{a b c e:Expr}{es:List Expr}{ta tb tc te:TE}{ma mb mc me:ME}{tA tB':TT}{nA nB:MT}{t:TA}{m:MA}{pos:Pos}{x:Str}
def qv(i:Nat){x:Str}{pos:Pos}(hN:X.N[i]?=some x:=by rfl)(hv:Vis X.env.scope x:=by first|exact Or.inl rfl|exact Or.inr (Or.inl rfl)|exact Or.inr (Or.inr rfl))(hd:(x==("__debug__":Str))=false:=by decide)
 (hcd:(x==("__classdict__":Str))=false:=by decide):QE K X (.Name x pos) (Ss i) (A0 i):=⟨aJ hN hv hd hcd,Z4⟩
def Zw{i:Int}{j pos}:QE K X (.Constant (.int i) j pos) (tC (.int i)) (mC (.int i)):=⟨aR,P7 λ_=>by simp[RI]⟩
def cF{i:Bool}{j pos}:QE K X (.Constant (.bool i) j pos) (tC (.bl i)) (mC (.bl i)):=⟨cM,P7 λ_=>by simp[RI]⟩
def Zq{j pos}:QE K X (.Constant .none j pos) (tC .non) (mC .non):=⟨aO,P7 λ_=>by simp[RI]⟩
def Zm{x:Str}{j pos}:QE K X (.Constant (.str x) j pos) (tC (.str x)) (mC (.str x)):=⟨aL,P7 λ_=>by simp[RI]⟩
def E9{op:Operator}{r:R2}{f:D->D->Hd->Option (D×Hd)}(ho:OpR X (binaryOp op) r)(hr:RB K r f)(ha:QE K X a ta ma)(hb:QE K X b tb mb):QE K X (.BinOp a op b pos) (tOp r ta tb) (mOp f ma mb):=⟨PQ ho ha.p hb.p,LY hr ha.r hb.r⟩
def Zt(ha:QE K X a ta ma):QE K X (.UnaryOp .USub a pos) (tUn (rU λi=>.int (-i)) ta) (IW ma):=⟨cK Yb ha.p,Z7 ha.r⟩
def JP{op:CmpOp}{r:R2}{f:D->D->Hd->Option (D×Hd)}(ho:OpR X (compareOp op) r)(hr:RB K r f)(ha:QE K X a ta ma)(hb:QE K X b tb mb)(hm:behindInMarks op b=false:=by first|exact Ga _|rfl):QE K X (.Compare a [op] [b] pos) (tOp r ta tb) (mOp f ma mb):=⟨XX ho ha.p hb.p hm,LY hr ha.r hb.r⟩
def Dv{op:CmpOp}{r:R2}{f:D->D->Hd->Option (D×Hd)}(ho:OpR X (compareOp op) r)(hr:RB K r f)(ha:QE K X a ta ma)(hb:QE K X b tb mb)(hm:behindInMarks op b=false:=by first|exact Ga _|rfl):QT K X (.Compare a [op] [b] pos) (Ei (tOp r ta tb)) (A6 (mOp f ma mb)):=⟨HK ho ha.p hb.p hm,D7 (LY hr ha.r hb.r)⟩
def ZS{j pos'}(ha:QE K X a ta ma):QT K X (.Compare a [.Is] [.Constant .none j pos'] pos) (tB (T1 ta)) (A6 (Fp false ma)):=⟨Mi (aV ha.p),TN (ZB ha.r)⟩
def Tq(ha:QE K X a ta ma)(he:∀whole,isTrue a X.env whole=(do let v <- whole;standAt a.pos;holding [v] (truthy v)):=by intro _;rfl)(hK:X.K=K:=by rfl):
 QT K X a (λσ H Q=>ta σ H λx H'=>∃k,NS K x H' k/\Q k H') (E3 ma):=by
 subst hK;exact⟨U7 ha.p he,TL ha.r⟩
def ZR(ha:QT K X a tA nA):QT K X (.UnaryOp .Not a pos) (Sy tA) (Gf nA):=⟨a8 ha.p,Yn ha.r⟩
def Wl(ha:QT K X a tA nA):QW K X (.BoolOp .And [a] pos) tA nA:=⟨XD ha.p,ha.r⟩
def ZP(ha:QT K X a tA nA):QW K X (.BoolOp .Or [a] pos) tA nA:=⟨Zz ha.p,ha.r⟩
def ZQ{rest:List Expr}(ha:QT K X a tA nA)(hb:QW K X (.BoolOp .And (b::rest) pos) tB' nB):QW K X (.BoolOp .And (a::b::rest) pos) (T7 tA tB') (D3 nA nB):=⟨a7 ha.p hb.p,Yo ha.r hb.r⟩
def cA{rest:List Expr}(ha:QT K X a tA nA)(hb:QW K X (.BoolOp .Or (b::rest) pos) tB' nB):QW K X (.BoolOp .Or (a::b::rest) pos) (tOr tA tB') (mOr nA nB):=⟨cI ha.p hb.p,bt ha.r hb.r⟩
def QW.toT{K:PySem.W.Frag}{X:Cx}{e:Expr}{t:TT}{m:MT}(h:QW K X e t m):QT K X e t m:=⟨h.p.pt,h.r⟩
def Zo{op}(ha:QE K X a ta ma):QE K X (.BoolOp op [a] pos) ta ma:=⟨aM ha.p,ha.r⟩
def Zx{rest:List Expr}(ha:QE K X a ta ma)(hb:QE K X (.BoolOp .And (b::rest) pos) tb mb):QE K X (.BoolOp .And (a::b::rest) pos) (Oq ta tb) (Fs ma mb):=⟨aT ha.p hb.p,Wh ha.r hb.r⟩
def Zp(ha:QE K X a ta ma):QE K X (.UnaryOp .Not a pos) (On ta) (HN ma):=⟨aN ha.p,WW ha.r⟩
def U2(hc:QT K X c tA nA)(ha:QE K X a ta ma)(hb:QE K X b tb mb):QE K X (.IfExp c a b pos) (tIf tA ta tb) (mIf nA ma mb):=⟨UG hc.p ha.p hb.p,c5 hc.r ha.r hb.r⟩
def Zy:QA K X [] BR A4:=⟨Bw,Md⟩
def XB(ha:QE K X e te me)(hr:QA K X es t m)(hs:starEach (e::es) X.env=(false,eval e X.env)::starEach es X.env:=by rfl):QA K X (e::es) (BH te t) (A1 me m):=⟨Bi ha.p hr.p hs,Wk ha.r hr.r⟩
def Zl{x1}(h:QA K X es t m):QE K X (.Tuple es x1 pos) (Su t) (BC m):=⟨aK h.p,Z5 h.r⟩
def Zb(h:QA K X es t m):QN K X (.List es pos) (Sz t) (Aj m):=⟨aP h.p,Yu h.r⟩
def Zr(h:QN K X e te m):QE K X e te (Aa m):=⟨h.p,Qv h.r⟩
def cD(ha:QE K X a ta ma)(hb:QE K X b tb mb)(hs:KZ b:=by exact λ_ _=>rfl)(hK:X.K=K:=by rfl):QE K X (.Subscript a b pos) (tOp (LZ K) ta tb) (mOp gIx ma mb):=⟨VR ((Mw K hK).or (OH K hK)) ha.p hb.p hs,LY c8 ha.r hb.r⟩
def XA(hu:X.A.units+1<cLine)(ha:QE K X a ta ma)(hb:QE K X b tb mb)(hs:V8 b:=by exact λ_ _=>rfl):QE K X (.Subscript a b pos) (Op ta tb) (mOp DM ma mb):=⟨XV hu ha.p hb.p hs,We ha.r hb.r⟩
def Wy:QO K X none Jz DY:=⟨XN,WG⟩
def Wx(h:QE K X e te me):QO K X (some e) (Om te) (Fo me):=⟨XM h.p,WD h.r⟩
def Zn{lo hi:Option Expr}{tl th:TO}{ml mh:MO1}{p2:Pos}(h:QE K X e te me)(hl:QO K X lo tl ml)(hh:QO K X hi th mh)(hK:X.K=K:=by rfl):QE K X (.Subscript e (.Slice lo hi none p2) pos) (tSl (P9 K) te tl th) (KD me ml mh):=⟨Ml (Vy K hK) h.p hl.p hh.p,Z6 h.r hl.r hh.r⟩
def ZZ{lo hi:Option Expr}{tl th:TO}{ml mh:MO1}{p2:Pos}(h:QE K X e te me)(hl:QO K X lo tl ml)(hh:QO K X hi th mh)(hK:X.K=K:=by rfl):QN K X (.Subscript e (.Slice lo hi none p2) pos) (tSl (PB K) te tl th) (KF me ml mh):=⟨Ml (T9 K hK) h.p hl.p hh.p,Ys h.r hl.r hh.r⟩
def Fi{id:String}{p:Pos}{r:List V->Hp->VK->Prop}{f:List D->Hd->Option (D×Hd)}(hc:CallR X (.builtin id) r)(hr:RF K r f)(hm:X.mg x=none)(hv:bootBuiltins x=some (.builtin id))(ha:QA K X (e::es) t m)(hg:Gl X x:=by rfl)(hn:x≠"__name__":=by decide)(hdb:(x==("__debug__":Str))=false:=by decide)
 (he:starEach (e::es) X.env=(false,eval e X.env)::starEach es X.env:=by rfl) (hpl:(backTo pos (starEach es X.env)).any (·.1)=false:=by rfl):QE K X (.Call (.Name x p) (e::es) [] pos) (tCB r t) (mCB f m):=⟨EW hc hg hm hv ha.p hn hdb he hpl,VE hr ha.r⟩
def VP{id:String}{p:Pos}{r:List V->Hp->VK->Prop}{f:List D->Hd->Option (D×Hd)}(hc:CallR X (.type id) r)(hr:RF K r f)(hm:X.mg x=none)(hv:bootBuiltins x=some (.type id))(ha:QA K X (e::es) t m)(hg:Gl X x:=by rfl)(hn:x≠"__name__":=by decide)(hdb:(x==("__debug__":Str))=false:=by decide)
 (he:starEach (e::es) X.env=(false,eval e X.env)::starEach es X.env:=by rfl) (hpl:(backTo pos (starEach es X.env)).any (·.1)=false:=by rfl):QE K X (.Call (.Name x p) (e::es) [] pos) (tCB r t) (mCB f m):=⟨C0 hc hg hm hv ha.p hn hdb he hpl,VE hr ha.r⟩
def La{id:String}{p:Pos}{r:List V->Hp->VK->Prop}{tp:Bool}{g:List D->Option D}(hc:CallR X (.builtin id) r)(hr:RG K tp r g)(hm:X.mg x=none)(hv:bootBuiltins x=some (.builtin id))(ha:QN K X e te m)(hg:Gl X x:=by rfl)(hn:x≠"__name__":=by decide)(hdb:(x==("__debug__":Str))=false:=by decide)
 (he:starEach [e] X.env=[(false,eval e X.env)]:=by rfl):QE K X (.Call (.Name x p) [e] [] pos) (tCB r (BH te BR)) (B7 g m):=⟨EW hc hg hm hv (Bi ha.p Bw he) hn hdb he rfl,Qw hr ha.r⟩
def cE{id:String}{p:Pos}{r:List V->Hp->VK->Prop}{tp:Bool}{g:List D->Option D}(hc:CallR X (.type id) r)(hr:RG K tp r g)(hm:X.mg x=none)(hv:bootBuiltins x=some (.type id))(ha:QN K X e te m)(hg:Gl X x:=by rfl)(hn:x≠"__name__":=by decide)(hdb:(x==("__debug__":Str))=false:=by decide)
 (he:starEach [e] X.env=[(false,eval e X.env)]:=by rfl):QE K X (.Call (.Name x p) [e] [] pos) (tCB r (BH te BR)) (B7 g m):=⟨C0 hc hg hm hv (Bi ha.p Bw he) hn hdb he rfl,Qw hr ha.r⟩
def Wz{p:Pos}(hm:X.mg "list"=none)(ha:QE K X e te me)(hg:Gl X "list":=by rfl)(he:starEach [e] X.env=[(false,eval e X.env)]:=by rfl)(hK:X.K=K:=by rfl):QN K X (.Call (.Name "list" p) [e] [] pos) (tCB (FI K) (BH te BR)) (HP me):=⟨C0 (Jn K hK) hg hm KW (Bi ha.p Bw he) (by decide) (by decide) he rfl,WJ ha.r⟩
def Tz{p:Pos}(hm:X.mg "list"=none)(ha:QN K X e te m)(hg:Gl X "list":=by rfl)(he:starEach [e] X.env=[(false,eval e X.env)]:=by rfl)(hK:X.K=K:=by rfl):QN K X (.Call (.Name "list" p) [e] [] pos) (tCB (FI K) (BH te BR)) (Gh m):=⟨C0 (Jn K hK) hg hm KW (Bi ha.p Bw he) (by decide) (by decide) he rfl,Ta ha.r⟩
def PN{id:String}{r:V->List V->Hp->VK->Prop}{f:D->List D->Hd->Option (D×Hd)}{name:Str}{apos cpos:Pos}{o:Expr}{to:TE}{mo:ME}(slot:Slot "list" name id)(hty:typeOf (.builtin id)=pure (.type "method_descriptor"))(hm:MtM X id r)(hr:RM K r f)(ho:QE K X o to mo)(ha:QA K X (e::es) t m)
 (hbase:attributeBase o name X.env (eval o X.env)=eval o X.env:=by rfl)
 (hfew:((backTo cpos (starEach (e::es) X.env)).all (λx=>!x.1)&&(backToKw cpos (keywordEach [] X.env)).all (λx=>x.1.isSome)
  && decide ((e::es).length+([]:List Keyword).length+(if([]:List Keyword).isEmpty then 0 else 1)<30))=true:=by rfl)
 (hline:(apos.endLine==cpos.line)=true:=by rfl) (hs:starEach (e::es) X.env=(false,eval e X.env)::starEach es X.env:=by rfl) (hplain:(backTo cpos (starEach es X.env)).any (·.1)=false:=by rfl) (hK:X.K=K:=by rfl):
 QE K X (.Call (.Attribute o name apos) (e::es) [] cpos) (tBM K "list" r to t) (mMt f mo m):=by
 subst hK;exact⟨cL PySem.F.plainAttrs_list slot hty hm ho.p ha.p hbase hfew hline hs hplain,VD hr ho.r ha.r⟩
def Zu{id:String}{r:V->List V->Hp->VK->Prop}{f:D->List D->Hd->Option (D×Hd)}{name:Str}{apos cpos:Pos}{o:Expr}{to:TE}{mo:ME}(slot:Slot "list" name id)(hty:typeOf (.builtin id)=pure (.type "method_descriptor"))(hm:MtM X id r)(hr:RM K r f)(ho:QE K X o to mo)
 (hbase:attributeBase o name X.env (eval o X.env)=eval o X.env:=by rfl) (hline:(apos.endLine==cpos.line)=true:=by rfl) (hK:X.K=K:=by rfl):
 QE K X (.Call (.Attribute o name apos) [] [] cpos) (T5 K "list" r to) (mMt f mo A4):=by
 subst hK;exact⟨aS PySem.F.plainAttrs_list slot hty hm ho.p hbase hline,Z8 hr ho.r⟩
def U4(w:Nat){j k:Nat}{f:Addr}{fd:FuncData}{ps:List Str}{n:Nat}{F:List D->Hd->Option (D×Hd)}{st:Stmt}{p:Pos}(G:FnOk X.prog X.w X.K X.mg X.base CX0 j f fd ps (spF K n F))(hr:Room k X.A)(DA:DefAt X.K X.mg x st f fd ps)(ha:QA K X (e::es) t m)(hF:∀ds hd z,F ds hd=some z->ds.length=n)
 (hjk:j<=k:=by decide) (hg:Gl X x:=by rfl) (hdb:(x==("__debug__":Str))=false:=by decide) (he:starEach (e::es) X.env=(false,eval e X.env)::starEach es X.env:=by rfl) (hpl:(backTo pos (starEach es X.env)).any (·.1)=false:=by rfl):
 QE K X (.Call (.Name x p) (e::es) [] pos) (C2 (spF K n F) [] E0 t) (AC w F m):=⟨PR G hr DA ha.p hjk hg hdb he hpl,MZ ha.r hF⟩
def U6{j k:Nat}{f:Addr}{fd:FuncData}{ps:List Str}{n:Nat}{F:List D->Hd->Option (D×Hd)}{st:Stmt}{p:Pos}(G:FnOk X.prog X.w X.K X.mg X.base CX0 j f fd ps (spF K n F))(hr:Room k X.A)(DA:DefAt X.K X.mg x st f fd ps)(ha:QA K X (e::es) t m)(hF:∀ds hd z,F ds hd=some z->ds.length=n)
 (hjk:j<=k:=by decide) (hg:Gl X x:=by rfl) (hdb:(x==("__debug__":Str))=false:=by decide) (he:starEach (e::es) X.env=(false,eval e X.env)::starEach es X.env:=by rfl) (hpl:(backTo pos (starEach es X.env)).any (·.1)=false:=by rfl):
 QE K X (.Call (.Name x p) (e::es) [] pos) (C2 (spF K n F) [] E0 t) (CA F m):=⟨PR G hr DA ha.p hjk hg hdb he hpl,Th ha.r hF⟩
def X6{i:Nat}(hN:X.N.Nodup)(hi:X.N[i]?=some x)(hx:Loc X.env.scope x)(hf:X.fn x=true∨X.env.scope.names.lookup x=some .local:=by first|exact .inl rfl|exact .inr rfl|assumption):QG K X (.Name x pos) (Dj i) (AA i):=⟨XT hN hi hx hf,K2⟩
def X5:QGs K X [] Uq Bc:=⟨XR,WN⟩
def U0{tg:TG}{tgs:TGs}{n:MG}{ns:MGs}(h1:QG K X e tg n)(h2:QGs K X es tgs ns)(hs:(assignEach (e::es) X.env).map (·.2)=assign e X.env::(assignEach es X.env).map (·.2):=by rfl):QGs K X (e::es) (Po tg tgs) (AO n ns):=⟨UD h1.p h2.p hs,Td h1.r h2.r⟩
def Zi{k n:Nat}{tgs:TGs}{ns:MGs}(hc:X.calm=true)(h:QGs K X es tgs ns)(hK:X.K=K:=by rfl)(hn:(assignEach es X.env).length=n:=by rfl)(hst:(assignEach es X.env).findIdx? (·.1)=none:=by rfl):QG K X (.Tuple es k pos) (Pl K n tgs) (Bb n ns):=⟨XS K hc h.p hK hn hst,Z1 h.r⟩
def Ze{tg:Expr}(h:QE K X e te me)(hK:X.K=K:=by rfl):QI K X tg e (N1 K te) (Az me):=⟨OA K h.p hK,Qp h.r⟩
def X4{tg:Expr}(h:QE K X e te me)(hK:X.K=K:=by rfl):QI K X tg e (Fw K te) (Bu me):=⟨IQ K h.p hK,O2 h.r⟩
def Zh{tg:Expr}(h:QN K X e te m)(hK:X.K=K:=by rfl):QI K X tg e (Fw K te) (IX m):=⟨IQ K h.p hK,Yz h.r⟩
def X2{tg:Expr}{p:Pos}(hm:X.mg "range"=none)(ha:QA K X [a] t m)(hg:Gl X "range":=by rfl)(hs:starEach [a] X.env=[(false,eval a X.env)]:=by rfl):QI K X tg (.Call (.Name "range" p) [a] [] pos) (Pj t) (CH m):=⟨RW hg hm ha.p hs,WM ha.r⟩
def X1{tg:Expr}{p:Pos}(hm:X.mg "range"=none)(ha:QA K X [a,b] t m)(hg:Gl X "range":=by rfl)(hs:starEach [a,b] X.env=[(false,eval a X.env),(false,eval b X.env)]:=by rfl)(hs2:starEach [b] X.env=[(false,eval b X.env)]:=by rfl):QI K X tg (.Call (.Name "range" p) [a,b] [] pos) (Pi t) (HQ m):=⟨RV hg hm ha.p hs hs2,WK ha.r⟩
def Zk:QF K X [] Sr Bt:=⟨aI,Ym⟩
def Zj(h:QT K X c tA nA):QF K X [c] tA nA:=⟨aH h.p,h.r⟩
def X0{elt tg iter:Expr}{ifs:List Expr}{scope:Scope}{loc fr:List Str}{ix:List Nat}{wi:TI}{g:TG}{tf:TT}{te:TE}{mi:MI}{n:MG}{mf:MT}{mm:ME}(hc:X.calm=true)(S:CSc X scope fr ix)(hi:QI K X tg iter wi mi)
 (hg:∀s H ex,QG K (cCx X (loc++fr) scope s H ex) tg g n) (hf:∀s H ex,QF K (cCx X (loc++fr) scope s H ex) ifs tf mf) (he:∀s H ex,QE K (cCx X (loc++fr) scope s H ex) elt te mm)
 (hs:∀x,foldedSetIterable iter X.env x=pure x:=by intro _;rfl):QN K X (.ListComp elt [⟨tg,iter,ifs,0⟩] scope pos) (Fa loc.length ix wi g tf te) (Ab loc.length ix mi n mf mm):=
 ⟨XW hc S hi.p (λs H ex=>(hg s H ex).p) (λs H ex=>(hf s H ex).p) (λs H ex=>(he s H ex).p) hs,O1 hi.r (hg X.s₀ X.H₀ []).r (hf X.s₀ X.H₀ []).r (he X.s₀ X.H₀ []).r⟩
def Wp:QSs K X [] Iy AY:=⟨XF,O0⟩
def Ts{st:Stmt}{rest:List Stmt}{u v:TS}{m1 m2:MS}(h1:QS K X st u m1)(h2:QSs K X rest v m2):QSs K X (st::rest) (Sv u v) (A5 m1 m2):=⟨U9 h1.p h2.p,Yp h1.r h2.r⟩
def Wo{st:Stmt}{u:TS}{m1:MS}(h1:QS K X st u m1):QSs K X [st] u m1:=⟨XE h1.p,h1.r⟩
def Wr:QS K X (.Pass pos) Iy AY:=⟨XH,O0⟩
def Wt(he:QE K X e te me)(hs:swapsWith e none pos.line X.env=pure false:=by rfl):QS K X (.Expr e pos) (Oo te) (B8 me):=⟨XI he.p hs,W9 he.r⟩
def ZW(he:QE K X e te me):QS K X (.Return (some e) pos) (Sw te) (AL me):=⟨aA he.p,Yq he.r⟩
def cB{a b:List Stmt}{u v:TS}{m1 m2:MS}(hc:QT K X c tA nA)(ha:QSs K X a u m1)(hb:QSs K X b v m2):QS K X (.If c a b pos) (T2 tA u v) (Af nA m1 m2):=⟨cJ hc.p ha.p hb.p,bu hc.r ha.r hb.r⟩
def Tv{st:Stmt}:QS K X st M3 Gg:=⟨UB,TU⟩
def ZY{tg:Expr}{g:TG}{n:MG}(he:QE K X e te me)(hg:QG K X tg g n)(hs:swapsWithSole [tg] e pos.line X.env=pure false:=by rfl)(hw:swappedStores [tg] e X.env=pure none:=by rfl)
 (h1:(assignEach [tg] X.env).map (·.2)=[assign tg X.env]:=by rfl):QS K X (.Assign [tg] e pos) (EQ te g) (F1 me n):=⟨RQ he.p hg.p hs hw h1,MW he.r hg.r⟩
def ZV{i:Nat}{pos':Pos}(hN:X.N.Nodup)(hi:X.N[i]?=some x)(hx:Loc X.env.scope x)(he:QE K X e te me)(hs:swapsWith e (some (.Name x pos')) pos.line X.env=pure false:=by rfl)(hf:X.fn x=true∨X.env.scope.names.lookup x=some .local:=by first|exact .inl rfl|exact .inr rfl|assumption):
 QS K X (.Assign [.Name x pos'] e pos) (EQ te (Dj i)) (AF i me):=⟨a9 hN hi hx he.p hs hf,MW he.r K2⟩
def Wq{i:Nat}{y:Str}{elt tg iter:Expr}{ifs:List Expr}{scope:Scope}{spos py:Pos}{loc fr:List Str}{ix:List Nat}{wi:TI}{g:TG}{tf:TT}{te:TE}{mi:MI}{n:MG}{mf:MT}{mm:ME}(hN:X.N.Nodup)(hiN:X.N[i]?=some y)(hy:X.env.scope.names.lookup y=some .local)
 (hc:X.calm=true) (S:CSc X scope fr ix) (hi:QI K X tg iter wi mi)
 (hg:∀s H ex,QG K (cCx X (loc++fr) scope s H ex) tg g n) (hf:∀s H ex,QF K (cCx X (loc++fr) scope s H ex) ifs tf mf) (he:∀s H ex,QE K (cCx X (loc++fr) scope s H ex) elt te mm)
 (hsw:swapsWith (.ListComp elt [⟨tg,iter,ifs,0⟩] scope pos) (some (.Name y py)) spos.line X.env=pure true:=by rfl) (hs:∀x,foldedSetIterable iter X.env x=pure x:=by intro _;rfl):
 QS K X (.Assign [.Name y py] (.ListComp elt [⟨tg,iter,ifs,0⟩] scope pos) spos) (EQ (Fa loc.length ix wi g tf te) (Dj i)) (AF i (Aa (Ab loc.length ix mi n mf mm))):=
 ⟨XG hN hiN hy hc S hi.p (λs H ex=>(hg s H ex).p) (λs H ex=>(hf s H ex).p) (λs H ex=>(he s H ex).p) hsw hs,MW (Qv (O1 hi.r (hg X.s₀ X.H₀ []).r (hf X.s₀ X.H₀ []).r (he X.s₀ X.H₀ []).r)) K2⟩
def Wu{o i value:Expr}{pos':Pos}{td ty tv:TE}{md my mv:ME}(hu:X.A.units+1<cLine)(ho:QE K X o td md)(hi:QE K X i ty my)(hv:QE K X value tv mv)(hs:swapsWith value (some (.Subscript o i pos')) pos.line X.env=pure false:=by rfl):
 QS K X (.Assign [.Subscript o i pos'] value pos) (P0 td ty tv) (Fq md my mv):=⟨XJ hu ho.p hi.p hv.p hs,WB ho.r hi.r hv.r⟩
def Ws{o i value:Expr}{pos':Pos}{to ti tv:TE}{mo mi mv:ME}(ho:QE K X o to mo)(hi:QE K X i ti mi)(hv:QE K X value tv mv)(hs:swapsWithSole [.Subscript o i pos'] value pos.line X.env=pure false:=by rfl)(hw:swappedStores [.Subscript o i pos'] value X.env=pure none:=by rfl)
 (h1:(assignEach [.Subscript o i pos'] X.env).map (·.2)=[assign (.Subscript o i pos') X.env]:=by rfl)
 (ha:∀v,assign (.Subscript o i pos') X.env v=(do
  let ov <- holding [v] (eval o X.env)
  let iv <- holding [v,ov] (eval i X.env)
  standAt pos'
  holding [v,ov,iv] (setItem ov iv v)
  release [v,ov,iv] []):=by intro _;rfl):QS K X (.Assign [.Subscript o i pos'] value pos) (EQ tv (Uo to ti PD)) (DJ mo mi mv):=⟨RQ hv.p (aG ho.p hi.p TB ha) hs hw h1,W8 ho.r hi.r hv.r⟩
def ZX{tg iter:Expr}{body:List Stmt}{wi:TI}{g:TG}{tb:TS}{mi:MI}{n:MG}{mb:MS}(hc:X.calm=true)(hi:QI K X tg iter wi mi)(hg:QG K X tg g n)(hb:QSs K X body tb mb)(hp:PassesOwn (model X.prog X.w) X.A X.env X.xe:=by exact PassesOwn.never)
 (hs:∀x,foldedSetIterable iter X.env x=pure x:=by intro _;rfl):QS K X (.For tg iter body [] pos) (T3 wi g tb) (BS mi n mb):=⟨aB hp hc hi.p hg.p hb.p hs,Yr hi.r hg.r hb.r⟩
def Tu{body:List Stmt}{tb:TS}{mb:MS}(hc:QT K X c tA nA)(hb:QSs K X body tb mb)(hp:PassesOwn (model X.prog X.w) X.A X.env X.xe:=by exact PassesOwn.never):QS K X (.While c body [] pos) (M2 tA tb) (Cs nA mb):=⟨UA hp hc.p hb.p,TQ hc.r hb.r⟩
end
def Xc{P:Program}{w:World}{K:PySem.W.Frag}{mg:Str->Option Value}{base:Heap}{x:Str}{st:Stmt}{f:Addr}{fd:FuncData}{N ps:List Str}{j:Nat}{m:MS}(DA:DefAt K mg x st f fd ps)(S:FnScope N ps (A9 st))
 (h:∀(cdv:Value) (A:Around) (outer:List Env) (s:Shared) (H:Hp) (E:XK),Room j (A.deeper (envOfC x (A9 st) s.heap.objs.size f cdv))->∃t,QSs K (F9 CX0 P w K mg base N x (A9 st) f cdv A outer s H E).nox (BP st) t m):
 FnOk P w K mg base CX0 (j+1) f fd ps (spF K ps.length (mkF ps.length N.length m)):=by
 refine DA.fn.ok S (λvs H Q E h=>h.1) (λcdv A outer s H vs Q E hr hs=>?_);obtain⟨t,q⟩:=h cdv A outer s H E hr;exact⟨t,q.p,Nr q.r hs⟩
def fQ(tp:Bool)(h:Heap)(it l:Addr)(k:Nat):Prop:=match tp with
 |true=>h.IsTupleIter it l k
 |false=>h.IsListIter it l k
def SqS(K:PySem.W.Frag)(tp:Bool)(H:Hp)(a:Addr)(xs:List V):Prop:=match tp with
 |true=>SqT K H a xs
 |false=>SqL K H a xs
def cz(K:PySem.W.Frag)(ρ:List Addr)(H:Hp)(tp:Bool)(a:Addr)(ds:List D)(g:Gd):Prop:=∀(ρ2:List Addr) (H2:Hp) (hd2:Hd),Ext ρ H ρ2 H2->RH K ρ2 H2 hd2->GOk hd2 g->∃xs,SqS K tp H2 a xs/\RDs K ρ2 H2 ds xs
def RRw(K:PySem.W.Frag)(tp:Bool)(t:TE)(m:MI):Prop:=∀(ρ:List Addr) (σ:St) (H:Hp) (hd:Hd) (ls:Ls) (Q:VK) (d:List D) (g:Gd) (hd':Hd),RH K ρ H hd->RL K ρ H ls σ->m ls hd=some ((d,g),hd') ->
 (∀ρ' H' a,Ext ρ H ρ' H'->RH K ρ' H' hd'->GOk hd' g->cz K ρ' H' tp a d g->Q (.ref a) H')->t σ H Q
structure QR(K:PySem.W.Frag)(tp:Bool)(X:Cx)(e:Expr)(t:TE)(m:MI):Prop where
 p:PE X e t
 r:RRw K tp t m
section
variable{K:PySem.W.Frag}{ρ ρ':List Addr}{H H':Hp}{hd hd':Hd}
def Yl{t:TE}{m:ME}(h:RE K t m):RRw K true t (Az m):=by
 intro ρ σ H hd ls Q d g hd' hR hL hm hQ;obtain⟨⟨d1,h1⟩,e1,hm⟩:=fW hm;obtain⟨ds,e2,e3⟩:=fX hm;cases e3;refine h ρ σ H hd ls _ d1 _ hR hL e1 λρ1 H1 v x1 R1 r1=>?_;obtain⟨a,xs,rfl,q,r⟩:=r1.tup e2;exact hQ ρ1 H1 a x1 R1 (AE _) λρ2 H2 hd2 x2 R2 _=>⟨xs,(x2.grow R1).sq q,r.ext R1 x2⟩
def W6{t:TE}{m:ME}(h:RE K t m):RRw K false t (Bu m):=by
 intro ρ σ H hd ls Q d g hd' hR hL hm hQ;obtain⟨⟨d1,h1⟩,e1,hm⟩:=fW hm;dsimp only at hm;split at hm
 .next n=>
  split at hm
  .next ds q=>
   cases hm;refine h ρ σ H hd ls _ _ _ hR hL e1 λρ1 H1 v x1 R1 r1=>?_;simp only[RD]at r1;obtain⟨a,hn,rfl⟩:=r1;refine hQ ρ1 H1 a x1 R1 (λp z=>by simp at z;subst z;exact q) λρ2 H2 hd2 x2 R2 G2=>?_;have hn2:ρ2[n]?=some a:=by
    obtain⟨r,rfl,_⟩:=x2.pre;rw[List.getElem?_append_left (List.getElem?_eq_some_iff.mp hn).1];exact hn
   obtain⟨ys,e4,e5⟩:=R2.lst hn2 (G2 (n,d) (by simp));exact⟨ys,SqL.of e4,e5⟩
  .cases hm
 .next ns=>
  cases hm;refine h ρ σ H hd ls _ _ _ hR hL e1 λρ1 H1 v x1 R1 r1=>?_;simp only[RD]at r1;obtain⟨a,rfl,q⟩:=r1;exact hQ ρ1 H1 a x1 R1 (AE _) λρ2 H2 hd2 x2 R2 _=>⟨_,(q.grow (x2.grow R1)).sq,Dd⟩
 .cases hm
end
section
variable(K:PySem.W.Frag){X:Cx}{a b e:Expr}{ta tb te:TE}{me:ME}{m:MA}
def RO(h:QE K X e te me):QR K true X e te (Az me):=⟨h.p,Yl h.r⟩
def Ww(h:QE K X e te me):QR K false X e te (Bu me):=⟨h.p,W6 h.r⟩
end
section
variable{K:PySem.W.Frag}
def Gi(ml:MA)(mb:ME):ME:=λls hd=>(ml ls hd).bind λp=>(mb ls p.2).bind λq=>match q.1 with
 |.im (.int i)=>(atI p.1 i).map (·,q.2)
 |_=>none
def Z9{ta tb:TE}{ml:MA}{mb:ME}(ha:RN K ta ml)(hb:RE K tb mb):RE K (tOp (LZ K) ta tb) (Gi ml mb):=by
 and_intros;obtain⟨⟨d1,h1⟩,e1,hm⟩:=fW hm;obtain⟨⟨d2,h2⟩,e2,hm⟩:=fW hm;dsimp only at hm;split at hm
 .obtain⟨w,e3,e4⟩:=fX hm;cases e4;refine ha ρ σ H hd ls _ d1 h1 hR hL e1 λρ1 H1 a xs x1 R1 na oa ea r1=>?_;refine hb ρ1 σ H1 h1 ls _ _ _ R1 (hL.ext hR x1) e2 λρ2 H2 v2 x2 R2 r2=>?_;simp only[RD,RI]at r2;subst r2;have r1':=r1.ext R1 x2;obtain⟨j,j1,j2⟩:=Oa r1'.len e3;obtain⟨x,y1,y2⟩:=r1'.get j1;exact .inl ⟨a,xs,_,x,rfl,rfl,SqL.of (x2.keep a _ ea oa nt),j2 x y1,hQ ρ2 H2 x (x1.trans R1 x2) R2 y2⟩
 .cases hm
def G4(neg:Bool)(x y:PyData)(hd:Hd):Option (D×Hd):=if x.canLay0=true/\y.canLay0=true/\min x.depth y.depth<=60 then some (.im (.bl (if neg then !PyData.eqv x y else PyData.eqv x y)),hd)else none
def Cd(neg:Bool)(ma:ME)(ml:MA):ME:=λls hd=>(ma ls hd).bind λp=>(ml ls p.2).bind λq=>(pyD q.2 p.1).bind λx=>(BL q.1).bind λis=>G4 neg x (.list (I.pys is)) q.2
def Ep(neg:Bool)(ml mk:MA):ME:=λls hd=>(ml ls hd).bind λp=>(mk ls p.2).bind λq=>(BL p.1).bind λis=>(BL q.1).bind λjs=>G4 neg (.list (I.pys is)) (.list (I.pys js)) q.2
def rEN(K:PySem.W.Frag)(neg:Bool):R2:=λx y H Q=>∃d e,Rep K H d x/\Rep K H e y/\d.canLay0=true/\e.canLay0=true/\min d.depth e.depth<=60/\Q (.bl (if neg then !PyData.eqv d e else PyData.eqv d e)) H
def K4{ρ:List Addr}{H:Hp}{a:Addr}{xs:List V}{ds:List D}{is:List I}(ea:H a=some (.lst xs))(r:RDs K ρ H ds xs)(e:BL ds=some is):Rep K H (.list (I.pys is)) (.ref a):=by
 rw[GD e]at r;simp only[Rep];exact⟨a,xs,rfl,SqL.of ea,r.is.rep⟩
def Wa{neg:Bool}{ta tb:TE}{ma:ME}{ml:MA}(ha:RE K ta ma)(hb:RN K tb ml):RE K (tOp (rEN K neg) ta tb) (Cd neg ma ml):=by
 and_intros;obtain⟨⟨d1,h1⟩,e1,hm⟩:=fW hm;obtain⟨⟨d2,h2⟩,e2,hm⟩:=fW hm;obtain⟨x,e3,hm⟩:=fW hm;obtain⟨is,e4,hm⟩:=fW hm;unfold G4 at hm;split at hm
 .next c=>
  cases hm;refine ha ρ σ H hd ls _ d1 h1 hR hL e1 λρ1 H1 v x1 R1 r1=>?_;refine hb ρ1 σ H1 h1 ls _ d2 _ R1 (hL.ext hR x1) e2 λρ2 H2 a xs x2 R2 na oa ea r2=>?_;exact⟨_,_,FJ R2 (r1.ext R1 x2) e3,K4 ea r2 e4,c.1,c.2.1,c.2.2,hQ ρ2 H2 _ (x1.trans R1 x2) R2 (by simp[RD,RI])⟩
 .cases hm
def WZ{neg:Bool}{ta tb:TE}{ml mk:MA}(ha:RN K ta ml)(hb:RN K tb mk):RE K (tOp (rEN K neg) ta tb) (Ep neg ml mk):=by
 and_intros;obtain⟨⟨d1,h1⟩,e1,hm⟩:=fW hm;obtain⟨⟨d2,h2⟩,e2,hm⟩:=fW hm;obtain⟨is,e4,hm⟩:=fW hm;obtain⟨js,e3,hm⟩:=fW hm;unfold G4 at hm;split at hm
 .next c=>
  cases hm;refine ha ρ σ H hd ls _ d1 h1 hR hL e1 λρ1 H1 a xs x1 R1 na oa ea r1=>?_;refine hb ρ1 σ H1 h1 ls _ d2 _ R1 (hL.ext hR x1) e2 λρ2 H2 b ys x2 R2 nb ob eb r2=>?_;exact⟨_,_,K4 (x2.keep a _ ea oa nt) (r1.ext R1 x2) e4,K4 eb r2 e3,c.1,c.2.1,c.2.2,hQ ρ2 H2 _ (x1.trans R1 x2) R2 (by simp[RD,RI])⟩
 .cases hm
end
def Re(K:PySem.W.Frag){X:Cx}(hu:X.A.units+64<cLine)(hK:X.K=K:=by rfl):OpR X (compareOp .Eq) (rEN K false):=K9 K hu hK
def Ra(K:PySem.W.Frag){X:Cx}(hu:X.A.units+64<cLine)(hK:X.K=K:=by rfl):OpR X (compareOp .NotEq) (rEN K true):=K8 K hu hK
section
variable(K:PySem.W.Frag){X:Cx}{a b e:Expr}{ta tb te:TE}{ma mb me:ME}{m mk:MA}{pos:Pos}{op:CmpOp}{neg:Bool}
def Zv(ha:QN K X a ta m)(hb:QE K X b tb mb)(hs:KZ b:=by exact λ_ _=>rfl)(hK:X.K=K:=by rfl):QE K X (.Subscript a b pos) (tOp (LZ K) ta tb) (Gi m mb):=⟨VR ((Mw K hK).or (OH K hK)) ha.p hb.p hs,Z9 ha.r hb.r⟩
def O9(ho:OpR X (compareOp op) (rEN K neg))(ha:QE K X a ta ma)(hb:QN K X b tb m)(hm:behindInMarks op b=false:=by first|exact Ga _|rfl):QT K X (.Compare a [op] [b] pos) (Ei (tOp (rEN K neg) ta tb)) (A6 (Cd neg ma m)):=⟨HK ho ha.p hb.p hm,D7 (Wa ha.r hb.r)⟩
def O8(ho:OpR X (compareOp op) (rEN K neg))(ha:QN K X a ta m)(hb:QN K X b tb mk)(hm:behindInMarks op b=false:=by first|exact Ga _|rfl):QT K X (.Compare a [op] [b] pos) (Ei (tOp (rEN K neg) ta tb)) (A6 (Ep neg m mk)):=⟨HK ho ha.p hb.p hm,D7 (WZ ha.r hb.r)⟩
end
def BI(lo:Int):Nat->List V
 |0=>[]
 |n+1=>.int lo::BI (lo+1) n
def JL(lo:Int)(n:Nat):(BI lo n).length=n:=by
 induction n generalizing lo with
 |zero=>rfl
 |succ n ih=>simp[BI,ih]
def Fh{K:PySem.W.Frag}{ρ:List Addr}{H:Hp}(lo:Int)(n:Nat):RDs K ρ H (AT lo n) (BI lo n):=by
 induction n generalizing lo with
 |zero=>simp[AT,BI,RDs]
 |succ n ih=>exact .cons (by simp[RD,RI]) (ih _)
def JJ{lo:Int}:∀{n:Nat} {us:List Value},us.length=n->(∀(j:Nat) (v:Value),us[j]?=some v->∃t,v=.int (lo+j*1) t)->Vals (BI lo n) us
 |0,us,h,_=>by
  have:us=[]:=List.length_eq_zero_iff.mp h;subst this;exact .nil
 |n+1,[],h,_=>by simp at h
 |n+1,u::us,h,k=>by
  obtain⟨t,e⟩:=k 0 u rfl;refine .cons ⟨t,by rw[e];simp⟩ (JJ (by simpa using h) λj v q=>?_);obtain⟨t',e'⟩:=k (j+1) v (by simpa using q);exact⟨t',by rw[e'];congr 1;push_cast;omega⟩
section
variable{prog:Program}{w:World}{A:Around}{E:Value->Shared->Prop}{s:Shared}
def Ho{Q:List Value->Shared->Prop}{r:Addr}{a b c:Int}{t u v:Tok}{n:Nat}(hh:A.handled=none)(hr:IsRange s.heap r a b c t u v)(hsm:Builtin.Range.small a b c=true)(hn:Builtin.Range.rangeSize a b c=n)(hl:n<=2^24)
 (hQ:∀g tk (acc:Array Value),(∀b o,s.heap.get? b=some o->g.get? b=some o)->ItemsOf (λi v=>∃t,v=.int (a+i*c) t) acc n->Q acc.toList { s with heap:=g,toks:=tk }):
 wpAny (model prog w) A (collect (.ref r)) Q E s:=by
 unfold collect;refine wpAny_bind (wpAny_runValue (codeAny_builtin F.entry_proto_collect ?_));rw[Around.under_plainId F.plain_proto_collect _];show wpAny _ A.in1 (newList [] >>= λl=>again (.builtin "list.__iadd__" ⟨[l,.ref r],[]⟩)) _ _ s;refine wpAny_bind (wpAny_newObj_type (wpAny_pure ⟨plainId_quiet F.plain_list_iadd _,codeAny_builtin F.entry_list_iadd ?_⟩));rw[Around.under_plainId F.plain_list_iadd _];show wpAny _ A.in1 (Builtin.List.listExtendWith (.ref s.heap.objs.size) (.ref r) (.ref s.heap.objs.size)) _ _ _;have e0:(s.heap.push { cls:=.type "list",data:=.seq ([]:List Value).toArray }).get? s.heap.objs.size=some { cls:=.type "list",data:=.seq #[] 0 }:=Heap.get?_push_size _ rfl;have fin:∀g tk (acc:Array Value) c',(∀b o,b≠s.heap.objs.size->(s.heap.push { cls:=.type "list",data:=.seq ([]:List Value).toArray }).get? b=some o->g.get? b=some o)->g.get? s.heap.objs.size=some { cls:=.type "list",dict:=none,data:=.seq acc c',slots:=#[] }->ItemsOf (λi v=>∃t,v=.int (a+i*c) t) acc n ->
  wpAny (model prog w) A (load s.heap.objs.size >>= λo=>match o.data with|Data.seq xs epoch=>pure xs.toList|x=>unsupported "internal:collect") Q E { s with heap:=g,toks:=tk }:=λg tk acc c' kp eS it=>
  wpAny_bind (wpAny_load eS (wpAny_pure (hQ g tk acc (λb o q=>kp b o (ne_of_lt (Heap.lt_size q)) (Heap.get?_push_of_some _ q)) it)))
 refine wpAny_mono (wpAny_extend_range (A:=A) (R:=λr s'=>r=.ok (.ret (.ref s.heap.objs.size))/\∃g tk,s'={ s with heap:=g,toks:=tk }/\wpAny (model prog w) A (load s.heap.objs.size >>= λo=>match o.data with|Data.seq xs epoch=>pure xs.toList|x=>unsupported "internal:collect") Q E s')
  (s:={ s with heap:=s.heap.push { cls:=.type "list",data:=.seq ([]:List Value).toArray } }) hh (Heap.get?_push_of_some _ hr) hsm hn hl s.heap.objs.size (.ref s.heap.objs.size) 0 e0 λg tk acc c' kp eS it=>⟨rfl,g,tk,rfl,fin g tk acc c' kp eS it⟩) (λfn s' h=>?_) (λe s' h=>absurd h.1 (by simp))
 cases fn with
 |done f=>
  obtain⟨e,_,_,_,q⟩:=h;cases e;exact q
 |again c'=>exact⟨h.1,codeAny_mono h.2 λr s'' hr=>by obtain⟨rfl,_,_,_,q⟩:=hr;exact q⟩
def M0(r:Addr)(a b c:Int)(t u v:Tok)(n:Nat)(hsm:Builtin.Range.small a b c=true)(hn:Builtin.Range.rangeSize a b c=n)(hl:n<=2^24):
 Meets (Builtin.«tuple.__new__» ⟨[.type "tuple",.ref r],[]⟩)
  (λ(A:Around) (R:Result->Shared->Prop) (s:Shared)=>A.handled=none/\IsRange s.heap r a b c t u v/\∀(g:Heap) (tk:Nat) (acc:Array Value),(∀b o,s.heap.get? b=some o->g.get? b=some o)->ItemsOf (λi v=>∃t,v=.int (a+i*c) t) acc n->R (.ok (.ret (.ref g.objs.size))) { s with heap:=g.push { cls:=.type "tuple",data:=.seq acc },toks:=tk }):=
 .of_wp λprog w A R s h=>by
  obtain⟨hp,gg,d,tk,os⟩:=s;obtain⟨hh,hr,h⟩:=h;have hsub:=sub_tuple_self;have hinit:=init_tuple_lookup;have hmh:=madeHere_tuple;have hT:Shared.TypeIs ⟨hp,gg,d,tk,os⟩ (.ref r) "range":=⟨_,hr,rfl⟩
  have hh':A.in1.handled=none:=hh
  wp_walk using wpAny_typeOf hT,wpAny_loadPart' hr,Ho hh' hr hsm hn hl
  intro g tk2 acc kp it;show wpAny _ _ (Builtin.Tuple.tupleExact acc.toList.toArray >>= λv=>ret v) _ _ _;unfold Builtin.Tuple.tupleExact;refine wpAny_bind (wpAny_newObj_type ?_ (by show acc.toList.toArray.size<=sizeLine;rw[sizeLine_eq];have:=it.1;simp only[Array.toArray_toList];omega));refine wpAny_pure ⟨_,rfl,?_⟩;have e:acc.toList.toArray=acc:=by simp
  rw[e];exact h g tk2 acc kp it
end
def O5:List V->Hp->VK->Prop:=λxs H Q=>∃j:Int,xs=[.int j]/\∀p,H p=none->Q (.ref p) (upd H p (.rng 0 j))
def O4:List V->Hp->VK->Prop:=λxs H Q=>∃i j:Int,xs=[.int i,.int j]/\∀p,H p=none->Q (.ref p) (upd H p (.rng i j))
def Mg:List V->Hp->VK->Prop:=λxs H Q=>∃a lo hi,xs=[.ref a]/\H a=some (.rng lo hi)/\(-(2^62)<=lo/\lo<2^62/\-(2^62)<=hi/\hi<2^62)/\(hi-lo).toNat<=2^24/\∀p,H p=none->Q (.ref p) (upd H p (.lst (BI lo (hi-lo).toNat)))
def K6:List V->Hp->VK->Prop:=λxs H Q=>∃a lo hi,xs=[.ref a]/\H a=some (.rng lo hi)/\(-(2^62)<=lo/\lo<2^62/\-(2^62)<=hi/\hi<2^62)/\(hi-lo).toNat<=2^24/\∀p,H p=none->Q (.ref p) (upd H p (.tup (BI lo (hi-lo).toNat)))
section
variable{X:Cx}
def call_rng1:CallR X (.type "range") O5:=by
 intro pins s σ H xs us Q I r h;obtain⟨j,rfl,q⟩:=h;obtain⟨u,rfl,t,rfl⟩:=BX r;exact call_range_1 ⟨.ref s.heap.objs.size,_,I.laid (a:=s.heap.objs.size) (o:=.rng 0 j) (λb o e=>Heap.get?_push_of_some _ e) (le_refl _) ⟨_,_,_,Heap.get?_push_size _ rfl⟩,rfl,q _ (I.hok.fresh (le_refl _))⟩
def L3:CallR X (.type "range") O4:=by
 intro pins s σ H xs us Q I r h;obtain⟨i,j,rfl,q⟩:=h;obtain⟨u,v,rfl,⟨t,rfl⟩,⟨t',rfl⟩⟩:=Og r;exact call_range_2 ⟨.ref s.heap.objs.size,_,I.laid (a:=s.heap.objs.size) (o:=.rng i j) (λb o e=>Heap.get?_push_of_some _ e) (le_refl _) ⟨_,_,_,Heap.get?_push_size _ rfl⟩,rfl,q _ (I.hok.fresh (le_refl _))⟩
def P1{lo hi:Int}:Builtin.Range.rangeSize lo hi 1=((hi-lo).toNat:Nat):=by rw[rangeSize_one];split<;>omega
def Fu{lo:Int}{n:Nat}{acc:Array Value}(it:ItemsOf (λi v=>∃t,v=.int (lo+i*1) t) acc n):Vals (BI lo n) acc.toList:=JJ (by simpa using it.1) λj v q=>it.2 j v (by simpa using q)
def Py(hc:X.calm=true):CallR X (.type "list") Mg:=by
 intro pins s σ H xs us Q I r h;obtain⟨a,lo,hi,rfl,ha,⟨b1,b2,b3,b4⟩,hz,q⟩:=h;obtain⟨u,rfl,ru⟩:=BX r;cases ru;obtain⟨t,u,v,hr⟩:∃t u v,s.heap.get? a=some { cls:=.type "range",data:=.fields #[.int lo t,.int hi u,.int 1 v] }:=I.hok a _ ha;refine call_list_range (I.ok.hd hc) hr (small_one b1 b2 b3 b4) P1 hz λg tk acc c' kp e it=>?_;exact⟨.ref s.heap.objs.size,_,I.laid (t':=tk) (o:=.lst _) kp (le_refl _) ⟨by rw[JL,sizeLine_eq];omega,acc.toList,c',Fu it,by simpa using e⟩,rfl,q _ (I.hok.fresh (le_refl _))⟩
def Nj(hc:X.calm=true):CallR X (.type "tuple") K6:=by
 intro pins s σ H xs us Q I r h;obtain⟨a,lo,hi,rfl,ha,⟨b1,b2,b3,b4⟩,hz,q⟩:=h;obtain⟨u,rfl,ru⟩:=BX r;cases ru;obtain⟨t,u,v,hr⟩:∃t u v,s.heap.get? a=some { cls:=.type "range",data:=.fields #[.int lo t,.int hi u,.int 1 v] }:=I.hok a _ ha;refine callType_new F.called_tuple (by decide) (F.typeCall_tuple_1 _) (F.newCall_tuple_1 _) (λobj=>F.args_object_init_2 obj _) F.entry_tuple_new (M0 a lo hi 1 t u v _ (small_one b1 b2 b3 b4) P1 hz)
  ⟨I.ok.hd hc,hr,λg tk acc kp it=>⟨⟨_,Heap.get?_push_size _ rfl,rfl⟩,?_⟩⟩
 have I1:Inv X pins σ H { s with heap:=g,toks:=tk }:=I.kept kp;exact⟨.ref g.objs.size,_,I1.laid (t':=tk) (o:=.tup (BI lo (hi-lo).toNat)) (λb o e=>Heap.get?_push_of_some _ e) (le_refl _) ⟨by rw[JL,sizeLine_eq];omega,acc.toList,Fu it,⟨_,Heap.get?_push_size _ rfl,rfl,⟨0,by simp⟩,rfl⟩⟩,rfl,q _ (I1.hok.fresh (le_refl _))⟩
end
section
variable{K:PySem.W.Frag}
open Classical in
def Ge(m:MA):MA:=λls hd=>(m ls hd).bind λp=>match p.1 with
 |[.im (.int j)]=>if HJ j then some (AT 0 j.toNat,p.2)else none
 |[.im (.int i),.im (.int j)]=>if VC i j then some (AT i (j-i).toNat,p.2)else none
 |_=>none
def JO:List V->Hp->VK->Prop:=λxs H Q=>O5 xs H Q∨O4 xs H Q
def TZ{t:TA}{m:MA}(h:RA K t m):RN K (tCB Mg (BH (tCB JO t) BR)) (Ge m):=by
 and_intros;obtain⟨⟨d1,h1⟩,e1,hm⟩:=fW hm;dsimp only at hm;refine h ρ σ H hd ls _ d1 h1 hR hL e1 λρ1 H1 v x1 R1 r1=>?_;split at hm
 .next j=>
  split at hm
  .next c=>
   have c:j<2^24/\-(2^62)<=j:=c;cases hm;simp only[RDs,RD,RI]at r1;obtain⟨x,r,rfl,rfl,rfl⟩:=r1;refine .inl ⟨j,rfl,λp hp=>⟨p,0,j,rfl,AI,⟨by decide,by decide,c.2,by omega⟩,by omega,λl hl=>?_⟩⟩;obtain⟨R2,x2⟩:=R1.hid (ho:=.rng 0 j) hp;obtain⟨R3,x3⟩:=R2.hid (ho:=.lst (BI 0 (j-0).toNat)) hl;refine hQ ρ1 _ l (BI 0 (j-0).toNat) ((x1.trans R1 x2).trans R2 x3) R3 ((x1.trans R1 x2).none hR hl R2) (R2.out hl) AI ?_;rw[Int.sub_zero];exact Fh 0 _
  .cases hm
 .next i j=>
  split at hm
  .next c=>
   cases hm;simp only[RDs,RD,RI]at r1;obtain⟨x,r,rfl,rfl,y,r2,rfl,rfl,rfl⟩:=r1;refine .inr ⟨i,j,rfl,λp hp=>⟨p,i,j,rfl,AI,⟨c.1.1,c.1.2,c.2.1.1,c.2.1.2⟩,c.2.2,λl hl=>?_⟩⟩;obtain⟨R2,x2⟩:=R1.hid (ho:=.rng i j) hp;obtain⟨R3,x3⟩:=R2.hid (ho:=.lst (BI i (j-i).toNat)) hl;exact hQ ρ1 _ l (BI i (j-i).toNat) ((x1.trans R1 x2).trans R2 x3) R3 ((x1.trans R1 x2).none hR hl R2) (R2.out hl) AI (Fh i _)
  .cases hm
 .cases hm
def JT(m:MA):ME:=λls hd=>(Ge m ls hd).bind λp=>some (B4 p.1,p.2)
def WV{t:TA}{m:MA}(h:RA K t m):RE K (tCB K6 (BH (tCB JO t) BR)) (JT m):=by
 and_intros;obtain⟨⟨dd,h0⟩,e0,hm⟩:=fW hm;cases hm;obtain⟨⟨d1,h1⟩,e1,hm⟩:=fW e0;dsimp only at hm;refine h ρ σ H hd ls _ d1 h1 hR hL e1 λρ1 H1 v x1 R1 r1=>?_;split at hm
 .next j=>
  split at hm
  .next c=>
   have c:j<2^24/\-(2^62)<=j:=c;cases hm;simp only[RDs,RD,RI]at r1;obtain⟨x,r,rfl,rfl,rfl⟩:=r1;refine .inl ⟨j,rfl,λp hp=>⟨p,0,j,rfl,AI,⟨by decide,by decide,c.2,by omega⟩,by omega,λl hl=>?_⟩⟩;obtain⟨R2,x2⟩:=R1.hid (ho:=.rng 0 j) hp;obtain⟨R3,x3⟩:=R2.hid (ho:=.tup (BI 0 (j-0).toNat)) hl;refine hQ ρ1 _ _ ((x1.trans R1 x2).trans R2 x3) R3 (CU (SqT.of AI) ?_);rw[Int.sub_zero];exact Fh 0 _
  .cases hm
 .next i j=>
  split at hm
  .next c=>
   cases hm;simp only[RDs,RD,RI]at r1;obtain⟨x,r,rfl,rfl,y,r2,rfl,rfl,rfl⟩:=r1;refine .inr ⟨i,j,rfl,λp hp=>⟨p,i,j,rfl,AI,⟨c.1.1,c.1.2,c.2.1.1,c.2.1.2⟩,c.2.2,λl hl=>?_⟩⟩;obtain⟨R2,x2⟩:=R1.hid (ho:=.rng i j) hp;obtain⟨R3,x3⟩:=R2.hid (ho:=.tup (BI i (j-i).toNat)) hl;exact hQ ρ1 _ _ ((x1.trans R1 x2).trans R2 x3) R3 (CU (SqT.of AI) (Fh i _))
  .cases hm
 .cases hm
def Cc:∀{xs ys:List Int},xs.Perm ys->xs.Pairwise (·<=·)->ys.Pairwise (·<=·)->xs=ys:=λ{xs ys} p a b=>
 p.eq_of_pairwise (le:=(·<=·)) (λ_ _ _ _ h1 h2=>Int.le_antisymm h1 h2) a b
def AW(xs:List Int):List Int:=xs.mergeSort (λa b=>decide (a<=b))
def Bq(xs:List Int):(AW xs).Perm xs:=List.mergeSort_perm ..
def CT(xs:List Int):(AW xs).Pairwise (·<=·):=by
 have:=List.pairwise_mergeSort (le:=λa b:Int=>decide (a<=b)) (by intro a b c h1 h2;simp at *;omega) (by intro a b;simp;omega) xs;exact this.imp (by simp)
def Bm(m:MI):MA:=λls hd=>(m ls hd).bind λp=>(Ax p.1.1).bind λns=>if ns.length<64 then some ((AW ns).map λi=>.im (.int i),p.2)else none
def P5{t:TE}{m:MI}(h:RRw K false t m):RN K (tCB (K7 K) (BH t BR)) (Bm m):=by
 and_intros;obtain⟨⟨⟨d1,g1⟩,h1⟩,e1,hm⟩:=fW hm;obtain⟨ns,e2,hm⟩:=fW hm;split at hm
 .next c=>
  cases hm;refine h ρ σ H hd ls _ d1 g1 _ hR hL e1 λρ1 H1 a x1 R1 G1 S1=>?_;obtain⟨xs,q,r⟩:=S1 ρ1 H1 _ .refl R1 G1;have e3:d1=ns.map λi=>.im (.int i):=C5 e2;rw[e3]at r;have:=EG r;subst this;refine⟨a,ns,rfl,q,c,λp ns' hp pm pw=>?_⟩;have:ns'=AW ns:=Cc (pm.trans (Bq ns).symm) pw (CT ns);subst this;obtain⟨R2,x2⟩:=R1.hid (ho:=.lst ((AW ns).map V.int)) hp;exact hQ ρ1 _ p _ (x1.trans R1 x2) R2 (x1.none hR hp R1) (R1.out hp) AI Dd
 .cases hm
end
section
variable(K:PySem.W.Frag){X:Cx}{a b e:Expr}{ta tb te:TE}{me:ME}{m:MA}{t:TA}{p p2 pos pos2:Pos}{es:List Expr}
def Tx(hm:X.mg "list"=none)(hm2:X.mg "range"=none)(ha:QA K X (a::es) t m)(hc:X.calm=true:=by rfl)(hg:Gl X "list":=by rfl)(hg2:Gl X "range":=by rfl)(he2:starEach (a::es) X.env=(false,eval a X.env)::starEach es X.env:=by rfl)(hpl:(backTo pos2 (starEach es X.env)).any (·.1)=false:=by rfl)
 (he:starEach [.Call (.Name "range" p2) (a::es) [] pos2] X.env=[(false,eval (.Call (.Name "range" p2) (a::es) [] pos2) X.env)]:=by rfl):
 QN K X (.Call (.Name "list" p) [.Call (.Name "range" p2) (a::es) [] pos2] [] pos) (tCB Mg (BH (tCB JO t) BR)) (Ge m):=
 ⟨C0 (Py hc) hg hm KW (Bi (C0 (call_rng1.or L3) hg2 hm2 boot_range ha.p (by decide) (by decide) he2 hpl) Bw he) (by decide) (by decide) he rfl,TZ ha.r⟩
def X7(hm:X.mg "tuple"=none)(hm2:X.mg "range"=none)(ha:QA K X (a::es) t m)(hc:X.calm=true:=by rfl)(hg:Gl X "tuple":=by rfl)(hg2:Gl X "range":=by rfl)(he2:starEach (a::es) X.env=(false,eval a X.env)::starEach es X.env:=by rfl)(hpl:(backTo pos2 (starEach es X.env)).any (·.1)=false:=by rfl)
 (he:starEach [.Call (.Name "range" p2) (a::es) [] pos2] X.env=[(false,eval (.Call (.Name "range" p2) (a::es) [] pos2) X.env)]:=by rfl):
 QE K X (.Call (.Name "tuple" p) [.Call (.Name "range" p2) (a::es) [] pos2] [] pos) (tCB K6 (BH (tCB JO t) BR)) (JT m):=
 ⟨C0 (Nj hc) hg hm bt_tuple (Bi (C0 (call_rng1.or L3) hg2 hm2 boot_range ha.p (by decide) (by decide) he2 hpl) Bw he) (by decide) (by decide) he rfl,WV ha.r⟩
def PL{mi:MI}(hm:X.mg "sorted"=none)(ha:QR K false X e te mi)(hg:Gl X "sorted":=by rfl)(he:starEach [e] X.env=[(false,eval e X.env)]:=by rfl)(hK:X.K=K:=by rfl):QN K X (.Call (.Name "sorted" p) [e] [] pos) (tCB (K7 K) (BH te BR)) (Bm mi):=
 ⟨EW (NL K hK) hg hm Ex (Bi ha.p Bw he) (by decide) (by decide) he rfl,P5 ha.r⟩
end
end L2
namespace L2
structure BltA(mg:PySem.Str->Option PySem.Value):Prop where
 list:mg "list"=none
 tuple:mg "tuple"=none
 len:mg "len"=none
 range:mg "range"=none
 repr:mg "repr"=none
 sum:mg "sum"=none
 min:mg "min"=none
 max:mg "max"=none
 abs:mg "abs"=none
 all:mg "all"=none
 any:mg "any"=none
 sorted:mg "sorted"=none
 zip:mg "zip"=none
 isinstance:mg "isinstance"=none
 int:mg "int"=none
 bool:mg "bool"=none
 str:mg "str"=none
 set:mg "set"=none
 enumerate:mg "enumerate"=none
 reversed:mg "reversed"=none
 dict:mg "dict"=none
end L2
namespace L2
open PySem PySem.Spec PyProof.Rows
section
variable{ls:Ls}{hd:Hd}{a b c:MS}{ma mb mc:ME}{ta tb:MT}{m m1 m2:MA}{n:MG}{ns:MGs}{d e:D}
@[simp] theorem Jc:A5 a b ls hd=(a ls hd).bind λp=>match p.1 with
 |.nx ls1=>b ls1 p.2
 |f=>some (f,p.2):=rfl
@[simp] theorem ON:AY ls hd=some (.nx ls,hd):=rfl
@[simp] theorem YE:B8 ma ls hd=(ma ls hd).bind λp=>some (.nx ls,p.2):=rfl
@[simp] theorem SE:AL ma ls hd=(ma ls hd).bind λp=>some (.rt p.1,p.2):=rfl
@[simp] theorem dm:cW ls hd=some (.rt (.im .non),hd):=rfl
@[simp] theorem da:az ls hd=some (.bk ls,hd):=rfl
@[simp] theorem e9:cZ ls hd=some (.ct ls,hd):=rfl
@[simp] theorem N9:Af ta a b ls hd=(ta ls hd).bind λp=>if p.1=true then a ls p.2 else b ls p.2:=rfl
@[simp] theorem Je:F1 ma n ls hd=(ma ls hd).bind λp=>(n p.1 ls p.2).map λls'=>(.nx ls',p.2):=rfl
@[simp] theorem KM(i:Nat):AA i d ls hd=some (ls.set i (some d)):=rfl
@[simp] theorem dt(k:Nat):Bb k ns d ls hd=(AX d).bind λds=>if ds.length=k then ns ds ls hd else none:=rfl
@[simp] theorem dW(d:D)(ds:List D):AO n ns (d::ds) ls hd=(n d ls hd).bind λls1=>ns ds ls1 hd:=rfl
@[simp] theorem dv:Bc [] ls hd=some ls:=rfl
@[simp] theorem bL(ix:List Nat):Pb ix m ls hd=(m ls hd).bind λp=>if p.1.length=ix.length then some (.nx ((ix.zip p.1).foldl (λl q=>l.set q.1 (some q.2)) ls),p.2)else none:=rfl
@[simp] theorem dq(i j k:Nat):cX i j k m ls hd=Pb [k,j,i] (λls hd=>(m ls hd).map λp=>(p.1.reverse,p.2)) ls hd:=rfl
@[simp] theorem DP(i:Nat):A0 i ls hd=match ls[i]? with
 |some (some d)=>some (d,hd)
 |_=>none:=rfl
@[simp] theorem fP(i:I):mC i ls hd=some (.im i,hd):=rfl
@[simp] theorem Li(f:D->D->Hd->Option (D×Hd)):mOp f ma mb ls hd=(ma ls hd).bind λp=>(mb ls p.2).bind λq=>f p.1 q.1 q.2:=rfl
@[simp] theorem NB:D3 ta tb ls hd=(ta ls hd).bind λp=>if p.1=true then tb ls p.2 else some (false,p.2):=rfl
@[simp] theorem fD:mOr ta tb ls hd=(ta ls hd).bind λp=>if p.1=true then some (true,p.2)else tb ls p.2:=rfl
@[simp] theorem eL:Gf ta ls hd=(ta ls hd).bind λp=>some (!p.1,p.2):=rfl
@[simp] theorem Jb:E3 ma ls hd=(ma ls hd).bind λp=>(Cz p.2 p.1).map (·,p.2):=rfl
@[simp] theorem Ha:A6 ma ls hd=(ma ls hd).bind λp=>match p.1 with
 |.im (.bl b)=>some (b,p.2)
 |_=>none:=rfl
@[simp] theorem fE:mIf ta ma mb ls hd=(ta ls hd).bind λp=>if p.1=true then ma ls p.2 else mb ls p.2:=rfl
@[simp] theorem eB:Fs ma mb ls hd=(A6 ma ls hd).bind λp=>if p.1=true then mb ls p.2 else some (.im (.bl false),p.2):=rfl
@[simp] theorem eK:dM ma mb ls hd=(A6 ma ls hd).bind λp=>if p.1=true then some (.im (.bl true),p.2)else mb ls p.2:=rfl
@[simp] theorem du:HN ma ls hd=(A6 ma ls hd).bind λp=>some (.im (.bl (!p.1)),p.2):=rfl
@[simp] theorem Jd:A4 ls hd=some ([],hd):=rfl
@[simp] theorem KO:A1 ma m ls hd=(ma ls hd).bind λp=>(m ls p.2).bind λq=>some (p.1::q.1,q.2):=rfl
open Classical in
@[simp] theorem bI:BC m ls hd=(m ls hd).bind λp=>if BT p.1.length then some (B4 p.1,p.2)else none:=rfl
open Classical in
@[simp] theorem bO:Aj m ls hd=(m ls hd).bind λp=>if BT p.1.length then some (p.1,p.2)else none:=rfl
@[simp] theorem bM:Aa m ls hd=(m ls hd).bind λp=>some (.mu p.2.length,p.2++[.lst p.1]):=rfl
@[simp] theorem bN:IW ma ls hd=(ma ls hd).bind λp=>match p.1 with
 |.im (.int i)=>some (.im (.int (-i)),p.2)
 |_=>none:=rfl
@[simp] theorem eN(neg:Bool):Fp neg ma ls hd=(ma ls hd).bind λp=>some (.im (.bl (match p.1 with
 |.im .non=>!neg
 | _=>neg)),p.2):=rfl
@[simp] theorem fF(g:Int->Int->Option I)(i j:Int):fI g (.im (.int i)) (.im (.int j)) hd=(g i j).map (.im ·,hd):=rfl
@[simp] theorem KN(f g:D->D->Hd->Option (D×Hd)):Eu f g d e hd=match f d e hd with
 |some z=>some z
 |none=>g d e hd:=rfl
@[simp] theorem NA(neg:Bool)(i j:Int):E6 neg (.im (.int i)) (.im (.int j)) hd=some (.im (.bl (if neg then !decide (i=j)else decide (i=j))),hd):=by simp[E6,scI,MH]
@[simp] theorem eO(neg:Bool)(i j:Str):E6 neg (.im (.str i)) (.im (.str j)) hd=some (.im (.bl (if neg then !decide (i=j)else decide (i=j))),hd):=by simp[E6,scI,MH]
@[simp] theorem Vc(i:Int):gIx d (.im (.int i)) hd=(Ad hd d).bind λds=>(atI ds i).map (·,hd):=rfl
@[simp] theorem YG:DM d e hd=(Bx hd d).bind λkvs=>(C4 e).bind λk=>(BQ kvs k).map (·,hd):=rfl
@[simp] theorem fG(f:List D->Hd->Option (D×Hd)):mCB f m ls hd=(m ls hd).bind λp=>f p.1 p.2:=rfl
@[simp] theorem cn(tp:Bool)(g:List D->Option D):f1 tp g [d] hd=((if tp then Ad hd d else Ar hd d)).bind λds=>(g ds).map (·,hd):=rfl
@[simp] theorem SG(g:List D->Option D):B7 g m ls hd=(m ls hd).bind λp=>(g p.1).map (·,p.2):=rfl
@[simp] theorem Pp(f:D->List D->Hd->Option (D×Hd)):mMt f ma m ls hd=(ma ls hd).bind λp=>match Ar p.2 p.1 with
 |some _=>(m ls p.2).bind λq=>f p.1 q.1 q.2
 |none=>none:=rfl
@[simp] theorem dy(i j:Int):Dm [.im (.int i),.im (.int j)] hd=some (.im (.int (if j>i then j else i)),hd):=rfl
@[simp] theorem dw(i j:Int):HZ [.im (.int i),.im (.int j)] hd=some (.im (.int (if j<i then j else i)),hd):=rfl
@[simp] theorem eP(i:Int):dR [.im (.int i)] hd=some (.im (.int (if i<0 then -i else i)),hd):=rfl
@[simp] theorem bP:Gi m ma ls hd=(m ls hd).bind λp=>(ma ls p.2).bind λq=>match q.1 with
 |.im (.int i)=>(atI p.1 i).map (·,q.2)
 |_=>none:=rfl
@[simp] theorem bQ:Az ma ls hd=(ma ls hd).bind λp=>(AX p.1).map λds=>((ds,[]),p.2):=rfl
@[simp] theorem bS:IX m ls hd=(m ls hd).map λp=>((p.1,[]),p.2):=rfl
@[simp] theorem SF:Bu ma ls hd=(ma ls hd).bind λp=>match p.1 with
 |.mu n=>match p.2[n]? with
  |some (.lst ds)=>some ((ds,[(n,ds)]),p.2)
  |_=>none
 |.ro ns=>some ((ns.map λn=>.im (.int n),[]),p.2)
 |_=>none:=rfl
open Classical in
@[simp] theorem bR:CH m ls hd=(m ls hd).bind λp=>match p.1 with
 |[.im (.int j)]=>if Fd j then some ((AT 0 j.toNat,[]),p.2)else none
 |_=>none:=rfl
open Classical in
@[simp] theorem YD:HQ m ls hd=(m ls hd).bind λp=>match p.1 with
 |[.im (.int i),.im (.int j)]=>if P2 i j then some ((AT i (j-i).toNat,[]),p.2)else none
 |_=>none:=rfl
@[simp] theorem bT(mi:MI):BS mi n a ls hd=(mi ls hd).bind λp=>BZ n a p.1.2 p.1.1 ls p.2:=rfl
open Classical in
@[simp] theorem eA(k:Nat)(ix:List Nat)(mi:MI):Ab k ix mi n ta ma ls hd=(mi ls hd).bind λp=>if BT p.1.1.length then B5 n ta ma p.1.2 p.1.1 (Cj k ix ls) p.2 else none:=rfl
@[simp] theorem eI:Bt ls hd=some (true,hd):=rfl
@[simp] theorem dZ(F:List D->Hd->Option (D×Hd)):CA F m ls hd=(m ls hd).bind λp=>F p.1 p.2:=rfl
@[simp] theorem dD:DY ls hd=some (none,hd):=rfl
@[simp] theorem YA:Fo ma ls hd=(ma ls hd).bind λp=>match p.1 with
 |.im (.int i)=>some (some i,p.2)
 |_=>none:=rfl
@[simp] theorem YC:HP ma ls hd=(ma ls hd).bind λp=>(Ad p.2 p.1).map (·,p.2):=rfl
@[simp] theorem dX:Gh m ls hd=m ls hd:=rfl
@[simp] theorem eJ(ml mh:MO1):KF ma ml mh ls hd=(ma ls hd).bind λp=>(ml ls p.2).bind λl=>(mh ls l.2).bind λh=>(Ar h.2 p.1).bind λds=>some (DR ds l.1 h.1,h.2):=rfl
@[simp] theorem bJ(ml mh:MO1):KD ma ml mh ls hd=(ma ls hd).bind λp=>(ml ls p.2).bind λl=>(mh ls l.2).bind λh=>(AX p.1).bind λds=>if ¬ (HT.sIx ds.length 0 l.1=0/\HT.sIx ds.length ds.length h.1=ds.length)then some (B4 (DR ds l.1 h.1),h.2)else none:=rfl
@[simp] theorem dk:JT m ls hd=(Ge m ls hd).bind λp=>some (B4 p.1,p.2):=rfl
open Classical in
@[simp] theorem bK:Ge m ls hd=(m ls hd).bind λp=>match p.1 with
 |[.im (.int j)]=>if HJ j then some (AT 0 j.toNat,p.2)else none
 |[.im (.int i),.im (.int j)]=>if VC i j then some (AT i (j-i).toNat,p.2)else none
 |_=>none:=rfl
@[simp] theorem SD(mi:MI):Bm mi ls hd=(mi ls hd).bind λp=>(Ax p.1.1).bind λns=>if ns.length<64 then some ((AW ns).map λi=>.im (.int i),p.2)else none:=rfl
@[simp] theorem dz(ms:List (ME×ME)):cY ms ls hd=(FO ms ls hd).bind λp=>if p.1.length<=15 then some (.mu p.2.length,p.2++[.dic (Rn [] p.1)])else none:=rfl
@[simp] theorem d9:FO [] ls hd=some ([],hd):=rfl
@[simp] theorem dU(r:List (ME×ME)):FO ((ma,mb)::r) ls hd=(ma ls hd).bind λp=>(mb ls p.2).bind λq=>(FO r ls q.2).bind λz=>(C4 p.1).map λk=>((k,q.1)::z.1,z.2):=rfl
open Classical in
@[simp] theorem YF:Fq ma mb mc ls hd=(mc ls hd).bind λp=>(ma ls p.2).bind λq=>(mb ls q.2).bind λr=>(C4 r.1).bind λk=>match q.1 with
 |.mu n=>match r.2[n]? with
  |some (.dic kvs)=>if DO kvs.length then some (.nx ls,r.2.set n (.dic (Cn kvs k p.1)))else none
  |_=>none
 |_=>none:=rfl
@[simp] theorem YB:DJ ma mb mc ls hd=(mc ls hd).bind λp=>(ma ls p.2).bind λq=>(mb ls q.2).bind λr=>match q.1,r.1 with
 |.mu n,.im (.int i)=>match r.2[n]? with
  |some (.lst ds)=>(ixN ds.length i).map λj=>(.nx ls,r.2.set n (.lst (ds.set j p.1)))
  |_=>none
 |_,_=>none:=rfl
@[simp] theorem eC(is:List I):AX (.im (.tup is))=some (is.map .im):=rfl
@[simp] theorem eV(ds:List D):AX (.tm ds)=some ds:=rfl
@[simp] theorem eY(k:Nat):AX (.mu k)=none:=rfl
@[simp] theorem eX(k:List Int):AX (.ro k)=none:=rfl
@[simp] theorem DG(is:List I):Ad hd (.im (.tup is))=some (is.map .im):=rfl
@[simp] theorem f7(ds:List D):Ad hd (.tm ds)=some ds:=rfl
@[simp] theorem J0(k:Nat):Ad hd (.mu k)=Ar hd (.mu k):=rfl
@[simp] theorem f8(k:List Int):Ad hd (.ro k)=some (k.map λn=>.im (.int n)):=rfl
@[simp] theorem Es(k:Nat):Ar hd (.mu k)=match hd[k]? with
 |some (.lst ds)=>some ds
 |_=>none:=rfl
@[simp] theorem f9(k:List Int):Ar hd (.ro k)=some (k.map λn=>.im (.int n)):=rfl
@[simp] theorem Lj(k:Nat):Bx hd (.mu k)=match hd[k]? with
 |some (.dic ds)=>some ds
 |_=>none:=rfl
@[simp] theorem fB(i:Int):C4 (.im (.int i))=some (.inl i):=rfl
@[simp] theorem fA(i:Str):C4 (.im (.str i))=some (.inr i):=rfl
@[simp] theorem eU:BL []=some []:=rfl
@[simp] theorem fJ(i:I)(r:List D):BL (.im i::r)=(BL r).map (i::·):=rfl
@[simp] theorem eF:Ax []=some []:=rfl
@[simp] theorem eG(i:Int)(r:List D):Ax (.im (.int i)::r)=(Ax r).map (i::·):=rfl
@[simp] theorem eT:Ca []=some []:=rfl
@[simp] theorem fH(i:Bool)(r:List D):Ca (.im (.bl i)::r)=(Ca r).map (i::·):=rfl
@[simp] theorem BJ(is:List I):B4 (is.map .im)=.im (.tup is):=by simp[B4]
@[simp] theorem d8:B4 []=.im (.tup []):=rfl
@[simp] theorem OB(i:I):B4 [.im i]=.im (.tup [i]):=rfl
@[simp] theorem FN(i j:I):B4 [.im i,.im j]=.im (.tup [i,j]):=rfl
@[simp] theorem EH(i j k:I):B4 [.im i,.im j,.im k]=.im (.tup [i,j,k]):=rfl
@[simp] theorem dj(i j k l:I):B4 [.im i,.im j,.im k,.im l]=.im (.tup [i,j,k,l]):=rfl
@[simp] theorem eR(w:Nat)(i:I):clD w (.im i)=true:=by simp[clD]
@[simp] theorem eQ(w n:Nat):clD w (.mu n)=decide (n<w):=by simp[clD]
@[simp] theorem de(w:Nat):Ap w []=true:=by simp[Ap]
@[simp] theorem SR(w:Nat)(d:D)(ds:List D):Ap w (d::ds)=(clD w d&&Ap w ds):=by simp[Ap]
@[simp] theorem CI{α:Type}(x:α)(r:List α):atI (x::r) 0=some x:=B6 (j:=0) rfl
@[simp] theorem FB{α:Type}(x y:α)(r:List α):atI (x::y::r) 1=some y:=B6 (j:=1) rfl
@[simp] theorem HE{α:Type}(x y z:α)(r:List α):atI (x::y::z::r) 2=some z:=B6 (j:=2) rfl
def GC{α:Type}{xs:List α}{i:Int}{k:Nat}{x:α}(hi:i=k)(h:xs[k]?=some x):atI xs i=some x:=by subst hi;exact B6 h
@[simp] theorem DN:BT 0:=AK (by decide)
@[simp] theorem Eb:BT 1:=AK (by decide)
@[simp] theorem E2:BT 2:=AK (by decide)
@[simp] theorem E1:BT 3:=AK (by decide)
@[simp] theorem S9:BT 4:=AK (by decide)
@[simp] theorem S8:BT 5:=AK (by decide)
open Classical in
@[simp] theorem SH(k:Nat)(x:D):Ae (.mu k) [x] hd=match hd[k]? with
 |some (.lst ds)=>if DO ds.length then some (.im .non,hd.set k (.lst (ds++[x])))else none
 |_=>none:=rfl
def HD{F:List D->Hd->Option (D×Hd)}{ds:List D}{hd1 h2:Hd}{i:I}(h1:m ls hd=some (ds,hd1))(hc:Ap 0 ds=true)(hF:F ds []=some (.im i,h2)):AC 0 F m ls hd=some (.im i,hd1):=by
 simp[AC,h1,hc,hF,fin]
def Pz{F:List D->Hd->Option (D×Hd)}{ds es:List D}{hd1 h2:Hd}{k:Nat}(h1:m ls hd=some (ds,hd1))(hc:Ap 0 ds=true)(hF:F ds []=some (.mu k,h2))(hk:h2[k]?=some (.lst es))(hes:Ap 0 es=true):AC 0 F m ls hd=some (.mu hd1.length,hd1++[.lst es]):=by
 simp[AC,h1,hc,hF,fin,hk,hes]
def NO{w:Nat}{F:List D->Hd->Option (D×Hd)}{ds:List D}{pre pre' rest g:Hd}{i:I}(hw:pre.length=w)(hw':pre'.length=w)(h1:m ls hd=some (ds,pre++rest))(hc:Ap w ds=true)(hp:pre.all (clO w)=true)(hp':pre'.all (clO w)=true)(hF:F ds pre=some (.im i,pre'++g)):AC w F m ls hd=some (.im i,pre'++rest):=by
 subst hw;have e1:(pre++rest).take pre.length=pre:=by simp
 have e2:(pre'++g).take pre.length=pre':=by rw[<- hw'];simp
 simp only[AC,h1,bind_some,e1,hc,hp,hF,fin,e2,hp'];simp
end
def Ms{n:MG}{b:MS}{g:Gd}{ls:Ls}{hd:Hd}:BZ n b g [] ls hd=some (.nx ls,hd):=by unfold BZ;rfl
def Gm{n:MG}{b:MS}{g:Gd}{d:D}{r:List D}{ls ls1 ls2:Ls}{hd hd2:Hd}(h1:n d ls hd=some ls1)(h2:b ls1 hd=some (.nx ls2,hd2))(h3:GOk hd2 g):BZ n b g (d::r) ls hd=BZ n b g r ls2 hd2:=by
 conv=>lhs;unfold BZ
 simp[h1,h2,h3]
def Ud{n:MG}{b:MS}{g:Gd}{d v:D}{r:List D}{ls ls1:Ls}{hd hd2:Hd}(h1:n d ls hd=some ls1)(h2:b ls1 hd=some (.rt v,hd2)):BZ n b g (d::r) ls hd=some (.rt v,hd2):=by
 conv=>lhs;unfold BZ
 simp[h1,h2]
open Classical in
def mIn(k:Nat)(n:MG)(c:MT)(m:ME)(g:Gd):List D->Ls->Hd->Option (Ls×Hd)
 |[],ls,hd=>some (ls,hd)
 |d::r,ls,hd=>(n d ls hd).bind λls1=>(c ls1 hd).bind λp=>if p.1=true then(m ls1 p.2).bind λq=>(Ae (.mu k) [q.1] q.2).bind λz=>if GOk z.2 g then mIn k n c m g r ls1 z.2 else none else if GOk p.2 g then mIn k n c m g r ls1 p.2 else none
open Classical in
def Pd(k:Nat)(n:MG)(c:MT)(mi:MI)(n2:MG)(c2:MT)(m:ME)(g:Gd):List D->Ls->Hd->Option Hd
 |[],ls,hd=>some hd
 |d::r,ls,hd=>(n d ls hd).bind λls1=>(c ls1 hd).bind λp=>if p.1=true then(mi ls1 p.2).bind λq=>(mIn k n2 c2 m q.1.2 q.1.1 ls1 q.2).bind λz=>if GOk z.2 g then Pd k n c mi n2 c2 m g r z.1 z.2 else none else if GOk p.2 g then Pd k n c mi n2 c2 m g r ls1 p.2 else none
def ay(j:Nat)(ix:List Nat)(mi:MI)(n:MG)(c:MT)(mi2:MI)(n2:MG)(c2:MT)(m:ME):ME:=λls hd=>(mi ls hd).bind λp=>(Pd p.2.length n c mi2 n2 c2 m p.1.2 p.1.1 (Cj j ix ls) (p.2++[.lst []])).map λh=>(.mu p.2.length,h)
section
variable{K:PySem.W.Frag}{ρ:List Addr}{H:Hp}{hd:Hd}
def Y8{h:Hd}{g:Gd}(G:GOk h g)(r:Hd):GOk (h++r) g:=λp hp=>by
 have:=G p hp;have hl:p.1<h.length:=(List.getElem?_eq_some_iff.mp this).1;rw[List.getElem?_append_left hl];exact this
end
open Classical in
def Gk(ma mb:ME):MA:=λls hd=>(ma ls hd).bind λp=>(mb ls p.2).bind λq=>match p.1,q.1 with
 |.mu i,.mu j=>match q.2[i]?,q.2[j]? with
  |some (.lst xs),some (.lst ys)=>if BT (xs.length+ys.length)then some (xs++ys,q.2)else none
  |_,_=>none
 |_,_=>none
def Yv{K:PySem.W.Frag}{ta tb:TE}{ma mb:ME}(ha:RE K ta ma)(hb:RE K tb mb):RN K (tOp To ta tb) (Gk ma mb):=by
 and_intros;obtain⟨⟨d1,h1⟩,e1,hm⟩:=fW hm;obtain⟨⟨d2,h2⟩,e2,hm⟩:=fW hm;dsimp only at hm;split at hm
 .next i j=>
  split at hm
  .next xs ys q1 q2=>
   split at hm
   .next c=>
    cases hm;refine ha ρ σ H hd ls _ _ h1 hR hL e1 λρ1 H1 v x1 R1 r1=>?_;refine hb ρ1 σ H1 h1 ls _ _ _ R1 (hL.ext hR x1) e2 λρ2 H2 u x2 R2 r2=>?_;have r1':=r1.ext R1 x2;simp only[RD]at r1' r2;obtain⟨a,ka,rfl⟩:=r1';obtain⟨b,kb,rfl⟩:=r2;obtain⟨vs,f1,f2⟩:=R2.lst ka q1;obtain⟨us,f3,f4⟩:=R2.lst kb q2;refine⟨a,b,vs,us,rfl,rfl,f1,f3,by rw[f2.len,f4.len];exact c,λp hp=>?_⟩;obtain⟨R3,x3⟩:=R2.hid (ho:=.lst (vs++us)) hp;have x12:=x1.trans R1 x2;exact hQ ρ2 _ p _ (x12.trans R2 x3) R3 (x12.none hR hp R2) (R2.out hp) AI ((f2.app f4).ext R2 x3)
   .cases hm
  .cases hm
 .cases hm
def Zc(K:PySem.W.Frag){X:Cx}{a b:Expr}{pos:Pos}{ta tb:TE}{ma mb:ME}(ha:QE K X a ta ma)(hb:QE K X b tb mb):QN K X (.BinOp a .Add b pos) (tOp To ta tb) (Gk ma mb):=⟨PQ ag ha.p hb.p,Yv ha.r hb.r⟩
@[simp] theorem dY(j:Nat)(ix:List Nat)(mi mi2:MI)(n n2:MG)(c c2:MT)(m:ME)(ls:Ls)(hd:Hd):ay j ix mi n c mi2 n2 c2 m ls hd=(mi ls hd).bind λp=>(Pd p.2.length n c mi2 n2 c2 m p.1.2 p.1.1 (Cj j ix ls) (p.2++[.lst []])).map λh=>(.mu p.2.length,h):=rfl
end L2
namespace L2
open PySem PySem.Spec PyProof.Rows PySem.W
section
variable(r:Nat->Int)(n:Nat)
def PWp{α:Type}:KasT α->(α->Prop)->Prop
 |.ret a,Q=>Q a
 |.ask i j k,Q=>i<n/\j<n/\PWp (k (decide (r i<r j))) Q
def kv(p:Array Nat)(i:Nat):Int:=r (p.getD i 0)
def STo(p:Array Nat)(m:Nat):Prop:=∀i j,i<=j->j<m->kv r p i<=kv r p j
def DTo(p:Array Nat)(m:Nat):Prop:=∀i j,i<=j->j<m->kv r p j<=kv r p i
def EqL(p:Array Nat)(m q:Nat):Prop:=∀k,m-(q+1)<=k->k<m->kv r p k=kv r p (m-1)
def PAr(p:Array Nat):Prop:=p.Perm (List.range n).toArray
end
section
variable{r:Nat->Int}{n:Nat}
def PWp.bind{α β:Type}{f:α->KasT β}{Q:β->Prop}:∀{t:KasT α},PWp r n t (λa=>PWp r n (f a) Q)->PWp r n (t.bind f) Q
 |.ret _,h=>h
 |.ask i j k,h=>⟨h.1,h.2.1,PWp.bind h.2.2⟩
def PWp.mono{α:Type}{Q Q':α->Prop}:∀{t:KasT α},PWp r n t Q->(∀a,Q a->Q' a)->PWp r n t Q'
 |.ret _,h,q=>q _ h
 |.ask i j k,h,q=>⟨h.1,h.2.1,PWp.mono h.2.2 q⟩
def PWp.wp{α:Type}{cmp:Nat->Nat->(Bool->Shared->Prop)->Shared->Prop}{P:Shared->Prop}{Q:α->Shared->Prop}(hc:∀i j C s,i<n->j<n->P s->(∀s',P s'->C (decide (r i<r j)) s')->cmp i j C s):∀{t:KasT α} {s:Shared},PWp r n t (λa=>∀s,P s->Q a s)->P s->t.kasWp cmp Q s
 |.ret _,s,h,p=>h s p
 |.ask i j k,s,h,p=>hc i j _ s h.1 h.2.1 p λs' p'=>PWp.wp hc h.2.2 p'
def PAr.size{p:Array Nat}(h:PAr n p):p.size=n:=by have:=h.size_eq;simpa using this
def PAr.lt{p:Array Nat}(h:PAr n p){i:Nat}(hi:i<n):p.getD i 0<n:=by
 have hs:=h.size;have hi':i<p.size:=by omega
 have:p[i]∈(List.range n).toArray:=h.mem_iff.mp (Array.getElem_mem hi');have e:p.getD i 0=p[i]:=by simp[Array.getD,hi']
 rw[e];simpa using this
def JX{p:Array Nat}{i j:Nat}(hj:j<=p.size)(k:Nat):kv r (kas_rev p i j) k=if i<=k/\k<j then kv r p (i+j-1-k)else kv r p k:=by
 unfold kv kas_rev;simp only[Array.getD_eq_getD_getElem?];rw[getElem?_mirror_all hj];split<;>rfl
def PAr.rev{p:Array Nat}(h:PAr n p)(i j:Nat):PAr n (kas_rev p i j):=(mirror_perm _ _ _ _).trans h
def OF{p:Array Nat}{m q:Nat}(hj:m<=p.size)(hq:q+1<=m)(h:EqL r p m q)(k:Nat):kv r (kas_rev p (m-(q+1)) m) k=kv r p k:=by
 rw[JX hj];split
 .next c=>rw[h _ (by omega) (by omega),h k c.1 c.2]
 .rfl
def NQ{p:Array Nat}(pa:PAr n p):∀(f m:Nat),1<=m->m+f<=n->STo r p m->PWp r n (kas_asc p f m) λm'=>m<=m'/\m'<=m+f/\STo r p m'/\(m'<m+f->kv r p m'<kv r p (m'-1))
 |0,m,h1,hn,hs=>⟨le_refl _,le_refl _,hs,λh=>by omega⟩
 |f+1,m,h1,hn,hs=>by
  refine⟨pa.lt (by omega),pa.lt (by omega),?_⟩;by_cases c:r (p.getD m 0)<r (p.getD (m-1) 0)
  .rw[decide_eq_true c];exact⟨le_refl _,by omega,hs,λ_=>c⟩
  .rw[decide_eq_false c];refine(NQ pa f (m+1) (by omega) (by omega) ?_).mono λm' h=>⟨by omega,by omega,h.2.2.1,λz=>h.2.2.2 (by omega)⟩
   intro i j hij hj;by_cases e:j<m
   .exact hs i j hij e
   .have:j=m:=by omega
    subst this;by_cases e2:i=j
    .subst e2;exact Int.le_refl _
    .have:=hs i (j-1) (by omega) (by omega);have:kv r p (j-1)<=kv r p j:=by unfold kv;omega
     omega
def Ij{p:Array Nat}{m:Nat}(h1:1<=m)(h:DTo r p m)(c:kv r p m<=kv r p (m-1)):DTo r p (m+1):=by
 intro i j hij hj;by_cases e:j<m
 .exact h i j hij e
 .have:j=m:=by omega
  subst this;by_cases e2:i=j
  .subst e2;exact Int.le_refl _
  .have:=h i (j-1) (by omega) (by omega);omega
def He:∀(f:Nat) (p:Array Nat) (m q:Nat),PAr n p->1<=m->q+1<=m->m+f<=n->DTo r p m->EqL r p m q ->
 PWp r n (kas_desc f p m q) λz=>PAr n z.1/\m<=z.2.1/\z.2.1<=m+f/\DTo r z.1 z.2.1/\EqL r z.1 z.2.1 z.2.2/\z.2.2+1<=z.2.1
 |0,p,m,q,pa,h1,hq,hn,hd,he=>⟨pa,le_refl _,le_refl _,hd,he,hq⟩
 |f+1,p,m,q,pa,h1,hq,hn,hd,he=>by
  refine⟨pa.lt (by omega),pa.lt (by omega),?_⟩;have sz:=pa.size;by_cases c:r (p.getD m 0)<r (p.getD (m-1) 0)
  .rw[decide_eq_true c];have c':kv r p m<=kv r p (m-1):=by unfold kv;omega
   dsimp only;rw[if_pos rfl];by_cases hq0:q>0
   .rw[if_pos hq0];have sm:=OF (r:=r) (p:=p) (m:=m) (q:=q) (by omega) hq he;refine(He f _ (m+1) 0 (pa.rev _ _) (by omega) (by omega) (by omega) ?_ ?_).mono λz h=>⟨h.1,by omega,by omega,h.2.2.2⟩
    .have:=Ij h1 hd c';intro i j a b;rw[sm,sm];exact this i j a b
    .intro k a b;have:k=m:=by omega
     subst this;rfl
   .rw[if_neg hq0];refine(He f p (m+1) 0 pa (by omega) (by omega) (by omega) (Ij h1 hd c') ?_).mono λz h=>⟨h.1,by omega,by omega,h.2.2.2⟩
    intro k a b;have:k=m:=by omega
    subst this;rfl
  .rw[decide_eq_false c];dsimp only;rw[if_neg Bool.false_ne_true];refine⟨pa.lt (by omega),pa.lt (by omega),?_⟩;by_cases d:r (p.getD (m-1) 0)<r (p.getD m 0)
   .rw[decide_eq_true d];exact⟨pa,le_refl _,by show m<=m+(f+1);omega,hd,he,hq⟩
   .rw[decide_eq_false d];dsimp only;rw[if_neg Bool.false_ne_true];have e:kv r p m=kv r p (m-1):=by unfold kv;omega
    refine(He f p (m+1) (q+1) pa (by omega) (by omega) (by omega) (Ij h1 hd (by omega)) ?_).mono λz h=>⟨h.1,by omega,by omega,h.2.2.2⟩
    intro k a b;by_cases e2:k=m
    .subst e2;rfl
    .have:=he k (by omega) (by omega);have e3:m+1-1=m:=rfl;rw[e3];omega
def Run(z:Nat×Array Nat)(r:Nat->Int)(n:Nat):Prop:=PAr n z.2/\1<=z.1/\z.1<=n/\STo r z.2 z.1
def M1{p:Array Nat}{m:Nat}(pa:PAr n p)(h1:1<=m)(hn:m<=n)(hd:DTo r p m):PWp r n (kas_tail3 m n p) λz=>Run z r n:=by
 have sz:=pa.size;have st:STo r (kas_rev p 0 m) m:=by
  intro i j a b;rw[JX (by omega),JX (by omega),if_pos ⟨by omega,by omega⟩,if_pos ⟨by omega,by omega⟩];exact hd _ _ (by omega) (by omega)
 refine PWp.bind ((NQ (pa.rev 0 m) (n-m) m h1 (by omega) st).mono λm' h=>?_);exact⟨pa.rev 0 m,by show 1<=m';omega,by show m'<=n;omega,h.2.2.1⟩
def Hq{p:Array Nat}{m:Nat}(pa:PAr n p)(hn:m+1<=n)(hd:DTo r p (m+1)):PWp r n (kas_descPart m n p) λz=>Run z r n:=by
 refine PWp.bind ((He (n-(m+1)) p (m+1) 0 pa (by omega) (by omega) (by omega) hd ?_).mono λz h=>?_)
 .intro k a b;have:k=m:=by omega
  subst this;rfl
 .obtain⟨a,b,c,d,e,g⟩:=h;have sz:=a.size;by_cases hq:z.2.2>0
  .rw[if_pos hq];have sm:=OF (r:=r) (p:=z.1) (m:=z.2.1) (q:=z.2.2) (by omega) g e;exact M1 (a.rev _ _) (by omega) (by omega) λi j x y=>by rw[sm,sm];exact d i j x y
  .rw[if_neg hq];exact M1 a (by omega) (by omega) d
def Ux(h1:1<=n):PWp r n (kas_count n (List.toArray (List.range n))) λz=>Run z r n:=by
 have pa:PAr n (List.range n).toArray:=.refl _;have sz:=pa.size;refine PWp.bind ((NQ pa (n-1) 1 (by omega) (by omega) λi j a b=>?_).mono λm h=>?_)
 .have:i=j:=by omega
  subst this;exact Int.le_refl _
 .obtain⟨a,b,c,d⟩:=h;by_cases e:(m==n)=true
  .rw[if_pos e];have:m=n:=by simpa using e
   exact⟨pa,by show 1<=m;omega,by show m<=n;omega,c⟩
  .rw[if_neg e];have hne:m≠n:=by simpa using e
   have dd:=d (by omega);by_cases h2:m>1
   .rw[if_pos h2];refine⟨pa.lt (by omega),pa.lt (by omega),?_⟩;by_cases g:r ((List.range n).toArray.getD 0 0)<r ((List.range n).toArray.getD (m-1) 0)
    .rw[decide_eq_true g];exact⟨pa,by show 1<=m;omega,by show m<=n;omega,c⟩
    .rw[decide_eq_false g];dsimp only;rw[if_neg Bool.false_ne_true];have g':kv r (List.range n).toArray (m-1)<=kv r (List.range n).toArray 0:=by unfold kv;omega
     have eq:∀k,k<m->kv r (List.range n).toArray k=kv r (List.range n).toArray 0:=λk hk=>by
      have x1:=c 0 k (by omega) hk;have x2:=c k (m-1) (by omega) (by omega);omega
     have rv:∀k,kv r (kas_rev (List.range n).toArray 0 m) k=kv r (List.range n).toArray k:=λk=>by
      rw[JX (by omega)];split
      .next z=>rw[eq _ (by omega),eq k z.2]
      .rfl
     refine Hq (pa.rev 0 m) (by omega) λi j x y=>?_;rw[rv,rv];by_cases z:j<m
     .rw[eq i (by omega),eq j z];exact Int.le_refl _
     .have:j=m:=by omega
      subst this;by_cases z2:i=j
      .subst z2;exact Int.le_refl _
      .rw[eq i (by omega)];have:=eq (j-1) (by omega);omega
   .rw[if_neg h2];have:m=1:=by omega
    subst this;refine Hq pa (by omega) λi j x y=>?_;by_cases z:i=j
    .subst z;exact Int.le_refl _
    .have:i=0:=by omega
     have:j=1:=by omega
     subst i j;have:kv r (List.range n).toArray 1<kv r (List.range n).toArray 0:=dd;omega
def IP{p:Array Nat}{k:Nat}(pa:PAr n p)(hk:k<n)(hs:STo r p k):∀(f l q:Nat),l<=q->q<=k->q-l<=f->(∀i,i<l->kv r p i<=kv r p k)->(∀i,q<=i->i<k->kv r p k<kv r p i) ->
 PWp r n (kas_place p k f l q) λm=>m<=k/\(∀i,i<m->kv r p i<=kv r p k)/\∀i,m<=i->i<k->kv r p k<kv r p i
 |0,l,q,a,b,c,d,e=>⟨by omega,d,λi x y=>e i (by omega) y⟩
 |f+1,l,q,a,b,c,d,e=>by
  unfold kas_place;by_cases h:l>=q
  .rw[if_pos h];exact⟨by omega,d,λi x y=>e i (by omega) y⟩
  .rw[if_neg h];refine⟨pa.lt (by omega),pa.lt (by omega),?_⟩;by_cases g:r (p.getD k 0)<r (p.getD ((l+q)/2) 0)
   .rw[decide_eq_true g];dsimp only;rw[if_pos rfl];have g':kv r p k<kv r p ((l+q)/2):=g;refine IP pa hk hs f l ((l+q)/2) (by omega) (by omega) (by omega) d λi x y=>?_;have:=hs ((l+q)/2) i x y;omega
   .rw[decide_eq_false g];dsimp only;rw[if_neg Bool.false_ne_true];have g':kv r p ((l+q)/2)<=kv r p k:=by unfold kv;omega
    refine IP pa hk hs f ((l+q)/2+1) q (by omega) (by omega) (by omega) (λi x=>?_) e;have:=hs i ((l+q)/2) (by omega) (by omega);omega
def Ks{p:Array Nat}{k d:Nat}(hk:k<p.size)(hd:d<=k)(i:Nat):kv r (bubble p k d) i=if i=k-d then kv r p k else if k-d<i/\i<=k then kv r p (i-1)else kv r p i:=by
 unfold kv;simp only[Array.getD_eq_getD_getElem?];rw[getElem?_bubble hk d hd];split
 .rfl
 .split<;>rfl
def Sa:∀(f:Nat) (p:Array Nat) (k:Nat),PAr n p->k+f=n->STo r p k->PWp r n (kas_bin f p k) λz=>PAr n z/\STo r z n
 | 0,p,k,pa,e,hs=>⟨pa,by
  have:k=n:=by omega
  subst this;exact hs⟩
 |f+1,p,k,pa,e,hs=>by
  have sz:=pa.size;refine PWp.bind ((IP pa (by omega) hs k 0 k (by omega) (by omega) (by omega) (λi h=>by omega) (λi a b=>by omega)).mono λm h=>?_);obtain⟨a,b,c⟩:=h;refine Sa f _ (k+1) ((bubble_perm _ _ _).trans pa) (by omega) λi j x y=>?_;rw[Ks (by omega) (by omega),Ks (by omega) (by omega)];have ek:k-(k-m)=m:=by omega
  rw[ek]
  repeat' split
  .exact Int.le_refl _
  .exact Int.le_of_lt (c _ (by omega) (by omega))
  .omega
  .exact b _ (by omega)
  .exact hs _ _ (by omega) (by omega)
  .omega
  .exact b _ (by omega)
  .exact hs _ _ (by omega) (by omega)
  .exact hs _ _ (by omega) (by omega)
def Nt(h1:1<=n):PWp r n (kas_sort n) λp=>PAr n p/\STo r p n:=by
 refine PWp.bind ((Ux h1).mono λz h=>?_);obtain⟨a,b,c,d⟩:=h;by_cases e:z.1<n
 .rw[if_pos e];have:max z.1 1=z.1:=by omega
  rw[this];exact Sa _ _ _ a (by omega) d
 .rw[if_neg e];have:z.1=n:=by omega
  exact⟨a,this ▸ d⟩
end
def PairAt(h:Heap)(v:Value)(p:Int×Int):Prop:=∃(x:Addr) (o:Obj) (t u:Tok) (k:Nat),v=.ref x/\h.get? x=some o/\o.cls=.type "tuple"/\o.data=.seq #[.int p.1 t,.int p.2 u] k
def Ao(p:Int×Int):Int:=p.1*4000000000+p.2
def pok(p:Int×Int):Prop:=-1000000000<=p.1/\p.1<=1000000000/\-1000000000<=p.2/\p.2<=1000000000
section
variable{prog:Program}{w:World}{A:Around}{E:Value->Shared->Prop}{s:Shared}
def OD{x y:Value}{p q:Int×Int}{C:Bool->Shared->Prop}(hx:PairAt s.heap x p)(hy:PairAt s.heap y q)(op:pok p)(oq:pok q)(h:C (decide (Ao p<Ao q)) s):
 wpAny (model prog w) A (keyLt' (tuples' true) x y) C E s:=by
 obtain⟨a,o,t,u,k,rfl,ho,hc,hd⟩:=hx;obtain⟨a2,o2,t2,u2,k2,rfl,ho2,hc2,hd2⟩:=hy;obtain⟨p1,p2⟩:=p;obtain⟨q1,q2⟩:=q;unfold pok at op oq;unfold Ao at h;dsimp only at op oq h;refine kat_lt ho hd ho2 hd2 ?_;refine kat_cons (wpAny_eqBool_int ?_);by_cases e1:p1=q1
 .have b1:(p1==q1)=true:=by simp[e1]
  rw[b1];refine kat_yes (kat_cons (wpAny_eqBool_int ?_));by_cases e2:p2=q2
  .have b2:(p2==q2)=true:=by simp[e2]
   rw[b2];refine kat_yes (kat_nil ?_);have:decide (p1*4000000000+p2<q1*4000000000+q2)=false:=decide_eq_false (by omega);rw[this]at h;exact h
  .have b2:(p2==q2)=false:=by simp[e2]
   rw[b2];refine kat_no (kat_one _ _ (lt_int ?_));have:decide (p1*4000000000+p2<q1*4000000000+q2)=decide (p2<q2):=decide_eq_decide.mpr (by omega);rw[this]at h;exact h
 .have b1:(p1==q1)=false:=by simp[e1]
  rw[b1];refine kat_no (oneLt_int ?_);have:decide (p1*4000000000+p2<q1*4000000000+q2)=decide (p1<q1):=decide_eq_decide.mpr (by omega);rw[this]at h;exact h
def Jy{h:Heap}:∀{vs:List Value} {ps:List (Int×Int)},vs.length=ps.length->(∀(i:Nat) (v:Value) (p:Int×Int),vs[i]?=some v->ps[i]?=some p->PairAt h v p)->∃fs,KatTups h vs fs/\fs.length=vs.length/\∀f∈fs,∃i t,f=.int i t
 |[],[],_,_=>⟨[],.nil,rfl,λ_ z=>by cases z⟩
 |v::vs,p::ps,hl,hp=>by
  obtain⟨fs,a,b,c⟩:=Jy (vs:=vs) (ps:=ps) (by simpa using hl) λi v q e1 e2=>hp (i+1) v q (by simpa using e1) (by simpa using e2);obtain⟨x,o,t,u,k,rfl,ho,hc,hd⟩:=hp 0 v p rfl rfl;exact⟨.int p.1 t::fs,.cons ho hc hd rfl a,by simp[b],λf hf=>by
   rcases mem_cons.mp hf with rfl|hf
   .exact⟨_,_,rfl⟩
   .exact c f hf⟩
def EJ(vs:List Value)(ps:List (Int×Int))(out:List Value):Prop:=∃zs:List (Value×(Int×Int)),zs.Perm (vs.zip ps)/\(zs.map λz=>Ao z.2).Pairwise (·<=·)/\out=zs.map (·.1)
def QY{vs:List Value}{ps:List (Int×Int)}(hl:vs.length=ps.length){p:Array Nat}(pa:PAr vs.length p)(hs:STo (λi=>Ao (ps.getD i (0,0))) p vs.length):EJ vs ps (p.toList.map λi=>vs.getD i Value.none):=by
 have sz:=pa.size;refine⟨p.toList.map λi=>(vs.getD i Value.none,ps.getD i (0,0)),?_,?_,by rw[map_map];rfl⟩
 .have e:vs.zip ps=(List.range vs.length).map λi=>(vs.getD i Value.none,ps.getD i (0,0)):=by
   refine ext_getElem? λi=>?_;by_cases hi:i<vs.length
   .have hi2:i<ps.length:=by omega
    rw[(List.getElem?_zip_eq_some (z:=(vs[i],ps[i]))).mpr ⟨by simp[hi],by simp[hi2]⟩];simp[hi,hi2]
   .rw[List.getElem?_eq_none (by simp;omega),List.getElem?_eq_none (by simp;omega)]
  rw[e];have:=Array.perm_iff_toList_perm.mp pa;simpa using this.map _
 .rw[map_map,List.pairwise_iff_getElem];intro i j hi hj hij;simp only[length_map,Array.length_toList]at hi hj;have:=hs i j (by omega) (by omega);unfold kv at this;simpa [Array.getD,hi,hj]using this
def Ov{a:Addr}{vs:List Value}{ps:List (Int×Int)}{n:Nat}{P:PySem.Fin->Shared->Prop}(ho:s.heap.get? a=some (seqObj "list" vs.toArray n))(hl:vs.length=ps.length)(h64:vs.length<64)(hok:∀p∈ps,pok p)
 (hp:∀(i:Nat) (v:Value) (p:Int×Int),vs[i]?=some v->ps[i]?=some p->PairAt (s.heap.update a (Obj.mapSeq λ_=>#[])) v p)
 (h:∀out:List Value,EJ vs ps out->P (.done (.ret .none)) { s with heap:=sortedHeap s.heap a vs out.toArray }):
 wpAny (model prog w) A (Builtin.«list.sort» ⟨[.ref a],[]⟩) P E s:=by
 have ha:=Heap.lt_size ho;have line:vs.length<=sizeLine:=by rw[sizeLine_eq];omega
 obtain⟨e1,ho1⟩:∃e1,(s.heap.update a (Obj.mapSeq λ_=>#[])).get? a=some (seqObj "list" #[] e1):=⟨_,get?_update_seq ho _⟩
 rw[list_sort_plain];refine wpAny_bind (listItems_at ho rfl (wpAny_bind (listUpdate_at ho rfl (wpAny_bind (seqEpoch_at ho1 rfl (wpAny_bind (wpAny_newTuple (wpAny_bind (wpAny_newList (wpAny_holding ?_) (zero_le _))) line)))) (by rw[size_toArray];exact line) (zero_le _))));have grow:∀b o,(s.heap.update a (Obj.mapSeq λ_=>#[])).get? b=some o->(((s.heap.update a (Obj.mapSeq λ_=>#[])).push (seqObj "tuple" vs.toArray 0)).push (seqObj "list" #[] 0)).get? b=some o:=λb o e=>Heap.get?_push_of_some _ (Heap.get?_push_of_some _ e);have ho6:=grow _ _ ho1;generalize h6:((s.heap.update a (Obj.mapSeq λ_=>#[])).push (seqObj "tuple" vs.toArray 0)).push (seqObj "list" #[] 0)=hp6 at *;have done:∀out:List Value,EJ vs ps out->P (.done (.ret .none)) { s with heap:=hp6.update a (Obj.mapSeq λ_=>out.toArray) }:=λout z=>by
  have:=h out z;unfold sortedHeap at this;rw[h6]at this;exact this
 show wpAny (model prog w) A _ P E { s with heap:=hp6 };dsimp only;have pairs6:∀(i:Nat) (v:Value) (p:Int×Int),vs[i]?=some v->ps[i]?=some p->PairAt hp6 v p:=λi v p x y=>by
  obtain⟨x',o,t,u,k,e,q,c,d⟩:=hp i v p x y;exact⟨x',o,t,u,k,e,grow _ _ q,c,d⟩
 by_cases h2:vs.toArray.size<2
 .rw[if_pos h2,if_pos h2];refine wpAny_bind (wpAny_pure ?_);rw[StateT.run_pure];refine wpAny_bind (wpAny_pure ?_);dsimp only;have hout:(arrOf (SortSt.mk' general' (vs.toArray.zip vs.toArray) #[] 7 none)).map (·.2)=vs.toArray:=by
   show(vs.toArray.zip vs.toArray).map (·.2)=vs.toArray;apply Array.toList_inj.mp;simp only[Array.toList_map,Array.toList_zip];exact map_snd_zip (le_refl _)
  rw[hout];refine wpAny_bind (seqEpoch_at ho6 rfl (wpAny_bind (listUpdate_at ho6 rfl ?_ (zero_le _) (by rw[size_toArray];omega))));simp only[bne_self_eq_false,Bool.false_eq_true,if_false];refine wpAny_pure (done vs ⟨vs.zip ps,.refl _,?_,?_⟩)
  .have hz:(vs.zip ps).length<2:=by simp at h2 ⊢;omega
   cases hh:vs.zip ps with
   |nil=>exact .nil
   |cons z r=>
    cases r with
    |nil=>exact List.pairwise_singleton _ _
    |cons y t=>rw[hh]at hz;exact absurd hz (by simp)
  .rw[List.map_fst_zip (by omega)]
 .rw[if_neg h2,if_neg h2];have h2':2<=vs.length:=by simp at h2;omega
  obtain⟨fs,t1,t2,t3⟩:=Jy hl pairs6;have tT:∀f∈fs,Looks (model prog w) hp6 (typeOf f) (Value.type "int"):=λf hf=>by
   obtain⟨i,t,rfl⟩:=t3 f hf;exact .of_pure rfl
  refine wpAny_bind (kat_kind (s:={ s with heap:=hp6 }) t1 (by omega) tT rfl ?_);have est:SortSt.mk' (tuples' true) (vs.toArray.zip vs.toArray) #[] 7 none=kas_st (tuples' true) (pairsOf vs) (List.toArray (List.range vs.length)):=by
   unfold kas_st;rw[<- pairsOf_size vs,kas_range];rfl
  have ask:(kas_sort vs.length).kasWp (kas_cmp prog w A (tuples' true) (pairsOf vs)) (λp s'=>s'={ s with heap:=hp6 }/\EJ vs ps (p.toList.map λi=>vs.getD i Value.none)) { s with heap:=hp6 }:=by
   rw[<- kas_ask_eq];refine PWp.wp (n:=vs.length) (r:=λi=>Ao (ps.getD i (0,0))) (P:=λs'=>s'={ s with heap:=hp6 }) (λi j C s' hi hj e hC=>?_) ((Nt (by omega)).mono λp z s' e=>⟨e,QY hl z.1 z.2⟩) rfl;subst e;have pi:ps[i]?=some (ps.getD i (0,0)):=by simp[show i<ps.length by omega]
   have pj:ps[j]?=some (ps.getD j (0,0)):=by simp[show j<ps.length by omega]
   have vi:vs[i]?=some (vs.getD i Value.none):=by simp[hi]
   have vj:vs[j]?=some (vs.getD j Value.none):=by simp[hj]
   exact OD (s:={ s with heap:=hp6 }) (pairs6 i _ _ vi pi) (pairs6 j _ _ vj pj) (hok _ (mem_of_getElem? pi)) (hok _ (mem_of_getElem? pj)) (hC _ rfl)
  have run:=kas_runs (E:=E) (Q:=λ_ st' s'=>∃p:Array Nat,p.size=vs.length/\arrOf st'=p.map (kas_item (pairsOf vs))/\failedOf st'=none/\s'={ s with heap:=hp6 }/\EJ vs ps (p.toList.map λi=>vs.getD i Value.none)) h2' h64 (λp st' s' x1 x2 x3 x4=>⟨p,x1,x2,x3,x4⟩) ask;rw[<- est]at run;refine wpAny_bind (wpAny_mono run ?_ λ_ _ e=>e);rintro⟨⟨⟩,st'⟩ s' ⟨p,hsz,har,hf,rfl,so⟩;dsimp only;have hout:(arrOf st').map (·.2)=(p.toList.map λi=>vs.getD i Value.none).toArray:=by
   rw[har];apply Array.toList_inj.mp;simp only[Array.toList_map,map_map];exact map_congr_left λi _=>congrArg Prod.snd (kas_item_eq vs i)
  rw[hout];refine wpAny_bind (seqEpoch_at ho6 rfl (wpAny_bind (listUpdate_at ho6 rfl ?_ (zero_le _) (by simp[hsz];omega))));rw[hf];simp only[bne_self_eq_false,Bool.false_eq_true,if_false];exact wpAny_pure (done _ so)
end
def PairAt.keep{h h':Heap}{v:Value}{p:Int×Int}(k:∀b o,h.get? b=some o->h'.get? b=some o)(q:PairAt h v p):PairAt h' v p:=by
 obtain⟨x,o,t,u,n,e,ho,c,d⟩:=q;exact⟨x,o,t,u,n,e,k _ _ ho,c,d⟩
section
variable{prog:Program}{w:World}{A:Around}{E:Value->Shared->Prop}{s:Shared}
def M8{l:Addr}{vs:List Value}{ps:List (Int×Int)}{Q:Value->Shared->Prop}(hl:s.heap.IsList l vs.toArray)(hlen:vs.length=ps.length)(h64:vs.length<64)(hok:∀p∈ps,pok p)
 (hp:∀(i:Nat) (v:Value) (p:Int×Int),vs[i]?=some v->ps[i]?=some p->PairAt s.heap v p)
 (h:∀out:List Value,EJ vs ps out->Q (.ref (s.heap.objs.size+1)) { s with heap:=sortedAll s.heap vs out.toArray }):
 wpAny (model prog w) A (call (.builtin "sorted") [.ref l]) Q E s:=by
 have line:vs.length<=sizeLine:=by rw[sizeLine_eq];omega
 refine Calls.call_function_entry kind_sorted plain_sorted entry_sorted (args_sorted1 _) ?_;unfold Builtin.«sorted»;refine wpAny_bind (m:=checkCount "sorted" 1 1 _) (wpAny_pure (wpAny_bind (collect_list hl (wpAny_bind (wpAny_newList ?_ line)) line)));have sz:((s.heap.push (seqObj "list" #[] 0)).update s.heap.objs.size (Obj.mapSeq (·++vs.toArray))).objs.size=s.heap.objs.size+1:=by rw[Heap.size_update,size_push']
 have at1:(((s.heap.push (seqObj "list" #[] 0)).update s.heap.objs.size (Obj.mapSeq (·++vs.toArray))).push (seqObj "list" vs.toArray 0)).get? (s.heap.objs.size+1)=some (seqObj "list" vs.toArray 0):=by
  have:=Heap.get?_push_size ((s.heap.push (seqObj "list" #[] 0)).update s.heap.objs.size (Obj.mapSeq (·++vs.toArray))) (o:=seqObj "list" vs.toArray 0) rfl
  rwa [sz]at this
 have old:∀b o,s.heap.get? b=some o->((((s.heap.push (seqObj "list" #[] 0)).update s.heap.objs.size (Obj.mapSeq (·++vs.toArray))).push (seqObj "list" vs.toArray 0)).update (s.heap.objs.size+1) (Obj.mapSeq λ_=>#[])).get? b=some o:=λb o e=>by
  have lt:=Heap.lt_size e;rw[Heap.get?_update_ne _ _ _ _ (ne_of_lt (lt_succ_of_lt lt)),Heap.get?_push_ne _ _ _ (by rw[sz];exact ne_of_lt (lt_succ_of_lt lt)),Heap.get?_update_ne _ _ _ _ (ne_of_lt lt),Heap.get?_push_ne _ _ _ (ne_of_lt lt)];exact e
 show wpAny _ _ _ _ _ { s with heap:=((s.heap.push (seqObj "list" #[] 0)).update s.heap.objs.size (Obj.mapSeq (·++vs.toArray))).push (seqObj "list" vs.toArray 0) };rw[sz];refine wpAny_bind (wpAny_holding (wpAny_call_entry slot_list_sort ⟨_,at1,rfl⟩ entry_list_sort (Ov at1 hlen h64 hok (λi v p a b=>(hp i v p a b).keep old) λout z=>⟨_,rfl,?_⟩) (args_list_sort _)));exact wpAny_pure ⟨_,rfl,h out z⟩
end
section
variable(K:PySem.W.Frag){X:Cx}
def IM:List V->Hp->VK->Prop:=λxs H Q=>∃(a:Addr) (us:List V) (ps:List (Int×Int)),xs=[.ref a]/\SqL K H a us/\us.length=ps.length/\us.length<64/\(∀q∈ps,pok q)/\
 (∀(i:Nat) (u:V) (q:Int×Int),us[i]?=some u->ps[i]?=some q->∃x,u=.ref x/\SqT K H x [.int q.1,.int q.2])/\
 ∀(p:Addr) (zs:List (V×(Int×Int))),H p=none->zs.Perm (us.zip ps)->(zs.map λz=>Ao z.2).Pairwise (·<=·)->Q (.ref p) (upd H p (.lst (zs.map (·.1))))
def Ff:Value->V
 |.ref x=>.ref x
 |_=>.non
def I0:∀{us:List V} {its:List Value} {i:Nat} {u:V},Vals us its->us[i]?=some u->∃v,its[i]?=some v/\RelV u v
 |_,_,_,_,.nil,h=>by simp at h
 |_::_,_::_,0,_,.cons r _,h=>by
  simp at h;subst h;exact⟨_,rfl,r⟩
 |_::_,_::_,i+1,_,.cons _ t,h=>I0 (i:=i) t (by simpa using h)
def NK(hK:X.K=K:=by rfl):CallR X (.builtin "sorted") (IM K):=by
 subst hK;intro pins s σ H xs us0 Q I r h;obtain⟨a,us,ps,rfl,hq,hlen,h64,hok,hpr,q⟩:=h;obtain⟨u,rfl,ru⟩:=BX r;cases ru;obtain⟨its,rv,p,hz⟩:=I.list hq;have hl2:us.length=its.length:=rv.length;have point:∀(i:Nat) (v:Value) (q:Int×Int),its[i]?=some v->ps[i]?=some q->(∃x,us[i]?=some (.ref x)/\v=.ref x)/\PairAt s.heap v q:=by
  intro i v q e1 e2;have hi:i<us.length:=by rw[hl2];exact(List.getElem?_eq_some_iff.mp e1).1
  have eu:us[i]?=some us[i]:=by simp[hi]
  obtain⟨x,ex,sq⟩:=hpr i _ q eu e2;obtain⟨v',ev,rel⟩:=I0 rv eu;rw[e1]at ev;cases ev;rw[ex]at rel eu;have rel:v=Value.ref x:=rel;subst rel;refine⟨⟨x,eu,rfl⟩,?_⟩;obtain⟨jts,rj,⟨o,ho,hc,n,hd⟩,_⟩:=I.tuple sq;cases rj with
  |cons r1 t1=>
   cases t1 with
   |cons r2 t2=>
    cases t2;obtain⟨t,rfl⟩:=r1;obtain⟨t',rfl⟩:=r2;exact⟨x,o,t,t',n,rfl,ho,hc,hd⟩
 refine M8 (ps:=ps) p.isList (by omega) (by omega) hok (λi v q a b=>(point i v q a b).2) λout z=>?_;obtain⟨zs,pm,pw,rfl⟩:=z;obtain⟨e,he⟩:=sortedAll_at s.heap its (zs.map (·.1)).toArray;have mz:∀z∈zs,∃x,z.1=.ref x:=λz hz=>by
  have:=pm.mem_iff.mp hz;obtain⟨i,hi⟩:=mem_iff_getElem?.mp this;obtain⟨e1,e2⟩:=List.getElem?_zip_eq_some.mp hi;obtain⟨⟨x,_,ex⟩,_⟩:=point i _ _ e1 e2;exact⟨x,ex⟩
 have vz:∀{zs:List (Value×(Int×Int))},(∀z∈zs,∃x,z.1=.ref x)->Vals (zs.map λz=>Ff z.1) (zs.map (·.1)):=by
  intro zs
  induction zs with
  |nil=>intro _;exact .nil
  |cons z r ih=>
   intro h;obtain⟨x,ex⟩:=h z mem_cons_self;refine .cons ?_ (ih λy hy=>h y (mem_cons_of_mem _ hy));show RelV (Ff z.1) z.1;rw[ex];rfl
 have pm2:(zs.map λz=>(Ff z.1,z.2)).Perm (us.zip ps):=by
  have:=pm.map λz:Value×(Int×Int)=>(Ff z.1,z.2)
  have e:((its.zip ps).map λz:Value×(Int×Int)=>(Ff z.1,z.2))=us.zip ps:=by
   refine ext_getElem? λi=>?_;by_cases hi:i<us.length
   .have h1:i<its.length:=by omega
    have h2:i<ps.length:=by omega
    have e1:its[i]?=some its[i]:=by simp[h1]
    have e2:ps[i]?=some ps[i]:=by simp[h2]
    obtain⟨⟨x,ex,ev⟩,_⟩:=point i _ _ e1 e2;rw[List.getElem?_map,(List.getElem?_zip_eq_some (z:=(its[i],ps[i]))).mpr ⟨e1,e2⟩,(List.getElem?_zip_eq_some (z:=(V.ref x,ps[i]))).mpr ⟨ex,e2⟩,map_some,ev];rfl
   .rw[List.getElem?_eq_none (by simp;omega),List.getElem?_eq_none (by simp;omega)]
  rwa [e]at this
 have pw2:((zs.map λz=>(Ff z.1,z.2)).map λz:V×(Int×Int)=>Ao z.2).Pairwise (·<=·):=by rw[map_map];exact pw
 have fin:=q (s.heap.objs.size+1) _ (I.hok.fresh (le_succ _)) pm2 pw2;have em:(zs.map λz=>(Ff z.1,z.2)).map (·.1)=zs.map λz=>Ff z.1:=by rw[map_map];rfl
 rw[em]at fin;have zl:zs.length<64:=by rw[pm.length_eq];simp;omega
 refine⟨.ref (s.heap.objs.size+1),_,I.laid (a:=s.heap.objs.size+1) (o:=.lst (zs.map λz=>Ff z.1)) (t':=s.toks) (λb o hb=>sortedAll_old hb) (le_succ _) ⟨?_,_,e,vz mz,he⟩,rfl,fin⟩;rw[length_map];exact le_of_lt (GS (by omega))
end
def AQ(p:Int×Int):D:=.im (.tup [.int p.1,.int p.2])
def Cq:List D->Option (List (Int×Int))
 |[]=>some []
 |.im (.tup [.int a,.int b])::r=>(Cq r).map ((a,b)::·)
 |_=>none
def GY:∀{ds:List D} {ps:List (Int×Int)},Cq ds=some ps->ds=ps.map AQ:=by
 intro ds
 induction ds with
 |nil=>intro ps h;simp[Cq]at h;subst h;rfl
 |cons d r ih=>
  intro ps h;unfold Cq at h;split at h
  .next e=>cases e
  .next a b r' e=>
   cases e;obtain⟨qs,e1,rfl⟩:=fX h;rw[ih e1];rfl
  .cases h
@[simp] theorem PU(ps:List (Int×Int)):Cq (ps.map AQ)=some ps:=by
 induction ps with
 |nil=>rfl
 |cons p r ih=>simp[Cq,AQ]at ih ⊢;exact ih
def Bp(ps:List (Int×Int)):List (Int×Int):=ps.mergeSort λa b=>decide (Ao a<=Ao b)
def Fc(ps:List (Int×Int)):(Bp ps).Perm ps:=List.mergeSort_perm ..
def MC(ps:List (Int×Int)):(Bp ps).Pairwise λa b=>Ao a<=Ao b:=by
 have:=List.pairwise_mergeSort (le:=λa b:Int×Int=>decide (Ao a<=Ao b)) (by intro a b c h1 h2;simp at *;omega) (by intro a b;simp;omega) ps;exact this.imp (by simp)
def Mk{p q:Int×Int}(a:pok p)(b:pok q)(h:Ao p=Ao q):p=q:=by
 unfold pok at a b;unfold Ao at h;exact Prod.ext (by omega) (by omega)
open Classical in
def EY(m:MI):MA:=λls hd=>(m ls hd).bind λp=>(Cq p.1.1).bind λps=>if ps.length<64/\∀q∈ps,pok q then some ((Bp ps).map AQ,p.2)else none
section
variable{K:PySem.W.Frag}{ρ:List Addr}{H:Hp}{hd:Hd}
def O3{p:Int×Int}{v:V}(h:RD K ρ H (AQ p) v):∃x,v=.ref x/\SqT K H x [.int p.1,.int p.2]:=by
 simp only[AQ,RD,RI,RIs]at h;obtain⟨a,xs,rfl,q,x,r,rfl,rfl,y,r2,rfl,rfl,rfl⟩:=h;exact⟨a,rfl,q⟩
def P4{t:TE}{m:MI}(h:RRw K false t m):RN K (tCB (IM K) (BH t BR)) (EY m):=by
 and_intros;obtain⟨⟨⟨d1,g1⟩,h1⟩,e1,hm⟩:=fW hm;obtain⟨ps,e2,hm⟩:=fW hm;split at hm
 .next c=>
  cases hm;refine h ρ σ H hd ls _ d1 g1 _ hR hL e1 λρ1 H1 a x1 R1 G1 S1=>?_;obtain⟨xs,q,r⟩:=S1 ρ1 H1 _ .refl R1 G1;have e2:Cq d1=some ps:=e2;rw[GY e2]at r;have hl:xs.length=ps.length:=by simpa using r.len
  have each:∀(i:Nat) (u:V) (q:Int×Int),xs[i]?=some u->ps[i]?=some q->RD K ρ1 H1 (AQ q) u:=λi u q a b=>by
   obtain⟨x,e,z⟩:=r.get (i:=i) (d:=AQ q) (by simp[b]);rw[a]at e;cases e;exact z
  refine⟨a,xs,ps,rfl,q,hl,by rw[hl];exact c.1,c.2,λi u q a b=>O3 (each i u q a b),λp zs hp pm pw=>?_⟩;have es:zs.map (·.2)=Bp ps:=by
   have pp:(zs.map (·.2)).Perm ps:=by
    have:=pm.map (λz:V×(Int×Int)=>z.2)
    rwa [map_snd_zip (by omega)]at this
   refine(pp.trans (Fc ps).symm).eq_of_pairwise (le:=λa b=>Ao a<=Ao b) (λx y hx hy l1 l2=>Mk (c.2 _ (pp.mem_iff.mp hx)) (c.2 _ ((Fc ps).mem_iff.mp hy)) (Int.le_antisymm l1 l2)) ?_ (MC ps);rw[pairwise_map]at pw ⊢;exact pw
  obtain⟨R2,x2⟩:=R1.hid (ho:=.lst (zs.map (·.1))) hp;have all:∀z∈zs,RD K ρ1 H1 (AQ z.2) z.1:=λz hz=>by
   obtain⟨i,hi⟩:=mem_iff_getElem?.mp (pm.mem_iff.mp hz);obtain⟨a1,a2⟩:=List.getElem?_zip_eq_some.mp hi;exact each i _ _ a1 a2
  have rd:∀{zs:List (V×(Int×Int))},(∀z∈zs,RD K ρ1 H1 (AQ z.2) z.1)->RDs K ρ1 H1 ((zs.map (·.2)).map AQ) (zs.map (·.1)):=by
   intro zs
   induction zs with
   |nil=>intro _;exact .nil
   |cons z r ih=>intro h;exact .cons (h z mem_cons_self) (ih λy hy=>h y (mem_cons_of_mem _ hy))
  have rz:=rd all;rw[es]at rz;exact hQ ρ1 _ p _ (x1.trans R1 x2) R2 (x1.none hR hp R1) (R1.out hp) AI (rz.ext R1 x2)
 .cases hm
open Classical in
def FS:D->List D->Hd->Option (D×Hd)
 |.mu n,[.im (.int i)],hd=>match hd[n]? with
  |some (.lst ds)=>if Fd i then(ixN ds.length i).bind λk=>(ds[k]?).map λy=>(y,hd.set n (.lst (ds.eraseIdx k)))else none
  |_=>none
 |_,_,_=>none
def RDs.erase:∀{ds:List D} {xs:List V} (k:Nat),RDs K ρ H ds xs->RDs K ρ H (ds.eraseIdx k) (xs.eraseIdx k)
 |[],_,_,h=>by simp only[RDs]at h;subst h;simp[RDs]
 |d::ds,_,0,h=>by simp only[RDs]at h;obtain⟨x,r,rfl,_,t⟩:=h;simpa using t
 |d::ds,_,k+1,h=>by
  simp only[RDs]at h;obtain⟨x,r,rfl,a,t⟩:=h;simpa using RDs.cons a (RDs.erase k t)
end
def Tc{K:PySem.W.Frag}:RM K RJ FS:=by
 intro ρ H hd d v ds vs Q z hd' hR h1 h2 hf hQ;unfold FS at hf;split at hf
 .split at hf
  .next q=>
   split at hf
   .next c=>
    obtain⟨k,e0,hf⟩:=fW hf;obtain⟨y,e1,e3⟩:=fX hf;cases e3;simp only[RD]at h1;obtain⟨a,hn,rfl⟩:=h1;simp only[RDs,RD,RI]at h2;obtain⟨x,r,rfl,rfl,rfl⟩:=h2;obtain⟨xs,f1,f2⟩:=hR.lst hn q;obtain⟨x,x1,x3⟩:=f2.get e1;obtain⟨R2,x2⟩:=hR.put hn (o:=.lst _) (ho:=.lst (xs.eraseIdx k)) ⟨_,rfl,f2.erase k⟩;obtain⟨s1,s2,s3,s4⟩:=KJ e0;have sz:=f2.len;unfold Fd at c;exact⟨a,xs,_,k,x,rfl,rfl,f1,by omega,by omega,by rw[sz];exact s1,x1,hQ ρ _ _ x2 R2 (x3.ext hR x2)⟩
   .cases hf
  .cases hf
 .cases hf
section
variable(K:PySem.W.Frag){X:Cx}{e:Expr}{te:TE}{p pos:Pos}
def PK{mi:MI}(hm:X.mg "sorted"=none)(ha:QR K false X e te mi)(hg:Gl X "sorted":=by rfl)(he:starEach [e] X.env=[(false,eval e X.env)]:=by rfl)(hK:X.K=K:=by rfl):QN K X (.Call (.Name "sorted" p) [e] [] pos) (tCB (IM K) (BH te BR)) (EY mi):=
 ⟨EW (NK K hK) hg hm Ex (Bi ha.p Bw he) (by decide) (by decide) he rfl,P4 ha.r⟩
end
section
variable{ls:Ls}{hd:Hd}
open Classical in
@[simp] theorem Ut(k:Nat)(i:Int):FS (.mu k) [.im (.int i)] hd=match hd[k]? with
 |some (.lst ds)=>if Fd i then(ixN ds.length i).bind λj=>(ds[j]?).map λy=>(y,hd.set k (.lst (ds.eraseIdx j)))else none
 |_=>none:=rfl
open Classical in
@[simp] theorem ck(mi:MI):EY mi ls hd=(mi ls hd).bind λp=>(Cq p.1.1).bind λps=>if ps.length<64/\∀q∈ps,pok q then some ((Bp ps).map AQ,p.2)else none:=rfl
end
def DZ(m:ME):MI:=λls hd=>match Az m ls hd with
 |some z=>some z
 |none=>Bu m ls hd
def OJ(K:PySem.W.Frag)(t:TE):TI:=λσ H R=>N1 K t σ H R∨Fw K t σ H R
def Yy{K:PySem.W.Frag}{t:TE}{m:ME}(h:RE K t m):RIt K (OJ K t) (DZ m):=by
 intro ρ σ H hd ls Q d g hd' hR hL hm hQ;unfold DZ at hm;split at hm
 .next z e=>
  cases hm;exact .inl (Qp h ρ σ H hd ls Q d g hd' hR hL e hQ)
 .exact .inr (O2 h ρ σ H hd ls Q d g hd' hR hL hm hQ)
def Zf(K:PySem.W.Frag){X:Cx}{tg e:Expr}{t:TE}{m:ME}(h:QE K X e t m)(hK:X.K=K:=by rfl):QI K X tg e (OJ K t) (DZ m):=
 ⟨λpins s σ H R I q=>q.elim (λq=>(OA K h.p hK) pins s σ H R I q) λq=>(IQ K h.p hK) pins s σ H R I q,Yy h.r⟩
section
variable{m:ME}{ls:Ls}{hd hd':Hd}
def OI{is:List I}(e:m ls hd=some (.im (.tup is),hd')):DZ m ls hd=some ((is.map .im,[]),hd'):=by unfold DZ;simp[e]
end
def FK(p:Int×Int):I:=.tup [.int p.1,.int p.2]
end L2
namespace L2
open PySem PySem.Spec PyProof.Rows
section
variable{prog:Program}{w:World}{A:Around}{R:Result->Shared->Prop}{s:Shared}
def LO(k v target iter:Expr)(ifs:List Expr)(scope:Scope)(pos:Pos)(it acc:Value)(env:Env):
 compTurn (.DictComp k v [⟨target,iter,ifs,0⟩] scope pos) 0 it acc env=(do
  standAt iter.pos
  match <- pyNext it with
  |none=>pure (.done .next)
  |some x=>
   letOwnedTupleGo target it x
   assign target env x
   let mut ok:=true
   for c in ifs do
    if ok then ok <- isTrue c env (eval c env)
   if ok then
    (do
     let kv <- eval k env
     let vv <- holding [kv] (eval v env)
     match acc with
     |.ref d=>do
      standAt { k.pos with endLine:=v.pos.endLine,endCol:=v.pos.endCol }
      holding [kv,vv] (dictSet d kv vv)
     | _=>unsupported "internal:dictcomp")
   again (.compLoop (.DictComp k v [⟨target,iter,ifs,0⟩] scope pos) 0 it acc env)):=by rfl
def SQ{e target iter:Expr}{ifs:List Expr}{it acc:Value}{env:Env}{emit:Sem Unit}(I:Nat->Shared->Prop)
 (hden:(model prog w).den (.compLoop e 0 it acc env)=(compTurn e 0 it acc env).onRaise (λx=>do noteFrame x env;theTreesLotGoes x))
 (hund:A.under (.compLoop e 0 it acc env)=A)
 (hturn:compTurn e 0 it acc env=(do
  standAt iter.pos
  match <- pyNext it with
  |none=>pure (.done .next)
  |some x=>
   letOwnedTupleGo target it x
   assign target env x
   let mut ok:=true
   for c in ifs do
    if ok then ok <- isTrue c env (eval c env)
   if ok then emit
   again (.compLoop e 0 it acc env)))
 (turn:∀n s,I n s->wpAny (model prog w) A (pyNext it) (λr s₁=>match r with
  |none=>R (.ok .next) s₁
  | some v=>wpAny (model prog w) A (letOwnedTupleGo target it v) (λ_ s₁=>wpAny (model prog w) A (assign target env v) (λ_ s₂=>
   wpAny (model prog w) A (forIn ifs true λc r=>if r=true then do let ok <- isTrue c env (eval c env);pure (ForInStep.yield ok)else pure (ForInStep.yield r)) (λok s₃=>
    if ok=true then wpAny (model prog w) A emit (λ_ s₅=>∃m,m<n/\I m s₅) (λ_ _=>False) s₃
    else ∃m,m<n/\I m s₃) (λ_ _=>False) s₂) (λ_ _=>False) s₁) (λ_ _=>False) s₁) (λ_ _=>False) s)
 (n:Nat) (h:I n s):
 codeAny (model prog w) A (.compLoop e 0 it acc env) R s:=by
 refine codeAny_loop rfl I (λn s hI=>?_) n h;rw[hden,hund];refine wpAny_noted ?_;rw[hturn];refine wpAny_bind (wpAny_standAt (wpAny_bind (wpAny_mono (turn n s hI) (λr s₁ h₁=>?_) λ_ _ h'=>h'.elim)));cases r with
 |none=>exact wpAny_pure h₁
 |some v=>
  refine wpAny_bind (wpAny_mono h₁ (λ_ s₁ h₁=>?_) λ_ _ h'=>h'.elim);refine wpAny_bind (wpAny_mono h₁ (λ_ s₂ h₂=>wpAny_bind (wpAny_mono h₂ (λok s₃ h₃=>?_) λ_ _ h'=>h'.elim)) λ_ _ h'=>h'.elim);cases ok with
  |false=>exact wpAny_pure ⟨rfl,h₃⟩
  |true=>
   exact wpAny_bind (wpAny_mono h₃ (λx s₄ h₄=>wpAny_pure ⟨rfl,h₄⟩) λ_ _ h'=>h'.elim)
def Pv{e:Expr}{g:Comprehension}{gs:List Comprehension}{it acc:Value}{env:Env}(hcl:clausesOf e=g::gs)(hasy:g.is_async=0)
 (hden:(model prog w).den (.compStart e 0 it acc env)=(compStart e 0 it acc env).onRaise (λx=>do noteFrame x env;standAt theWindowsPlace))
 (hund:A.under (.compStart e 0 it acc env)=A)
 (h0:codeAny (model prog w) A (.compLoop e 0 it acc env) R s)
 (h:wpAny (model prog w) A (pyIter it) (λit' s'=>codeAny (model prog w) A (.compLoop e 0 it' acc env) R s')
  (notedBy (model prog w) A env λx s'=>R (.error x) s') s):
 codeAny (model prog w) A (.compStart e 0 it acc env) R s:=by
 refine codeAny_of_tree ?_;rw[hden,hund];refine wpAny_notedAt ?_;have e1:((clausesOf e)[0]?).elim false (·.is_async != 0)=false:=by rw[hcl];simp[hasy]
 have e2:(clausesOf e)[0]?=some g:=by rw[hcl];rfl
 unfold compStart;rw[e1,e2];show wpAny _ _ (ask >>= _) _ _ s;refine wpAny_bind (wpAny_askSetting (wpAny_ite ?_));split
 .first
   |exact wpAny_bind (wpAny_pure (wpAny_pure (And.intro rfl h0)))
   |exact wpAny_pure (And.intro rfl h0)
 .first
   |exact wpAny_bind (wpAny_rule (wpAny_bind (wpAny_standAt (wpAny_bind (wpAny_mono h (λit' s' h'=>wpAny_pure (And.intro rfl h')) λ_ _ x=>x)))))
   |(refine wpAny_bind (wpAny_rule ?_);show wpAny _ _ (standAt g.iter.pos >>= _) _ _ s;exact wpAny_bind (wpAny_standAt (wpAny_bind (wpAny_mono h (λit' s' h'=>wpAny_pure (And.intro rfl h')) λ_ _ x=>x))))
end
abbrev TM:=Addr->St->Hp->(Hp->Prop)->Prop
def PM(X:Cx)(emit:Value->Env->Sem Unit)(t:TM):Prop:=
 ∀(D:Addr) (pins:List (Addr×Obj)) (s:Shared) (σ:St) (H:Hp) (Q:Hp->Prop),Inv X pins σ H s->t D σ H Q->wpAny (model X.prog X.w) X.A (emit (.ref D) X.env) (λ_ s'=>∃H',Inv X pins σ H' s'/\Q H') X.xe s
def bh(J:It)(D:Addr)(o:HO)(σ0:St)(H0:Hp)(g:TG)(tf:TT)(tm:TM)(Q:VK):Prop:=∃W:Nat->Nat->St->Hp->Prop,
 (∃m,W 0 m σ0 (upd H0 D o))/\∀i m σ H,W i m σ H ->
  ((J.stop i H/\Q (.ref D) H)∨(J.go i H/\∃N:St->Hp->Prop,(∀σ' H',N σ' H'->∃m',m'<m/\W (i+1) m' σ' H')/\
    ∀x H',J.yld i H x H'->g x σ H' λσ2 H2=>tf σ2 H2 λb H3=>
     if b=true then tm D σ2 H3 λH4=>N σ2 H4 else N σ2 H3))
def GR(o:HO)(n:Nat)(ix:List Nat)(wi:TI)(g:TG)(tf:TT)(tm:TM):TE:=λσ H Q=>wi σ H λJ H1=>∀D,H1 D=none->bh J D o (GA n ix σ) H1 g tf tm Q
section
variable{X:Cx}
def UJ{e tg iter:Expr}{ifs:List Expr}{scope:Scope}{pos:Pos}{loc fr:List Str}{ix:List Nat}{wi:TI}{g:TG}{tf:TT}{tm:TM}{emit:Value->Env->Sem Unit}{newAcc:Sem Value}{ho:HO}
 (hc:X.calm=true) (S:CSc X scope fr ix) (hi:PI X tg iter wi)
 (hg:∀s H ex,PG (cCx X (loc++fr) scope s H ex) tg g) (hf:∀s H ex,PF (cCx X (loc++fr) scope s H ex) ifs tf) (he:∀s H ex,PM (cCx X (loc++fr) scope s H ex) emit tm)
 (hev:eval e X.env=comprehension e scope X.env pos newAcc false (eval iter X.env))
 (hcl:clausesOf e=[⟨tg,iter,ifs,0⟩])
 (hturn:∀it acc env,compTurn e 0 it acc env=(do
  standAt iter.pos
  match <- pyNext it with
  |none=>pure (.done .next)
  |some x=>
   letOwnedTupleGo tg it x
   assign tg env x
   let mut ok:=true
   for c in ifs do
    if ok then ok <- isTrue c env (eval c env)
   if ok then emit acc env
   again (.compLoop e 0 it acc env)))
 (hd1:∀it acc env,(model X.prog X.w).den (.compLoop e 0 it acc env)=(compTurn e 0 it acc env).onRaise (λx=>do noteFrame x env;theTreesLotGoes x))
 (hd2:∀it acc env,(model X.prog X.w).den (.compStart e 0 it acc env)=(compStart e 0 it acc env).onRaise (λx=>do noteFrame x env;standAt theWindowsPlace))
 (hu1:∀it acc env,X.A.under (.compLoop e 0 it acc env)=X.A) (hu2:∀it acc env,X.A.under (.compStart e 0 it acc env)=X.A)
 (hnew:∀(pins:List (Addr×Obj)) (s:Shared) (σ:St) (H:Hp) (Q:Value->Shared->Prop),Inv X pins σ H s->(∀ob,Inv X pins σ (upd H s.heap.objs.size ho) { s with heap:=s.heap.push ob }->Q (.ref s.heap.objs.size) { s with heap:=s.heap.push ob })->wpAny (model X.prog X.w) X.A newAcc Q X.xe s)
 (hs:∀x,foldedSetIterable iter X.env x=pure x:=by intro _;rfl):PE X e (GR ho loc.length ix wi g tf tm):=by
 intro pins s σ H Q I h;rw[hev];have hnames:∀y∈scope.names,y.2=.local->scope.names.lookup y.1=some .local:=λy hy e=>by
  have:=all_eq_true.mp S.loc y hy;rw[e]at this;simpa using this
 refine wpAny_comprehension_free (use:=none) hcl hs (Cw (S.clos I.ok)) S.kind hnames (thn (hi pins s σ H _ I h) λv s1 h1=>thn h1 λitv s2 h2=>?_);obtain⟨it,fp,tn,J,H2,rfl,I2,T,st2,f2,hW⟩:=h2;refine hnew pins s2 σ H2 _ I2 λob I3=>?_;have fresh2:H2 s2.heap.objs.size=none:=I2.hok.fresh (le_refl _);obtain⟨W,⟨m0,w0⟩,turn⟩:=hW s2.heap.objs.size fresh2;have lt2:∀b∈fp,b<s2.heap.objs.size:=λb hb=>let ⟨o,e,_⟩:=T.obj 0 _ st2 b hb;Heap.lt_size e
 have f3:∀b∈fp,FpOk X pins (upd H2 s2.heap.objs.size ho) b:=λb hb=>⟨by rw[upd_ne (ne_of_lt (lt2 b hb))];exact(f2 b hb).1,(f2 b hb).2⟩
 have lt3:∀b∈fp,b<(s2.heap.push ob).objs.size:=λb hb=>by rw[Heap.size_push];exact lt_succ_of_lt (lt2 b hb)
 generalize hs3:({ s2 with heap:=s2.heap.push ob }:Shared)=s3 at *;have lt3:∀b∈fp,b<s3.heap.objs.size:=by rw[<- hs3];exact lt3
 have st3:tn 0 s3.heap:=T.keep _ _ _ st2 λb hb o e=>by rw[<- hs3];exact Heap.get?_push_of_some _ e
 refine KB λh' hk hn ho' ha=>?_;have I4:=Ia (loc:=loc) S I3 f3 hk hn ho' ha lt3;have fpX:∀{H':Hp},(∀b∈fp,H' b=none)->∀b∈fp,FpOk (cCx X (loc++fr) scope s3 (upd H2 s2.heap.objs.size ho) fp) [] H' b:=λhn b hb=>
  ⟨hn b hb,(I4.ok.exf b hb).1,I4.ok.exfs b hb,.inl hb,(I4.ok.exf b hb).2,λp hp=>by cases hp⟩
 have loop:codeAny (model X.prog X.w) X.A (.compLoop e 0 (.ref it) (.ref s2.heap.objs.size) (Q0 scope s3.heap.objs.size X.env))
  (compPost (model X.prog X.w) X.A X.xe none (EP X pins σ Q) (.ref s2.heap.objs.size) s3.heap.objs.size) { s3 with heap:=h' }:=by
  refine SQ (λn s'=>∃i σ' H',Inv (cCx X (loc++fr) scope s3 (upd H2 s2.heap.objs.size ho) fp) [] σ' H' s'/\tn i s'.heap/\(∀b∈fp,H' b=none)/\W i n σ' H') (hd1 _ _ _) (hu1 _ _ _) (hturn _ _ _) ?_ m0
   ⟨0,_,_,I4,T.keep _ _ _ st3 λb hb o e=>hk b o e,λb hb=>(f3 b hb).1,w0⟩
  rintro n s5 ⟨i,σ5,H5,I5,st5,fr5,w5⟩;have w5:=turn i n σ5 H5 w5;rcases w5 with⟨stop,qn⟩|⟨go,N,hN,step⟩
  .refine thn (T.done (cCx X (loc++fr) scope s3 (upd H2 s2.heap.objs.size ho) fp) rfl rfl rfl hc i [] s5 σ5 H5 _ I5 (fpX fr5) st5 stop) λr s6 ⟨hr,I6⟩=>?_;subst hr;obtain⟨m,hm,_⟩:=I6.loc;refine⟨m,hm,λh'' hs=>?_⟩;have neC:∀b o,s3.heap.get? b=some o->b≠s3.heap.objs.size:=λb o e=>ne_of_lt (Heap.lt_size e);have un:=I6.base;refine⟨.ref s2.heap.objs.size,H5,I3.call' (s':={ s6 with heap:=h'' }) (ch:=fp) I6.os ⟨λb o e n hb hx=>?_,λb o e n hb hx=>?_,un.free,λb o e hx=>?_,un.tups,un.frzs,un.tbls⟩ ?_ I6.bare ?_,rfl,qn⟩
   .exact(hs.2 b (neC b o e)).trans (un.keep b o e n hb hx)
   .obtain⟨sl,q⟩:=un.slot b o e n hb hx;exact⟨sl,(hs.2 b (neC b o e)).trans q⟩
   .obtain⟨o',q⟩:=un.there b o e hx;exact⟨o',(hs.2 b (neC b o e)).trans q⟩
   .intro b ob e;have hfree:H5 s3.heap.objs.size=none:=I6.free;refine(I6.hok b ob e).stay (λc w' hc q=>(hs.2 c ?_).trans q) (λ_ q=>q) λ_ _ q=>q;intro z;rcases hc with hc|hc
    .rw[<- hc,z,hfree]at e;cases e
    .rw[z,hfree]at hc;cases hc
   .intro b hb;obtain⟨_,a2,_,a4,a5,a6⟩:=f3 b hb;exact⟨a4,a2,a5,a6⟩
  .refine thn (T.item (cCx X (loc++fr) scope s3 (upd H2 s2.heap.objs.size ho) fp) rfl rfl rfl hc i [] s5 σ5 H5 _ I5 (fpX fr5) st5 go) λr s6 ⟨u,hr,h6⟩=>?_;subst hr;refine thn h6 λ_ s7 ⟨x,H7,I7,r7,y7,st7,fr7⟩=>?_;have I7':=I7.pinned (fpX fr7) (T.obj _ _ st7);have keepI:∀{σ8:St} {H8:Hp} {s8:Shared},Inv (cCx X (loc++fr) scope s3 (upd H2 s2.heap.objs.size ho) fp) ([]++EV fp s7.heap) σ8 H8 s8->tn (i+1) s8.heap/\∀b∈fp,H8 b=none:=λ{σ8 H8 s8} I8=>by
    refine⟨T.keep _ _ _ st7 λb hb o e=>(I8.pin (b,o) (mem_append_right _ (mem_append_right _ (Br hb e)))).1,λb hb=>?_⟩;obtain⟨o,e,d⟩:=T.obj _ _ st7 b hb;exact(I8.pin (b,o) (mem_append_right _ (mem_append_right _ (Br hb e)))).2.1
   refine thn (hg s3 (upd H2 s2.heap.objs.size ho) fp _ s7 σ5 H7 x u _ I7' r7 (step x H7 y7)) λ_ s8 ⟨σ8,H8,I8,q8⟩=>?_;refine thn (hf s3 (upd H2 s2.heap.objs.size ho) fp _ s8 σ8 H8 _ I8 q8) λb s9 ⟨H9,I9,q9⟩=>?_;cases b with
   |false=>
    rw[if_neg Bool.false_ne_true]at q9 ⊢;obtain⟨m',hm,w9⟩:=hN _ _ q9;exact⟨m',hm,i+1,σ8,H9,I9.unpinned,(keepI I9).1,(keepI I9).2,w9⟩
   |true=>
    rw[if_pos rfl]at q9 ⊢;refine thn (he s3 (upd H2 s2.heap.objs.size ho) fp _ _ s9 σ8 H9 _ I9 q9) λe10 s10 ⟨H10,I10,n10⟩=>?_;obtain⟨m',hm,w10⟩:=hN _ _ n10;exact⟨m',hm,i+1,σ8,_,I10.unpinned,(keepI I10).1,(keepI I10).2,w10⟩
 exact Pv hcl rfl (hd2 _ _ _) (hu2 _ _ _) loop (T.self X.A 0 _ _ _ (T.keep _ _ _ st3 λb hb o e=>hk b o e) loop)
def JV(tk tv:TE):TM:=λD σ H Q=>tk σ H λy H1=>tv σ H1 λv H2=>∃kvs k,H2 D=some (.dK kvs)/\y=kV k/\kvs.length<sizeLine/\Q (upd H2 D (.dK (CV kvs k v)))
def SO{pins:List (Addr×Obj)}{σ:St}{H:Hp}{s:Shared}{a:Addr}{v:V}{u r:Value}{A:Around}{E:Value->Shared->Prop}{kvs:List (Key×V)}{k:Key}{Q:Unit->Shared->Prop}(I:Inv X pins σ H s)(e:H a=some (.dK kvs))(l:kvs.length<sizeLine)(ry:RelV (kV k) u)(rv:RelV v r)(h:∀s',Inv X pins σ (upd H a (.dK (CV kvs k v))) s'->Q () s'):
 wpAny (model X.prog X.w) A (dictSet a u r) Q E s:=by
 obtain⟨z,hd,vs,rel,dd⟩:=Vd I.hok e;have hz:vs.length<=sizeLine:=by rw[<- rel.length];exact z
 have hl:(CV kvs k v).length<=sizeLine:=by have:=F5 kvs k v;omega
 refine wpAny_dictSet_pairs (hsz:=hz) (HY ry) dd λh' dd' hs=>h _ ?_;have he:∃q,h'.get? a=some q:=let ⟨q,_,_,hq,_⟩:=dd';⟨q,hq⟩
 exact KU I (by rw[e];exact True.intro) hs he (SK hl hd (rel.put k rv) dd')
def Pr(k v:Expr):Value->Env->Sem Unit:=λacc env=>do
 let kv <- eval k env
 let vv <- holding [kv] (eval v env)
 match acc with
 |.ref d=>do
  standAt { k.pos with endLine:=v.pos.endLine,endCol:=v.pos.endCol }
  holding [kv,vv] (dictSet d kv vv)
 |_=>unsupported "internal:dictcomp"
def XO{k v:Expr}{tk tv:TE}(hk:PE X k tk)(hv:PE X v tv):PM X (Pr k v) (JV tk tv):=by
 intro D pins s σ H Q I h;unfold Pr;refine wpAny_bind (thn (hk pins s σ H _ I h) λu s1 ⟨y,H1,I1,r1,q1⟩=>?_);refine wpAny_bind (wpAny_holding (thn (hv pins s1 σ H1 _ I1 q1) λr s2 ⟨v,H2,I2,r2,kvs,k,e,ey,l,q2⟩=>?_));refine wpAny_bind (wpAny_standAt (wpAny_holding ?_));subst ey;exact SO I2 e l r1 r2 λs' I'=>⟨_,I',q2⟩
def UI{k v tg iter:Expr}{ifs:List Expr}{scope:Scope}{pos:Pos}{loc fr:List Str}{ix:List Nat}{wi:TI}{g:TG}{tf:TT}{tk tv:TE}
 (hc:X.calm=true) (S:CSc X scope fr ix) (hi:PI X tg iter wi)
 (hg:∀s H ex,PG (cCx X (loc++fr) scope s H ex) tg g) (hf:∀s H ex,PF (cCx X (loc++fr) scope s H ex) ifs tf) (hk:∀s H ex,PE (cCx X (loc++fr) scope s H ex) k tk) (hv:∀s H ex,PE (cCx X (loc++fr) scope s H ex) v tv)
 (hs:∀x,foldedSetIterable iter X.env x=pure x:=by intro _;rfl):PE X (.DictComp k v [⟨tg,iter,ifs,0⟩] scope pos) (GR (.dK []) loc.length ix wi g tf (JV tk tv)):=by
 refine UJ (emit:=Pr k v) (newAcc:=newDict) (pos:=firstIterPos [⟨tg,iter,ifs,0⟩] pos) hc S hi hg hf (λs H ex=>XO (hk s H ex) (hv s H ex)) rfl rfl (λit acc env=>LO ..) (λ_ _ _=>rfl) (λ_ _ _=>rfl) (λ_ _ _=>rfl) (λ_ _ _=>rfl) (λpins s σ H Q I h=>?_) hs;simp only[newDict,newObj];refine wpAny_bind (wpAny_alloc (wpAny_pure (h _ ?_)));exact I.laid (a:=s.heap.objs.size) (o:=.dK []) (t':=s.toks) (λ_ _ q=>Heap.get?_push_of_some _ q) (le_refl _) (NF s.heap I.big)
end
section
variable{K:PySem.W.Frag}{ρ ρ':List Addr}{H H':Hp}{hd hd':Hd}
def RH.hputO(h:RH K ρ H hd){a:Addr}(out:a∉ρ){o ho:HO}(hl:H a=some o)(c:Chg H a)(n1:∀ps,o≠.tbl ps)(n2:∀φ,o≠.ext φ):RH K ρ (upd H a ho) hd:=by
 have gr:Grow H (upd H a ho):=Grow.refl.put c;refine⟨h.len,h.nd,h.tabs.upd (λps z=>n1 ps (Option.some.inj (hl.symm.trans z))) (λps z=>n2 ps (Option.some.inj (hl.symm.trans z))),λm o' b e1 e2=>?_⟩;obtain⟨ho',q1,q2⟩:=h.ob m o' b e1 e2;have:b≠a:=λz=>out (by rw[<- z];exact mem_of_getElem? e2);exact⟨ho',by rw[upd_ne this];exact q1,by simpa using q2.mono gr []⟩
def Ext.outk(x:Ext ρ H ρ' H'){a:Addr}{o:HO}(h:H a=some o)(out:a∉ρ):a∉ρ':=by
 obtain⟨r,rfl,fr⟩:=x.pre;intro z;rcases mem_append.mp z with z|z
 .exact out z
 .have:=fr _ z;rw[h]at this;cases this
structure Acc(K:PySem.W.Frag)(α:Type)(o0:HO)(a0:α) where
 rel:List Addr->Hp->α->HO->Prop
 mono:∀{ρ:List Addr} {H H':Hp} {a:α} {o:HO} (r:List Addr),Grow H H'->rel ρ H a o->rel (ρ++r) H' a o
 chg:∀{ρ:List Addr} {H:Hp} {a:α} {o:HO},rel ρ H a o->(∀xs,o≠.tup xs)/\∀z u,o≠.frz z u
 chg2:∀{ρ:List Addr} {H:Hp} {a:α} {o:HO},rel ρ H a o->(∀xs,o≠.tbl xs)/\∀z,o≠.ext z
 init:∀ρ H,rel ρ H a0 o0
abbrev MM(α:Type):=Ls->Hd->α->Option (α×Hd)
def RM1{α:Type}{o0:HO}{a0:α}(B:Acc K α o0 a0)(t:TM)(m:MM α):Prop:=∀(ρ:List Addr) (σ:St) (H:Hp) (hd:Hd) (ls:Ls) (a a':α) (hd':Hd) (Da:Addr) (o:HO) (Q:Hp->Prop),RH K ρ H hd->RL K ρ H ls σ->Da∉ρ->H Da=some o->B.rel ρ H a o ->
 m ls hd a=some (a',hd')->(∀ρ' H' o',Ext ρ H ρ' H'->RH K ρ' H' hd'->H' Da=some o->B.rel ρ' H' a' o'->Q (upd H' Da o'))->t Da σ H Q
open Classical in
def mGo{α:Type}(n:MG)(c:MT)(me:MM α)(g:Gd):List D->Ls->Hd->α->Option (α×Hd)
 |[],_,hd,a=>some (a,hd)
 |d::r,ls,hd,a=>(n d ls hd).bind λls1=>(c ls1 hd).bind λp=>if p.1=true then(me ls1 p.2 a).bind λq=>if GOk q.2 g then mGo n c me g r ls1 q.2 q.1 else none else if GOk p.2 g then mGo n c me g r ls1 p.2 a else none
def Gj{α:Type}(k:Nat)(ix:List Nat)(mi:MI)(n:MG)(c:MT)(a0:α)(me:MM α):Ls->Hd->Option (α×Hd):=λls hd=>(mi ls hd).bind λp=>mGo n c me p.1.2 p.1.1 (Cj k ix ls) p.2 a0
def RNG{α:Type}{o0:HO}{a0:α}(B:Acc K α o0 a0)(t:TE)(m:Ls->Hd->Option (α×Hd)):Prop:=∀(ρ:List Addr) (σ:St) (H:Hp) (hd:Hd) (ls:Ls) (Q:VK) (a:α) (hd':Hd),RH K ρ H hd->RL K ρ H ls σ->m ls hd=some (a,hd') ->
 (∀ρ' H' Da o,Ext ρ H ρ' H'->RH K ρ' H' hd'->H Da=none->Da∉ρ'->H' Da=some o->B.rel ρ' H' a o->Q (.ref Da) H')->t σ H Q
def TX{α:Type}{o0:HO}{a0:α}{B:Acc K α o0 a0}{k:Nat}{ix:List Nat}{wi:TI}{g:TG}{tf:TT}{tm:TM}{mi:MI}{n:MG}{c:MT}{m:MM α}(hi:RIt K wi mi)(hg:RGt K g n)(hf:RT K tf c)(he:RM1 B tm m):RNG B (GR o0 k ix wi g tf tm) (Gj k ix mi n c a0 m):=by
 intro ρ σ H hd ls Q out hd' hR hL hm hQ;obtain⟨⟨⟨ds,gd⟩,h1⟩,e1,hm⟩:=fW hm;dsimp only at hm;refine hi ρ σ H hd ls _ ds gd h1 hR hL e1 λρ1 H1 J x1 R1 G1 Y=>?_;intro Da hDa;obtain⟨R1',x1'⟩:=R1.hid (ho:=o0) hDa;have oD:Da∉ρ1:=R1.out hDa;have nD:H Da=none:=x1.none hR hDa R1;refine⟨λi mm σ2 H2=>mm=ds.length-i/\i<=ds.length/\∃ρ2 ls2 hd2 a2 o2,Ext ρ1 H1 ρ2 H2/\Da∉ρ2/\H2 Da=some o2/\RH K ρ2 H2 hd2/\RL K ρ2 H2 ls2 σ2/\B.rel ρ2 H2 a2 o2/\GOk hd2 gd/\mGo n c m gd (ds.drop i) ls2 hd2 a2=some (out,hd'),
  ⟨ds.length,by simp,zero_le _,ρ1,_,h1,a0,o0,x1',oD,AI,R1',(OX ((hL.ext hR x1).ext R1 x1')),B.init _ _,G1,by simpa using hm⟩,?_⟩
 rintro i mm σ2 H2 ⟨rfl,hi,ρ2,ls2,hd2,a2,o2,x2,oD2,hD2,R2,L2',r2,G2,hm2⟩;obtain⟨Y1,Y2⟩:=Y ρ2 H2 hd2 x2 R2 G2 i;by_cases hlt:i<ds.length
 .obtain⟨go,Y1⟩:=Y1 hlt;have ed:ds.drop i=ds[i]::ds.drop (i+1):=drop_eq_getElem_cons hlt;rw[ed]at hm2;unfold mGo at hm2;obtain⟨ls3,e3,hm2⟩:=fW hm2;obtain⟨⟨bb,hd4⟩,e4,hm2⟩:=fW hm2;refine .inr ⟨go,λσ' H'=>∃ρ2 ls2 hd2 a2 o2,Ext ρ1 H1 ρ2 H'/\Da∉ρ2/\H' Da=some o2/\RH K ρ2 H' hd2/\RL K ρ2 H' ls2 σ'/\B.rel ρ2 H' a2 o2/\GOk hd2 gd/\mGo n c m gd (ds.drop (i+1)) ls2 hd2 a2=some (out,hd'),λσ' H' z=>⟨ds.length-(i+1),by omega,rfl,hlt,z⟩,λx H3 y=>?_⟩;obtain⟨ρ3,d3,x3,rfl,R3,e5,r3⟩:=Y1 x H3 y;have e6:d3=ds[i]:=by
   have:ds[i]?=some ds[i]:=by simp[hlt]
   rw[this]at e5;exact(Option.some.inj e5).symm
  subst e6;refine hg ρ3 σ2 H3 hd2 ls2 ls3 _ x _ R3 (L2'.ext R2 x3) r3 e3 λσ4 L4=>?_;refine hf ρ3 σ4 H3 hd2 ls3 _ bb hd4 R3 L4 e4 λρ5 H5 x5 R5=>?_;have hD3:H3 Da=some o2:=x3.keep Da _ hD2 oD2 (B.chg2 r2).1;have hD5:H5 Da=some o2:=x5.keep Da _ hD3 oD2 (B.chg2 r2).1;have out5:Da∉ρ5:=x5.outk hD3 oD2;have y25:=x3.trans R3 x5;have r5:B.rel ρ5 H5 a2 o2:=by
   obtain⟨r,rfl,fr⟩:=y25.pre;exact B.mono r (y25.grow R2) r2
  cases bb with
  |false=>
   rw[if_neg Bool.false_ne_true]at hm2 ⊢;split at hm2
   .next g5=>exact⟨ρ5,ls3,hd4,a2,o2,x2.trans R2 y25,out5,hD5,R5,L4.ext R3 x5,r5,g5,hm2⟩
   .cases hm2
  |true=>
   rw[if_pos rfl]at hm2 ⊢;obtain⟨⟨z,hd6⟩,e6,hm2⟩:=fW hm2;dsimp only at hm2;split at hm2
   .next g6=>
    refine he ρ5 σ4 H5 hd4 ls3 a2 z hd6 Da o2 _ R5 (L4.ext R3 x5) out5 hD5 r5 e6 λρ6 H6 o6 x6 R6 hD6 r6=>?_;have out6:Da∉ρ6:=x6.outk hD5 out5;have c6:Chg H6 Da:=⟨λxs z=>(B.chg r5).1 xs (by rw[hD6]at z;exact Option.some.inj z),λx u z=>(B.chg r5).2 x u (by rw[hD6]at z;exact Option.some.inj z)⟩
    have gr:Grow H6 (upd H6 Da o6):=Grow.refl.put c6;have R7:=R6.hputO (ho:=o6) out6 hD6 c6 (B.chg2 r5).1 (B.chg2 r5).2;have x12:=(x2.trans R2 y25).trans R5 x6;have ext7:Ext ρ1 H1 ρ6 (upd H6 Da o6):=⟨x12.pre,λb o q nb t=>by
     have:b≠Da:=AV q hDa;rw[upd_ne this];exact x12.keep b o q nb t,λb ps q=>by
     have:b≠Da:=AV q hDa;rw[upd_ne this];exact x12.tab b ps q⟩
    have L6:=(L4.ext R3 x5).ext R5 x6;exact⟨ρ6,ls3,hd6,z,o6,ext7,out6,AI,R7,⟨L6.len,λi d e=>let ⟨v,a,b⟩:=L6.ob i d e;⟨v,a,by simpa using b.mono gr []⟩⟩,by simpa using B.mono [] gr r6,g6,hm2⟩
   .cases hm2
 .have e:i=ds.length:=by omega
  subst e;rw[List.drop_length]at hm2;unfold mGo at hm2;cases hm2;exact .inl ⟨Y2 rfl,hQ ρ2 H2 Da o2 (x1.trans R1 x2) R2 nD oD2 hD2 r2⟩
def bf(K:PySem.W.Frag):Acc K (List (Key×D)) (.dK []) [] where
 rel:=λρ H a o=>∃xs,o=.dK xs/\RKs K ρ H a xs
 mono:=λr g ⟨xs,e,q⟩=>⟨xs,e,q.mono g r⟩
 chg:=λ⟨xs,e,q⟩=>⟨λ_ z=>(by subst e;cases z),λ_ _ z=>(by subst e;cases z)⟩
 chg2:=λ⟨xs,e,q⟩=>⟨λ_ z=>(by subst e;cases z),λ_ z=>(by subst e;cases z)⟩
 init:=λρ H=>⟨[],rfl,by simp[RKs]⟩
open Classical in
def HM(mk mv:ME):MM (List (Key×D)):=λls hd a=>(mk ls hd).bind λq=>(mv ls q.2).bind λz=>(C4 q.1).bind λk=>if DO a.length then some (Cn a k z.1,z.2)else none
def Yw{tk tv:TE}{mk mv:ME}(hk:RE K tk mk)(hv:RE K tv mv):RM1 (bf K) (JV tk tv) (HM mk mv):=by
 intro ρ σ H hd ls a a' hd' Da o Q hR hL out hD hrel hm hQ;obtain⟨⟨d1,h1⟩,e1,hm⟩:=fW hm;obtain⟨⟨d2,h2⟩,e2,hm⟩:=fW hm;obtain⟨k,e4,hm⟩:=fW hm;obtain⟨xs,rfl,r⟩:=hrel;dsimp only at hm;split at hm
 .next c=>
  cases hm;refine hk ρ σ H hd ls _ d1 h1 hR hL e1 λρ1 H1 v1 x1 R1 r1=>?_;refine hv ρ1 σ H1 h1 ls _ d2 _ R1 (hL.ext hR x1) e2 λρ2 H2 v2 x2 R2 r2=>?_;have:=FR r1 e4;subst this;have hD2:H2 Da=some (.dK xs):=x2.keep Da _ (x1.keep Da _ hD out nt) (x1.outk hD out) nt;have x12:=x1.trans R1 x2;have r':RKs K ρ2 H2 a xs:=by
   obtain⟨rr,rfl,fr⟩:=x12.pre;exact r.mono (x12.grow hR) rr
  exact⟨xs,k,hD2,rfl,by rw[r'.len];exact c,hQ ρ2 H2 _ x12 R2 hD2 ⟨_,rfl,r'.put r2⟩⟩
 .cases hm
def JW(m:Ls->Hd->Option (List (Key×D)×Hd)):ME:=λls hd=>(m ls hd).bind λp=>some (.mu p.2.length,p.2++[.dic p.1])
def WX{t:TE}{m:Ls->Hd->Option (List (Key×D)×Hd)}(h:RNG (bf K) t m):RE K t (JW m):=by
 and_intros;obtain⟨⟨a,h1⟩,e1,hm⟩:=fW hm;cases hm;refine h ρ σ H hd ls Q a h1 hR hL e1 λρ1 H1 Da o x1 R1 nD oD hD ⟨xs,eo,r⟩=>?_;subst eo;have R2:=R1.nameD oD hD (λ_ z=>by cases z) (λ_ _ z=>by cases z) r;have e0:upd H1 Da (.dK xs)=H1:=by
  funext b
  by_cases hb:b=Da
  .subst hb;rw[AI,hD]
  .rw[upd_ne hb]
 rw[e0]at R2;refine hQ (ρ1++[Da]) H1 _ (x1.name nD) R2 ?_;simp only[RD];exact⟨Da,by rw[<- R1.len];simp,rfl⟩
variable(K:PySem.W.Frag){X:Cx}
def U3{k v tg iter:Expr}{ifs:List Expr}{scope:Scope}{pos:Pos}{loc fr:List Str}{ix:List Nat}{wi:TI}{g:TG}{tf:TT}{tk tv:TE}{mi:MI}{n:MG}{mf:MT}{mk mv:ME}(hc:X.calm=true)(S:CSc X scope fr ix)(hi:QI K X tg iter wi mi)
 (hg:∀s H ex,QG K (cCx X (loc++fr) scope s H ex) tg g n) (hf:∀s H ex,QF K (cCx X (loc++fr) scope s H ex) ifs tf mf) (hk:∀s H ex,QE K (cCx X (loc++fr) scope s H ex) k tk mk) (hv:∀s H ex,QE K (cCx X (loc++fr) scope s H ex) v tv mv)
 (hs:∀x,foldedSetIterable iter X.env x=pure x:=by intro _;rfl):QE K X (.DictComp k v [⟨tg,iter,ifs,0⟩] scope pos) (GR (.dK []) loc.length ix wi g tf (JV tk tv)) (JW (Gj loc.length ix mi n mf [] (HM mk mv))):=
 ⟨UI hc S hi.p (λs H ex=>(hg s H ex).p) (λs H ex=>(hf s H ex).p) (λs H ex=>(hk s H ex).p) (λs H ex=>(hv s H ex).p) hs,
  WX (TX hi.r (hg X.s₀ X.H₀ []).r (hf X.s₀ X.H₀ []).r (Yw (hk X.s₀ X.H₀ []).r (hv X.s₀ X.H₀ []).r))⟩
variable{a b:Expr}{ta tb:TE}{ma mb:ME}{pos:Pos}
def ZT(hu:X.A.units+1<cLine)(ha:QE K X a ta ma)(hb:QE K X b tb mb)(hmk:behindInMarks .In b=false:=by rfl):QT K X (.Compare a [.In] [b] pos) (tB (T4 ta tb)) (A6 (mOp (De false) ma mb)):=⟨Mi (aW hu ha.p hb.p) hmk,TN (ZD hb.r ha.r)⟩
def Wn(hu:X.A.units+1<cLine)(ha:QE K X a ta ma)(hb:QE K X b tb mb)(hmk:behindInMarks .NotIn b=false:=by rfl):QT K X (.Compare a [.NotIn] [b] pos) (tB (K0 ta tb)) (A6 (mOp (De true) ma mb)):=⟨Mi (RY hu ha.p hb.p) hmk,TN (Wb hb.r ha.r)⟩
end
def WP{α:Type}(o:Option (α×Hd))(Q:α->Hd->Prop):Prop:=∃z h,o=some (z,h)/\Q z h
abbrev WS(m:MS)(ls:Ls)(hd:Hd)(Q:Fl->Hd->Prop):Prop:=WP (m ls hd) Q
abbrev WE(m:ME)(ls:Ls)(hd:Hd)(Q:D->Hd->Prop):Prop:=WP (m ls hd) Q
abbrev WT(m:MT)(ls:Ls)(hd:Hd)(Q:Bool->Hd->Prop):Prop:=WP (m ls hd) Q
abbrev WA(m:MA)(ls:Ls)(hd:Hd)(Q:List D->Hd->Prop):Prop:=WP (m ls hd) Q
abbrev WO(m:MO1)(ls:Ls)(hd:Hd)(Q:Option Int->Hd->Prop):Prop:=WP (m ls hd) Q
abbrev WI(m:MI)(ls:Ls)(hd:Hd)(Q:List D×Gd->Hd->Prop):Prop:=WP (m ls hd) Q
abbrev WF(F:List D->Hd->Option (D×Hd))(ds:List D)(hd:Hd)(Q:D->Hd->Prop):Prop:=WP (F ds hd) Q
section
variable{α β:Type}{o:Option (α×Hd)}{Q:α->Hd->Prop}{R:β->Hd->Prop}{ls:Ls}{hd:Hd}{d e:D}
def WP.some{z:α}{h:Hd}(q:Q z h):WP (some (z,h)) Q:=⟨z,h,rfl,q⟩
def WP.mono{Q':α->Hd->Prop}(h:WP o Q)(k:∀z h,Q z h->Q' z h):WP o Q':=let ⟨z,x,e,q⟩:=h;⟨z,x,e,k z x q⟩
def WP.bind{f:α×Hd->Option (β×Hd)}(h:WP o λz x=>WP (f (z,x)) R):WP (o.bind f) R:=by
 obtain⟨z,x,e,q⟩:=h;rw[e];exact q
def WP.eq{z:α}{h:Hd}(e:o=Option.some (z,h))(q:Q z h):WP o Q:=⟨z,h,e,q⟩
end
section
variable{ls:Ls}{hd:Hd}{a b:MS}{ma mb mc:ME}{ta tb:MT}{m m1 m2:MA}{n:MG}{ns:MGs}{mi:MI}{d e:D}{i j:Nat}{QS:Fl->Hd->Prop}{QE:D->Hd->Prop}{QT:Bool->Hd->Prop}{QA:List D->Hd->Prop}{QO:Option Int->Hd->Prop}{QI:List D×Gd->Hd->Prop}
def LS(b:MS)(Q:Fl->Hd->Prop):Fl->Hd->Prop
 |.nx l,h=>WS b l h Q
 |f,h=>Q f h
def AD(h:WS a ls hd (LS b QS)):WS (A5 a b) ls hd QS:=by
 obtain⟨f,x,e,q⟩:=h;show WP (A5 a b ls hd) QS;rw[Jc,e];cases f<;>first|exact q|exact⟨_,_,rfl,q⟩
def A7{l:Ls}{h:Hd}(q:WS b l h QS):LS b QS (.nx l) h:=q
def IB{h:Hd}(q:QS (.rt d) h):LS b QS (.rt d) h:=q
def Am(h:QS (.nx ls) hd):WS AY ls hd QS:=⟨_,_,rfl,h⟩
def Ay(h:WE ma ls hd λd x=>QS (.rt d) x):WS (AL ma) ls hd QS:=WP.bind (h.mono λ_ _ q=>WP.some q)
def AZ(h:WE ma ls hd λd x=>QS (.nx (ls.set i (some d))) x):WS (AF i ma) ls hd QS:=by
 obtain⟨d,x,e,q⟩:=h;exact⟨_,_,by simp only[Je,e,bind_some,KM,map_some],q⟩
def GM(h:WE ma ls hd λd x=>∃l,n d ls x=some l/\QS (.nx l) x):WS (F1 ma n) ls hd QS:=by
 obtain⟨d,x,e,l,e2,q⟩:=h;exact⟨_,_,by simp only[Je,e,bind_some,e2,map_some],q⟩
def D6(h:WE ma ls hd λ_ x=>QS (.nx ls) x):WS (B8 ma) ls hd QS:=WP.bind (h.mono λ_ _ q=>WP.some q)
def V9(h:WT ta ls hd λc x=>if c=true then WS a ls x QS else WS b ls x QS):WS (Af ta a b) ls hd QS:=by
 refine WP.bind (h.mono λc x q=>?_);dsimp only;cases c<;>simpa using q
def BG(h:WT ta ls hd λc x=>(c=true->WS a ls x QS)/\(c=false->WS b ls x QS)):WS (Af ta a b) ls hd QS:=
 V9 (h.mono λc x q=>by cases c<;>simp_all)
def Q7{ix:List Nat}(h:WA m ls hd λds x=>ds.length=ix.length/\QS (.nx ((ix.zip ds).foldl (λl q=>l.set q.1 (some q.2)) ls)) x):WS (Pb ix m) ls hd QS:=by
 obtain⟨d,x,e,q,q2⟩:=h;exact⟨_,_,by simp only[bL,e,bind_some,q,if_true],q2⟩
def WL(n:MG)(b:MS)(g:Gd)(ds:List D)(ls:Ls)(hd:Hd)(Q:Fl->Hd->Prop):Prop:=WP (BZ n b g ds ls hd) Q
def CM(h:WI mi ls hd λp x=>WL n b p.2 p.1 ls x QS):WS (BS mi n b) ls hd QS:=WP.bind (h.mono λ_ _ q=>q)
def Ol(g:Gd)(P:Ls->Hd->Prop)(Q:Fl->Hd->Prop):Fl->Hd->Prop
 |.nx l,h=>GOk h g/\P l h
 |.ct l,h=>GOk h g/\P l h
 |.bk l,h=>Q (.nx l) h
 |.rt d,h=>Q (.rt d) h
def BE{g:Gd}(P:List D->Ls->Hd->Prop):∀{ds:List D} {ls:Ls} {hd:Hd},P ds ls hd ->
 (∀d r ls hd,P (d::r) ls hd->∃ls1,n d ls hd=some ls1/\WS b ls1 hd (Ol g (P r) QS))->(∀ls hd,P [] ls hd->QS (.nx ls) hd)->WL n b g ds ls hd QS
 |[],ls,hd,h,_,z=>⟨_,_,by unfold BZ;rfl,z _ _ h⟩
 |d::r,ls,hd,h,k,z=>by
  obtain⟨ls1,e1,f,x,e2,q⟩:=k d r ls hd h;unfold WL;unfold BZ;rw[e1,bind_some,e2,bind_some];cases f with
  |nx l=>exact(show GOk x g/\P r l x from q).1 |> λg1=>by dsimp only;rw[if_pos g1];exact BE P q.2 k z
  |ct l=>exact(show GOk x g/\P r l x from q).1 |> λg1=>by dsimp only;rw[if_pos g1];exact BE P q.2 k z
  |bk l=>exact⟨_,_,rfl,q⟩
  |rt l=>exact⟨_,_,rfl,q⟩
def A2(h:ls[i]?=some (some d))(q:QE d hd):WE (A0 i) ls hd QE:=⟨d,hd,by rw[DP,h],q⟩
def AR{i:I}(q:QE (.im i) hd):WE (mC i) ls hd QE:=⟨_,_,rfl,q⟩
def A8{f:D->D->Hd->Option (D×Hd)}(h:WE ma ls hd λd x=>WE mb ls x λe y=>WP (f d e y) QE):WE (mOp f ma mb) ls hd QE:=WP.bind (h.mono λ_ _ q=>WP.bind (q.mono λ_ _ q=>q))
def bn(h:WT ta ls hd λc x=>if c=true then WE ma ls x QE else WE mb ls x QE):WE (mIf ta ma mb) ls hd QE:=by
 refine WP.bind (h.mono λc x q=>?_);dsimp only;cases c<;>simpa using q
def FF(h:WT ta ls hd λc x=>(c=true->WE ma ls x QE)/\(c=false->WE mb ls x QE)):WE (mIf ta ma mb) ls hd QE:=
 bn (h.mono λc x q=>by cases c<;>simp_all)
def Bj(h:WA m ls hd λds x=>BT ds.length/\QE (B4 ds) x):WE (BC m) ls hd QE:=WP.bind (h.mono λds x q=>by dsimp only;rw[if_pos q.1];exact WP.some q.2)
def BW(h:WA m ls hd λds x=>QE (.mu x.length) (x++[.lst ds])):WE (Aa m) ls hd QE:=WP.bind (h.mono λ_ _ q=>WP.some q)
def Bv{g:List D->Option D}(h:WA m ls hd λds x=>∃d,g ds=some d/\QE d x):WE (B7 g m) ls hd QE:=by
 obtain⟨ds,x,e,d,e2,q⟩:=h;exact⟨d,x,by simp only[SG,e,bind_some,e2,map_some],q⟩
def QD(h:WA m ls hd λds x=>WE ma ls x λe y=>∃i d,e=.im (.int i)/\atI ds i=some d/\QE d y):WE (Gi m ma) ls hd QE:=by
 obtain⟨ds,x,e,d,y,e2,i,z,rfl,e4,q⟩:=h;exact⟨z,y,by simp only[bP,e,bind_some,e2,e4,map_some],q⟩
def C1{f:List D->Hd->Option (D×Hd)}(h:WA m ls hd λds x=>WP (f ds x) QE):WE (mCB f m) ls hd QE:=WP.bind (h.mono λ_ _ q=>q)
def Eg{f:D->List D->Hd->Option (D×Hd)}(h:WE ma ls hd λd x=>(∃l,Ar x d=some l)/\WA m ls x λds y=>WP (f d ds y) QE):WE (mMt f ma m) ls hd QE:=by
 obtain⟨d,x,e,⟨l,hl⟩,q⟩:=h;unfold WE;rw[Pp,e,bind_some];dsimp only;rw[hl];exact WP.bind (q.mono λ_ _ q=>q)
def CO{F:List D->Hd->Option (D×Hd)}(h:WA m ls hd λds x=>WF F ds x QE):WE (CA F m) ls hd QE:=WP.bind (h.mono λ_ _ q=>q)
def Lu(h:WE ma ls hd λd x=>∃i,d=.im (.int i)/\QE (.im (.int (-i))) x):WE (IW ma) ls hd QE:=by
 obtain⟨d,x,e,i,rfl,q⟩:=h;exact⟨_,x,by simp only[bN,e,bind_some],q⟩
def Np(h:WT (A6 ma) ls hd λc x=>if c=true then WE mb ls x QE else QE (.im (.bl false)) x):WE (Fs ma mb) ls hd QE:=by
 refine WP.bind (h.mono λc x q=>?_);dsimp only;cases c
 .exact WP.some (by simpa using q)
 .simpa using q
def Vn(h:WT (A6 ma) ls hd λc x=>QE (.im (.bl (!c))) x):WE (HN ma) ls hd QE:=WP.bind (h.mono λ_ _ q=>WP.some q)
def AJ(h:WE ma ls hd λd x=>∃b,d=.im (.bl b)/\QT b x):WT (A6 ma) ls hd QT:=by
 obtain⟨d,x,e,b,rfl,q⟩:=h;exact⟨b,x,by simp only[Ha,e,bind_some],q⟩
def Ll(h:WE ma ls hd λd x=>∃b,Cz x d=some b/\QT b x):WT (E3 ma) ls hd QT:=by
 obtain⟨d,x,e,b,e2,q⟩:=h;exact⟨b,x,by simp only[Jb,e,bind_some,e2,map_some],q⟩
def GL(h:WT ta ls hd λc x=>QT (!c) x):WT (Gf ta) ls hd QT:=WP.bind (h.mono λ_ _ q=>WP.some q)
def Lm(h:WT ta ls hd λc x=>if c=true then WT tb ls x QT else QT false x):WT (D3 ta tb) ls hd QT:=by
 refine WP.bind (h.mono λc x q=>?_);dsimp only;cases c
 .exact WP.some (by simpa using q)
 .simpa using q
def DE(h:WT ta ls hd λc x=>if c=true then QT true x else WT tb ls x QT):WT (mOr ta tb) ls hd QT:=by
 refine WP.bind (h.mono λc x q=>?_);dsimp only;cases c
 .simpa using q
 .exact WP.some (by simpa using q)
def C9(h:QT true hd):WT Bt ls hd QT:=⟨_,_,rfl,h⟩
def AB(h:QA [] hd):WA A4 ls hd QA:=⟨_,_,rfl,h⟩
def A3(h:WE ma ls hd λd x=>WA m ls x λds y=>QA (d::ds) y):WA (A1 ma m) ls hd QA:=WP.bind (h.mono λ_ _ q=>WP.bind (q.mono λ_ _ q=>WP.some q))
def CP(h:WA m ls hd λds x=>BT ds.length/\QA ds x):WA (Aj m) ls hd QA:=WP.bind (h.mono λds x q=>by dsimp only;rw[if_pos q.1];exact WP.some q.2)
def Vq{k:Int}(e:m ls hd=some ([.im (.int k)],hd))(hk:HJ k)(q:QA (AT 0 k.toNat) hd):WA (Ge m) ls hd QA:=⟨_,_,by simp only[bK,e,bind_some,hk,if_true],q⟩
def Vr(h:WE ma ls hd λd x=>∃ds,Ad x d=some ds/\QA ds x):WA (HP ma) ls hd QA:=by
 obtain⟨d,x,e,ds,e2,q⟩:=h;exact⟨ds,x,by simp only[YC,e,bind_some,e2,map_some],q⟩
def YX{ml mh:MO1}(h:WE ma ls hd λd x=>WO ml ls x λl y=>WO mh ls y λu z=>∃ds,AX d=some ds/\¬ (HT.sIx ds.length 0 l=0/\HT.sIx ds.length ds.length u=ds.length)/\QE (B4 (DR ds l u)) z):WE (KD ma ml mh) ls hd QE:=by
 obtain⟨d,x,e,l,y,e2,u,z,e3,ds,e4,c,q⟩:=h;exact⟨_,z,by simp only[bJ,e,bind_some,e2,e3,e4];rw[if_pos c],q⟩
def bj(h:QO none hd):WO DY ls hd QO:=⟨_,_,rfl,h⟩
def Vm(h:WE ma ls hd λd x=>∃i,d=.im (.int i)/\QO (some i) x):WO (Fo ma) ls hd QO:=by
 obtain⟨d,x,e,i,rfl,q⟩:=h;exact⟨_,x,by simp only[YA,e,bind_some],q⟩
def Hx(h:WA m ls hd λds x=>∃k,ds=[.im (.int k)]/\Fd k/\QI (AT 0 k.toNat,[]) x):WI (CH m) ls hd QI:=by
 obtain⟨ds,x,e,k,rfl,c,q⟩:=h;exact⟨_,x,by simp only[bR,e,bind_some,c,if_true],q⟩
def Oe(h:WA m ls hd λds x=>∃j k,ds=[.im (.int j),.im (.int k)]/\P2 j k/\QI (AT j (k-j).toNat,[]) x):WI (HQ m) ls hd QI:=by
 obtain⟨ds,x,e,j,k,rfl,c,q⟩:=h;exact⟨_,x,by simp only[YD,e,bind_some,c,if_true],q⟩
def CF(h:WE ma ls hd λd x=>∃ds,AX d=some ds/\QI (ds,[]) x):WI (Az ma) ls hd QI:=by
 obtain⟨d,x,e,ds,e2,q⟩:=h;exact⟨_,x,by simp only[bQ,e,bind_some,e2,map_some],q⟩
def Of(h:WA m ls hd λds x=>QI (ds,[]) x):WI (IX m) ls hd QI:=by
 obtain⟨ds,x,e,q⟩:=h;exact⟨_,x,by simp only[bS,e,map_some],q⟩
def Jw(h:WE ma ls hd λd x=>∃k ds,d=.mu k/\x[k]?=some (.lst ds)/\QI (ds,[(k,ds)]) x):WI (Bu ma) ls hd QI:=by
 obtain⟨d,x,e,k,ds,rfl,e2,q⟩:=h;exact⟨_,x,by simp only[SF,e,bind_some,e2],q⟩
def Av{k:Nat}{ix:List Nat}(h:WI mi ls hd λp x=>BT p.1.length/\WP (B5 n ta ma p.2 p.1 (Cj k ix ls) x) QA):WA (Ab k ix mi n ta ma) ls hd QA:=WP.bind (h.mono λp x q=>by dsimp only;rw[if_pos q.1];exact q.2)
def Lv{g:Gd}(P:List D->List D->Ls->Hd->Prop):∀{ds es:List D} {ls:Ls} {hd:Hd},P ds es ls hd ->
 (∀d r es ls hd,P (d::r) es ls hd->∃ls1,n d ls hd=some ls1/\WT ta ls1 hd λc x=>if c=true then WE ma ls1 x λz y=>GOk y g/\P r (es++[z]) ls1 y else GOk x g/\P r es ls1 x) ->
 WP (B5 n ta ma g ds ls hd) λzs x=>∃ls',P [] (es++zs) ls' x
 |[],es,ls,hd,h,k=>⟨_,_,by unfold B5;rfl,ls,by simpa using h⟩
 |d::r,es,ls,hd,h,k=>by
  obtain⟨ls1,e1,c,x,e2,q⟩:=k d r es ls hd h;unfold B5;rw[e1,bind_some,e2,bind_some];cases c with
  |true=>
   rw[if_pos rfl]at q ⊢;obtain⟨z,y,e3,g3,p3⟩:=q;obtain⟨zs,y2,e4,ls',p4⟩:=Lv P p3 k;rw[e3,bind_some];dsimp only;rw[if_pos g3,e4];exact⟨z::zs,y2,rfl,ls',by simpa using p4⟩
  |false=>
   rw[if_neg Bool.false_ne_true]at q ⊢;dsimp only;rw[if_pos q.1];exact Lv P q.2 k
def Dt{i j:Int}(q:QE (.im (.int (i+j))) hd):WP (An (.im (.int i)) (.im (.int j)) hd) QE:=⟨_,_,by simp,q⟩
def GN{i j:Int}(q:QE (.im (.int (i-j))) hd):WP (Cf (.im (.int i)) (.im (.int j)) hd) QE:=⟨_,_,by simp,q⟩
def EL{i j:Int}(c:EA i j)(q:QE (.im (.int (i*j))) hd):WP (Bg (.im (.int i)) (.im (.int j)) hd) QE:=⟨_,_,by simp[c],q⟩
def Ds{i j:Int}(c:EB j)(q:QE (.im (.int (i%j))) hd):WP (Co (.im (.int i)) (.im (.int j)) hd) QE:=⟨_,_,by simp[c],q⟩
def Jv{i j:Int}(c:Lk j)(q:QE (.im (.int (i/j))) hd):WP (Fz (.im (.int i)) (.im (.int j)) hd) QE:=⟨_,_,by simp[c],q⟩
def HH{i j:Int}(q:QE (.im (.bl (decide (i<j)))) hd):WP (gLt (.im (.int i)) (.im (.int j)) hd) QE:=⟨_,_,by simp,q⟩
def Ir{i j:Int}(q:QE (.im (.bl (decide (i<=j)))) hd):WP (gLe (.im (.int i)) (.im (.int j)) hd) QE:=⟨_,_,by simp,q⟩
def Iu{i j:Int}(q:QE (.im (.bl (decide (j<i)))) hd):WP (gGt (.im (.int i)) (.im (.int j)) hd) QE:=⟨_,_,by simp,q⟩
def Od{i j:Int}(q:QE (.im (.bl (decide (j<=i)))) hd):WP (gGe (.im (.int i)) (.im (.int j)) hd) QE:=⟨_,_,by simp,q⟩
def FE{i j:Int}(q:QE (.im (.bl (decide (i=j)))) hd):WP (gEq (.im (.int i)) (.im (.int j)) hd) QE:=⟨_,_,by simp,q⟩
def GO{i j:Int}(q:QE (.im (.bl (!decide (i=j)))) hd):WP (gNe (.im (.int i)) (.im (.int j)) hd) QE:=⟨_,_,by simp,q⟩
def Bo{i j:Str}(q:QE (.im (.bl (decide (i=j)))) hd):WP (gEq (.im (.str i)) (.im (.str j)) hd) QE:=⟨_,_,by simp,q⟩
def Q8{i j:Str}(q:QE (.im (.bl (!decide (i=j)))) hd):WP (gNe (.im (.str i)) (.im (.str j)) hd) QE:=⟨_,_,by simp,q⟩
def AH{i:Int}{ds:List D}(e1:Ad hd d=some ds)(e2:atI ds i=some e)(q:QE e hd):WP (gIx d (.im (.int i)) hd) QE:=⟨_,_,by rw[Vc,e1,bind_some,e2];rfl,q⟩
def Vj{k:Key}{kvs:List (Key×D)}{z:D}(e1:Bx hd d=some kvs)(e2:C4 e=some k)(e3:BQ kvs k=some z)(q:QE z hd):WP (DM d e hd) QE:=⟨_,_,by rw[YG,e1,bind_some,e2,bind_some,e3];rfl,q⟩
def YU{k:Key}{neg:Bool}{kvs:List (Key×D)}(e1:Bx hd d=some kvs)(e2:C4 e=some k)(q:QE (.im (.bl (if neg then !(BQ kvs k).isSome else(BQ kvs k).isSome))) hd):WP (De neg e d hd) QE:=⟨_,_,by unfold De;rw[e1,bind_some,e2];rfl,q⟩
def Ju{i j:Int}(q:QE (.im (.int (max i j))) hd):WP (Dm [.im (.int i),.im (.int j)] hd) QE:=⟨_,_,rfl,by have:(if j>i then j else i)=max i j:=(by split<;>omega);rw[this];exact q⟩
def Nn{i j:Int}(q:QE (.im (.int (min i j))) hd):WP (HZ [.im (.int i),.im (.int j)] hd) QE:=⟨_,_,rfl,by have:(if j<i then j else i)=min i j:=(by split<;>omega);rw[this];exact q⟩
def Bl{tp:Bool}{g:List D->Option D}{ds:List D}{z:D}(e1:(if tp then Ad hd d else Ar hd d)=some ds)(e2:g ds=some z)(q:QE z hd):WP (f1 tp g [d] hd) QE:=⟨_,_,by rw[cn,e1,bind_some,e2];rfl,q⟩
def Cp{k:Nat}{x:D}{ds:List D}(e1:hd[k]?=some (.lst ds))(c:DO ds.length)(q:QE (.im .non) (hd.set k (.lst (ds++[x])))):WP (Ae (.mu k) [x] hd) QE:=⟨_,_,by rw[SH,e1];simp only[c,if_true],q⟩
def Nl{k:Key}{w:Nat}(h:WE mc ls hd λp x=>WE ma ls x λq y=>WE mb ls y λr z=>∃w k kvs,q=.mu w/\C4 r=some k/\z[w]?=some (.dic kvs)/\DO kvs.length/\QS (.nx ls) (z.set w (.dic (Cn kvs k p)))):WS (Fq ma mb mc) ls hd QS:=by
 obtain⟨p,x,e1,q,y,e2,r,z,e3,w,k,kvs,rfl,e4,e5,c,qq⟩:=h;exact⟨_,_,by simp only[YF,e1,bind_some,e2,e3,e4,e5,c,if_true],qq⟩
def FC(h:WE mc ls hd λp x=>WE ma ls x λq y=>WE mb ls y λr z=>∃w i j ds,q=.mu w/\r=.im (.int i)/\z[w]?=some (.lst ds)/\ixN ds.length i=some j/\QS (.nx ls) (z.set w (.lst (ds.set j p)))):WS (DJ ma mb mc) ls hd QS:=by
 obtain⟨p,x,e1,q,y,e2,r,z,e3,w,i,j,ds,rfl,rfl,e5,c,qq⟩:=h;exact⟨_,_,by simp only[YB,e1,bind_some,e2,e3,e5,c,map_some],qq⟩
def Aw{k n:Nat}{m:MS}{ds:List D}{Q:D->Hd->Prop}(hl:ds.length=k)(h:WS m (ds.map some++List.replicate (n-k) none) hd λf x=>match f with
 |.rt d=>Q d x
 |.nx _=>Q (.im .non) x
 | _=>False):WF (mkF k n m) ds hd Q:=by
 obtain⟨f,x,e,q⟩:=h;unfold WF mkF;rw[if_pos hl,e];cases f with
 |nx l=>exact⟨_,_,rfl,q⟩
 |rt l=>exact⟨_,_,rfl,q⟩
 |bk l=>exact q.elim
 |ct l=>exact q.elim
def As{F:List D->Hd->Option (D×Hd)}(h:WA m ls hd λds x=>Ap 0 ds=true/\WF F ds [] λd _=>∃i,d=.im i/\QE (.im i) x):WE (AC 0 F m) ls hd QE:=by
 obtain⟨ds,x,e,c,d,y,e2,i,rfl,q⟩:=h;exact⟨_,_,HD e c e2,q⟩
end
structure Tap(T:Nat->MO->MO->Prop)(P:List D->Hd->Option (D×Hd)):Prop where
 cl:∀{k:Nat} {a b:MO},T k a b->clO 2 a=true/\clO 2 b=true
 le:∀{j k:Nat} {a b:MO},T k a b->j<=k->T j a b
 pick:∀{k:Nat} {a b:MO} {many:Int},T (k+1) a b->0<many->many<1073741824->∃r a' b',0<=r/\r<many/\P [.mu 1,.im (.int many)] [a,b]=some (.im (.int r),[a',b'])/\T k a' b'
section
variable{T:Nat->MO->MO->Prop}{P:List D->Hd->Option (D×Hd)}{a b:MO}{rest:Hd}{ls:Ls}{m:MA}{QE:D->Hd->Prop}{n c:Nat}
def Tap.draw(t:Tap T P)(hT:T (n+1) a b){many:Int}{hd:Hd}(e:m ls hd=some ([.mu 1,.im (.int many)],a::b::rest))(h0:0<many)(h1:many<1073741824)
 (k:∀r a' b',T n a' b'->0<=r->r<many->QE (.im (.int r)) (a'::b'::rest)):WE (AC 2 P m) ls hd QE:=by
 obtain⟨r,a',b',p1,p2,e2,hT'⟩:=t.pick hT h0 h1;refine⟨_,_,NO (w:=2) (ds:=[.mu 1,.im (.int many)]) (pre:=[a,b]) (pre':=[a',b']) (rest:=rest) (g:=[]) rfl rfl e (by simp) ?_ ?_ (by simpa using e2),k r a' b' hT' p1 p2⟩
 .simp[t.cl hT]
 .simp[t.cl hT']
end
section
variable{K:PySem.W.Frag}{ρ ρ':List Addr}{H H':Hp}{hd hd':Hd}
def Eh(w:Nat)(ls:Ls):Ls:=ls.map λo=>match o with
 |some d=>if clD w d=true then some d else none
 |none=>none
def E8(w:Nat):Fl->Option Fl
 |.nx ls=>some (.nx (Eh w ls))
 |.bk ls=>some (.bk (Eh w ls))
 |.ct ls=>some (.ct (Eh w ls))
 |.rt d=>if clD w d=true then some (.rt d)else none
def JU(w:Nat)(m:MS):MS:=λls hd=>if hd.length<=w then(m ls hd).bind λp=>if(p.2.take w).all (clO w)=true then(E8 w p.1).map λf=>(f,p.2.take w)else none else none
def RL.trim{ls:Ls}{σ:St}(h:RL K ρ H ls σ)(w:Nat):RL K (ρ.take w) H (Eh w ls) σ:=by
 refine⟨by simp[Eh,h.len],λi d e=>?_⟩;unfold Eh at e;rw[List.getElem?_map]at e;cases q:ls[i]? with
 |none=>rw[q]at e;cases e
 |some o=>
  rw[q]at e;cases o with
  |none=>simp at e
  |some z=>
   simp only[map_some,Option.some.injEq]at e;split at e
   .next c=>
    cases e;obtain⟨v,e1,e2⟩:=h.ob i _ q;exact⟨v,e1,e2.take w c⟩
   .cases e
def Ext.trim(x:Ext ρ H ρ' H'){w:Nat}(h:ρ.length<=w):Ext ρ H (ρ'.take w) H':=by
 obtain⟨r,rfl,fr⟩:=x.pre;refine⟨⟨r.take (w-ρ.length),?_,λb hb=>fr b (List.mem_of_mem_take hb)⟩,x.keep,x.tab⟩;rw[List.take_append,take_of_length_le h]
def W7{t:TS}{m:MS}(w:Nat)(h:RS K t m):RS K t (JU w m):=by
 intro ρ σ H hd ls E f hd' hR hL hm hQ;unfold JU at hm;split at hm
 .next hw=>
  obtain⟨⟨f1,h1⟩,e1,hm⟩:=fW hm;dsimp only at hm;split at hm
  .next c=>
   obtain⟨f2,e2,e3⟩:=fX hm;cases e3;refine h ρ σ H hd ls E f1 h1 hR hL e1 λρ1 H1 x1 R1=>?_;have q:=hQ (ρ1.take w) H1 (x1.trim (by rw[hR.len];exact hw)) (R1.take w c);cases f1 with
   |nx l=>simp only[E8,Option.some.injEq]at e2;subst e2;exact λσ' L=>q σ' (L.trim w)
   |bk l=>simp only[E8,Option.some.injEq]at e2;subst e2;exact λσ' L=>q σ' (L.trim w)
   |ct l=>simp only[E8,Option.some.injEq]at e2;subst e2;exact λσ' L=>q σ' (L.trim w)
   |rt d=>
    simp only[E8]at e2;split at e2
    .next c2=>cases e2;exact λv r=>q v (r.take w c2)
    .cases e2
  .cases hm
 .cases hm
def Vi{w:Nat}{m:MS}{ls:Ls}{Q:Fl->Hd->Prop}(hw:hd.length<=w)(h:WS m ls hd λf x=>(x.take w).all (clO w)=true/\∃f',E8 w f=some f'/\Q f' (x.take w)):WS (JU w m) ls hd Q:=by
 obtain⟨f,x,e,c,f',e2,q⟩:=h;exact⟨f',x.take w,by unfold JU;rw[if_pos hw,e,bind_some];dsimp only;rw[if_pos c,e2];rfl,q⟩
def Dw(m:MS):MS:=λls hd=>JU hd.length m ls hd
def TR{t:TS}{m:MS}(h:RS K t m):RS K t (Dw m):=λρ σ H hd ls E f hd' hR hL hm hQ=>W7 hd.length h ρ σ H hd ls E f hd' hR hL hm hQ
def RK(K:PySem.W.Frag){X:Cx}{st:List Stmt}{t:TS}{m:MS}(h:QSs K X st t m):QSs K X st t (Dw m):=⟨h.p,TR h.r⟩
def Hw{m:MS}{ls:Ls}{Q:Fl->Hd->Prop}(h:WS m ls hd λf x=>(x.take hd.length).all (clO hd.length)=true/\∃f',E8 hd.length f=some f'/\Q f' (x.take hd.length)):WS (Dw m) ls hd Q:=Vi (le_refl _) h
def Le:ME:=λ_ hd=>some (.mu hd.length,hd++[.dic []])
def Wc:RE K M4 Le:=by
 and_intros;cases hm;intro p hp;obtain⟨R0,x0⟩:=hR.new hp (o:=.dic []) (ho:=.dK []) ⟨[],rfl,by simp[RKs]⟩;refine hQ (ρ++[p]) _ _ x0 R0 ?_;simp only[RD];exact⟨p,by rw[<- hR.len];simp,rfl⟩
def X9(K:PySem.W.Frag){X:Cx}{pos:Pos}:QE K X (.Dict [] [] pos) M4 Le:=⟨UH,Wc⟩
def No{ls:Ls}{Q:D->Hd->Prop}(q:Q (.mu hd.length) (hd++[.dic []])):WE Le ls hd Q:=⟨_,_,rfl,q⟩
def aU{X:Cx}{j k:Nat}{f:Addr}{fd:FuncData}{ps:List Str}{sp:Sp}{x:Str}{st:Stmt}{p pos:Pos}(F:FnOk X.prog X.w X.K X.mg X.base CX0 j f fd ps sp)(hr:Room k X.A)(D:DefAt X.K X.mg x st f fd ps)
 (hjk:j<=k:=by decide) (hg:Gl X x:=by rfl) (hdb:(x==("__debug__":Str))=false:=by decide):
 PE X (.Call (.Name x p) [] [] pos) (C2 sp [] E0 BR):=
 UK (F.mono hjk) hr hg D.mg D.fn.kp D.bd .nil VS hdb
def RP(K:PySem.W.Frag){X:Cx}(w:Nat){j k:Nat}{f:Addr}{fd:FuncData}{ps:List Str}{n:Nat}{F:List D->Hd->Option (D×Hd)}{st:Stmt}{x:Str}{p pos:Pos}(G:FnOk X.prog X.w X.K X.mg X.base CX0 j f fd ps (spF K n F))(hr:Room k X.A)(DA:DefAt X.K X.mg x st f fd ps)(hF:∀ds hd z,F ds hd=some z->ds.length=n)
 (hjk:j<=k:=by decide) (hg:Gl X x:=by rfl) (hdb:(x==("__debug__":Str))=false:=by decide):
 QE K X (.Call (.Name x p) [] [] pos) (C2 (spF K n F) [] E0 BR) (AC w F A4):=⟨aU G hr DA hjk hg hdb,MZ Md hF⟩
end
mutual
def G9{v w:Nat}(h:v<=w):∀{d:D},clD v d=true->clD w d=true
 |.im i,_=>by simp
 |.mu n,c=>by simp at c ⊢;omega
 |.tm ds,c=>by rw[clD]at c ⊢;exact HA h c
 |.ro ns,_=>by rw[clD]
def HA{v w:Nat}(h:v<=w):∀{ds:List D},Ap v ds=true->Ap w ds=true
 |[],_=>by simp
 |d::ds,c=>by
  simp only[SR,Bool.and_eq_true]at c ⊢;exact⟨G9 h c.1,HA h c.2⟩
end
def Gz{v w:Nat}(h:v<=w):∀{ds:List (Key×D)},Bz v ds=true->Bz w ds=true
 |[],_=>by simp[Bz]
 |d::ds,c=>by
  simp only[Bz,Bool.and_eq_true]at c ⊢;exact⟨G9 h c.1,Gz h c.2⟩
def G8{v w:Nat}(h:v<=w){o:MO}(c:clO v o=true):clO w o=true:=by
 cases o with
 |lst ds=>exact HA h c
 |dic ds=>exact Gz h c
section
variable{T:Nat->MO->MO->Prop}{P:List D->Hd->Option (D×Hd)}{a b:MO}{rest:Hd}{ls:Ls}{m:MA}{QE:D->Hd->Prop}
def Tap.callX(t:Tap T P){n c:Nat}(hT:T (n+c) a b)(ex:Hd){w:Nat}{F:List D->Hd->Option (D×Hd)}{as:List D}{hd:Hd}{R:I->Prop}(e:m ls hd=some (.mu 1::as,a::b::(ex++rest)))(hw:w=ex.length+2)(ha:Ap w as=true)(hx:ex.all (clO w)=true)
 (hF:∀a b,T (n+c) a b->WF F (.mu 1::as) (a::b::ex) λd x=>∃i a' b' g,d=.im i/\R i/\T n a' b'/\x=a'::b'::(ex++g))
 (k:∀i a' b',T n a' b'->R i->QE (.im i) (a'::b'::(ex++rest))):WE (AC w F m) ls hd QE:=by
 subst hw;have hcl:∀o,clO 2 o=true->clO (ex.length+2) o=true:=λo h=>G8 (by omega) h;obtain⟨d,x,e2,i,a',b',g,rfl,hR,hT',rfl⟩:=hF a b hT;refine⟨_,_,NO (w:=ex.length+2) (ds:=.mu 1::as) (pre:=a::b::ex) (pre':=a'::b'::ex) (rest:=rest) (g:=g) rfl rfl e (by simp[ha]) ?_ ?_ e2,k i a' b' hT' hR⟩
 .simp[hcl _ (t.cl hT).1,hcl _ (t.cl hT).2];simpa using hx
 .simp[hcl _ (t.cl hT').1,hcl _ (t.cl hT').2];simpa using hx
def Tap.call(t:Tap T P){n c:Nat}(hT:T (n+c) a b){F:List D->Hd->Option (D×Hd)}{as:List D}{hd:Hd}{R:I->Prop}(e:m ls hd=some (.mu 1::as,a::b::rest))(ha:Ap 2 as=true)
 (hF:∀a b,T (n+c) a b->WF F (.mu 1::as) [a,b] λd x=>∃i a' b' g,d=.im i/\R i/\T n a' b'/\x=a'::b'::g)
 (k:∀i a' b',T n a' b'->R i->QE (.im i) (a'::b'::rest)):WE (AC 2 F m) ls hd QE:=
 t.callX hT [] (w:=2) e rfl ha rfl hF k
end
end L2
namespace L2
open PySem PySem.Spec PyProof.Rows
section
variable{ls:Ls}{hd:Hd}{b:MS}{c:MT}{Q:Fl->Hd->Prop}{QE:D->Hd->Prop}
def bp(P:Ls->Hd->Prop)(Q:Fl->Hd->Prop):Fl->Hd->Prop
 |.nx l,h=>P l h
 |.ct l,h=>P l h
 |.bk l,h=>Q (.nx l) h
 |.rt d,h=>Q (.rt d) h
def Sc(P:Nat->Ls->Hd->Prop){n:Nat}(h:P n ls hd)
 (k:∀n ls hd,P n ls hd->WT c ls hd λt x=>if t=true then WS b ls x (bp (λl y=>∃m,m<n/\P m l y) Q)else Q (.nx ls) x):WS (Cs c b) ls hd Q:=by
 have go:∀n ls hd,P n ls hd->∃j r,B2 c b j ls hd=some r/\Q r.1 r.2:=by
  intro n
  induction n using Nat.strongRecOn with
  |ind n ih=>
   intro ls hd h;obtain⟨t,x,e1,q⟩:=k n ls hd h;cases t with
   |false=>
    rw[if_neg Bool.false_ne_true]at q;exact⟨1,(.nx ls,x),by unfold B2;rw[e1];rfl,q⟩
   |true=>
    rw[if_pos rfl]at q;obtain⟨f,y,e2,q⟩:=q;cases f with
    |nx l=>
     obtain⟨m,hm,p⟩:=q;obtain⟨j,r,e3,q3⟩:=ih m hm l y p;exact⟨j+1,r,by unfold B2;rw[e1,bind_some,if_pos rfl,e2];exact e3,q3⟩
    |ct l=>
     obtain⟨m,hm,p⟩:=q;obtain⟨j,r,e3,q3⟩:=ih m hm l y p;exact⟨j+1,r,by unfold B2;rw[e1,bind_some,if_pos rfl,e2];exact e3,q3⟩
    |bk l=>exact⟨1,(.nx l,y),by unfold B2;rw[e1,bind_some,if_pos rfl,e2];rfl,q⟩
    |rt d=>exact⟨1,(.rt d,y),by unfold B2;rw[e1,bind_some,if_pos rfl,e2];rfl,q⟩
 obtain⟨j,⟨f,x⟩,e,q⟩:=go n ls hd h;exact⟨f,x,Kp e,q⟩
def Se{k j:Nat}{i:Int}{ds:List D}{z:D}(e1:hd[k]?=some (.lst ds))(hr:Fd i)(e2:ixN ds.length i=some j)(e3:ds[j]?=some z)(q:QE z (hd.set k (.lst (ds.eraseIdx j)))):WP (FS (.mu k) [.im (.int i)] hd) QE:=⟨_,_,by rw[Ut,e1];simp[hr,e2,e3],q⟩
end
end L2
namespace Bd
open PySem L2
@[reducible] def fS:MS:=(A5 (AF 2 (mC (.int 0)))
 (A5 (BS (Az (A0 0)) (Bb 2 (AO (AA 3) (AO (AA 4) Bc)))
  (A5 (Af (A6 (mOp gGt (A0 3) (A0 1)))
  (AL (A0 2))
  AY)
 (AF 2 (A0 4))))
 (AL (A0 2))))
def HR:List D->Hd->Option (D×Hd):=mkF 2 5 fS
@[reducible] def fU:MS:=(A5 (AF 2 (mOp gIx (A0 0) (mC (.int 0))))
 (A5 (Af (A6 (mOp gEq (A0 2) (mC (.str "steps"))))
  (AL (AC 0 HR (A1 (mOp gIx (A0 0) (mC (.int 1))) (A1 (A0 1) A4))))
  AY)
 (A5 (Af (A6 (mOp gEq (A0 2) (mC (.str "ends"))))
  (AL (mOp Bg (mOp gIx (A0 0) (mC (.int 1))) (A0 1)))
  AY)
 (A5 (AF 3 (mOp Cf (A0 1) (mOp gIx (A0 0) (mC (.int 1)))))
 (A5 (Af (A6 (mOp gEq (A0 2) (mC (.str "late"))))
  (AL (A0 3))
  AY)
 (A5 (Af (A6 (mOp gLe (A0 3) (mC (.int 0))))
  (AL (mC (.int 0)))
  AY)
 (A5 (Af (A6 (mOp gEq (A0 2) (mC (.str "tardy"))))
  (AL (mOp Bg (mOp gIx (A0 0) (mC (.int 2))) (A0 3)))
  AY)
 (AL (mOp gIx (A0 0) (mC (.int 2)))))))))))
def F_cost_at:List D->Hd->Option (D×Hd):=mkF 2 4 fU
structure Tp where
 cells:List Int
 nx:Int
 lf:Int
 tn:Int
def LU(t:Tp):List (Key×D):=[(.inr "cells",.mu 0),(.inr "next",.im (.int t.nx)),(.inr "left",.im (.int t.lf)),(.inr "turn",.im (.int t.tn))]
def tp(t:Tp):Hd:=[.lst (t.cells.map λi=>.im (.int i)),.dic (LU t)]
@[simp] theorem eD(t:Tp):(tp t).length=2:=rfl
@[simp] theorem fO(t:Tp)(r:Hd):(tp t++r)[0]?=some (.lst (t.cells.map λi=>.im (.int i))):=rfl
@[simp] theorem fN(t:Tp)(r:Hd):(tp t++r)[1]?=some (.dic (LU t)):=rfl
@[simp] theorem tp0(t:Tp):(tp t)[0]?=some (.lst (t.cells.map λi=>.im (.int i))):=rfl
@[simp] theorem tp1(t:Tp):(tp t)[1]?=some (.dic (LU t)):=rfl
section
variable(t:Tp)(v:Int)
@[simp] theorem eE:(LU t).length=4:=rfl
end
def D2:∀ns:List Int,I.pys (ns.map I.int)=ns.map PyData.int
 |[]=>by simp[I.pys]
 |n::ns=>by simp[I.pys,I.py,D2 ns]
def DT(ns:List Int):BL (ns.map λi=>D.im (.int i))=some (ns.map I.int):=by
 have:(ns.map λi=>D.im (.int i))=(ns.map I.int).map D.im:=by rw[map_map];rfl
 rw[this];exact allIm_map _
def YH(ns:List Int):PyData.eqv (.list (ns.map PyData.int)) (.list [])=decide (ns=[]):=by
 cases ns<;>simp[PyData.eqv,PyData.eqvAll]
def lay_ints(ns:List Int):(PyData.list (ns.map PyData.int)).canLay0=true:=by simp[PyData.canLay0,Hu]
def OV(ns:List Int)(hd:Hd)(neg:Bool):G4 neg (.list (ns.map PyData.int)) (.list []) hd=some (.im (.bl (if neg then !decide (ns=[])else decide (ns=[]))),hd):=by
 unfold G4;rw[if_pos,YH];refine⟨lay_ints ns,by simp[PyData.canLay0,PyData.canLayAll0],?_⟩;have:(PyData.list []).depth<=1:=by simp[PyData.depth,PyData.depthAll]
 omega
def Eo{x:Int}(m:Int)(h:0<m):0<=x%m/\x%m<m:=⟨Int.emod_nonneg _ (by omega),Int.emod_lt_of_pos _ h⟩
def cy{xs:List Int}(h:xs≠[])(n:Int):∃c,atI (xs.map λi=>D.im (.int i)) (n%(xs.length:Int))=some (.im (.int c)):=by
 have hl:0<xs.length:=FP h;obtain⟨a,b⟩:=Eo (x:=n) (xs.length:Int) (by omega);obtain⟨k,hk⟩:=Int.eq_ofNat_of_zero_le a;have hk':k<xs.length:=by omega
 exact⟨xs[k],GC hk (by simp[hk'])⟩
def po1:Fk 10 18:=by unfold Fk;decide
inductive Cost where
 |late (d:Int)|tardy (d w:Int)|miss (d w:Int)|ends (w:Int)|steps (rows:List (Int×Int))
def DX(r:Int×Int):I:=.tup [.int r.1,.int r.2]
def Al:Cost->I
 |.late d=>.tup [.str "late",.int d]
 |.tardy d w=>.tup [.str "tardy",.int d,.int w]
 |.miss d w=>.tup [.str "miss",.int d,.int w]
 |.ends w=>.tup [.str "ends",.int w]
 |.steps rows=>.tup [.str "steps",.tup (rows.map DX)]
def BO(t:Int):List (Int×Int)->Int->Int
 |[],told=>told
 |(b,a)::r,told=>if t<b then told else BO t r a
def Cost.at:Cost->Int->Int
 |.late d,t=>t-d
 |.tardy d w,t=>if t-d<=0 then 0 else w*(t-d)
 |.miss d w,t=>if t-d<=0 then 0 else w
 |.ends w,t=>w*t
 |.steps rows,t=>BO t rows 0
def Cost.wok:Cost->Prop
 |.tardy _ w=>0<=w/\w<=1000000
 |.miss _ w=>0<=w/\w<=1000000
 |.ends w=>0<=w/\w<=1000000
 |_=>True
def n1:¬ (("late":Str)="steps"):=by decide +kernel
def n2:¬ (("tardy":Str)="steps"):=by decide +kernel
def n3:¬ (("miss":Str)="steps"):=by decide +kernel
def n4:¬ (("ends":Str)="steps"):=by decide +kernel
def n5:¬ (("late":Str)="ends"):=by decide +kernel
def n6:¬ (("tardy":Str)="ends"):=by decide +kernel
def n7:¬ (("miss":Str)="ends"):=by decide +kernel
def n8:¬ (("tardy":Str)="late"):=by decide +kernel
def n9:¬ (("miss":Str)="late"):=by decide +kernel
def n10:¬ (("miss":Str)="tardy"):=by decide +kernel
def J9(t:Int)(z:D)(hd:Hd):∀(rows:List (Int×Int)) (told:Int) (x y:Option D),∃fl x' y',BZ (Bb 2 (AO (AA 3) (AO (AA 4) Bc))) (A5 (Af (A6 (mOp gGt (A0 3) (A0 1))) (AL (A0 2)) AY) (AF 2 (A0 4))) [] ((rows.map DX).map .im)
 [some z,some (.im (.int t)),some (.im (.int told)),x,y] hd=some (fl,hd)/\(fl=.rt (.im (.int (BO t rows told)))∨fl=.nx [some z,some (.im (.int t)),some (.im (.int (BO t rows told))),x',y'])
 |[],told,x,y=>⟨_,x,y,Ms,.inr rfl⟩
 |(b,a)::rows,told,x,y=>by
   by_cases h:t<b
   .refine⟨_,x,y,Ud (ls1:=[some z,some (.im (.int t)),some (.im (.int told)),some (.im (.int b)),some (.im (.int a))]) (by simp[DX]) (v:=.im (.int told)) (hd2:=hd) ?_,.inl ?_⟩
    .simp[h]
    .simp[BO,h]
   .obtain⟨fl,x',y',e,q⟩:=J9 t z hd rows a (some (.im (.int b))) (some (.im (.int a)));refine⟨fl,x',y',?_,?_⟩
    .rw[<- e];refine Gm (ls1:=[some z,some (.im (.int t)),some (.im (.int told)),some (.im (.int b)),some (.im (.int a))]) (by simp[DX]) ?_ (AE _);simp[h]
    .simpa [BO,h]using q
def NW(rows:List (Int×Int))(t:Int):HR [.im (.tup (rows.map DX)),.im (.int t)] []=some (.im (.int (BO t rows 0)),[]):=by
 obtain⟨fl,x',y',e,q⟩:=J9 t (.im (.tup (rows.map DX))) [] rows 0 none none;rcases q with rfl|rfl
 .simp[HR,mkF]at e ⊢;simp[e]
 .simp[HR,mkF]at e ⊢;simp[e]
def Jh(c:Cost)(t:Int)(h:c.wok):F_cost_at [.im (Al c),.im (.int t)] []=some (.im (.int (c.at t)),[]):=by
 cases c with
 |late d=>simp[F_cost_at,mkF,Al,n1,n5,Cost.at]
 |tardy d w=>
  have b1:∀j,EA w j:=λj=>D8 (by obtain⟨a,b⟩:=h;omega) (by obtain⟨a,b⟩:=h;omega);by_cases q:t-d<=0
  .simp[F_cost_at,mkF,Al,n2,n6,n8,Cost.at,q]
  .simp[F_cost_at,mkF,Al,n2,n6,n8,Cost.at,q,b1]
 |miss d w=>
  by_cases q:t-d<=0
  .simp[F_cost_at,mkF,Al,n3,n7,n9,Cost.at,q]
  .simp[F_cost_at,mkF,Al,n3,n7,n9,n10,Cost.at,q]
 |ends w=>
  have b1:∀j,EA w j:=λj=>D8 (by obtain⟨a,b⟩:=h;omega) (by obtain⟨a,b⟩:=h;omega);simp[F_cost_at,mkF,Al,n4,Cost.at,b1]
 |steps rows=>
  have:=HD (m:=A1 (mOp gIx (A0 0) (mC (.int 1))) (A1 (A0 1) A4)) (ls:=[some (.im (Al (.steps rows))),some (.im (.int t)),some (.im (.str "steps")),none]) (hd:=[]) (hd1:=[]) (F:=HR) (ds:=[.im (.tup (rows.map DX)),.im (.int t)]) (by simp[Al]) (by simp) (NW rows t);simp[Al]at this;simp[F_cost_at,mkF,Al,Cost.at,this]
@[simp high] theorem fM(t:Tp)(x:MO)(r:Hd):(tp t++(x::r))[2]?=some x:=rfl
@[simp high] theorem fL(t:Tp)(x y:MO)(r:Hd):(tp t++(x::y::r))[3]?=some y:=rfl
@[simp high] theorem fK(t:Tp)(x y z:MO)(r:Hd):(tp t++(x::y::z::r))[4]?=some z:=rfl
@[simp high] theorem f6(t:Tp)(x y:MO)(r:Hd):(tp t++(x::r)).set 2 y=tp t++(y::r):=rfl
@[simp high] theorem eZ(t:Tp)(x y z:MO)(r:Hd):(tp t++(x::y::r)).set 3 z=tp t++(x::z::r):=rfl
def HB(w:Nat)(ns:List Int):Ap w (ns.map λi=>D.im (.int i))=true:=by induction ns<;>simp_all [Ap,clD]
abbrev AN(ks:List Nat):I:=.tup (ks.map λk:Nat=>.int k)
end Bd
namespace L2
open PySem PySem.Spec PyProof.Rows
structure OkP(w dp:Nat)(d:PyData):Prop where
 sh:d.showable=true
 lay:d.canLay0=true
 it:d.intsShort 13=true
 dp:d.depth<=dp
 wt:d.weight<=w
structure OkPs(w dp n:Nat)(ds:List PyData):Prop where
 sh:PyData.showableAll ds=true
 lay:PyData.canLayAll0 ds=true
 it:PyData.intsShortAll 13 ds=true
 dp:PyData.depthAll ds<=dp
 wt:PyData.weightAll ds<=n*(w+1)
def sm(i:Int):Prop:=-1000000000<=i/\i<=1000000000
def OkP.int{i:Int}(h:sm i):OkP 40 0 (.int i):=by
 have h1:i.natAbs<10^10:=by obtain⟨a,b⟩:=h;omega
 have h0:i.natAbs<2^38:=by obtain⟨a,b⟩:=h;omega
 have lg:i.natAbs.log2<38:=by
  by_cases z:i.natAbs=0
  .rw[z];decide
  .exact(Nat.log2_lt z).mpr h0
 refine⟨?_,by simp[PyData.canLay0],?_,by simp[PyData.depth],?_⟩
 .simp only[PyData.showable];exact decide_eq_true (by omega)
 .simp only[PyData.intsShort,PyData.shown];refine decide_eq_true ?_;have h2:=int_text_length_le10 (a:=i) (k:=10) (by decide) h1;rw[PySem.ofString_length];omega
 .simp only[PyData.weight];split<;>omega
def OkP.mono{w w' dp dp':Nat}{d:PyData}(h:OkP w dp d)(a:w<=w')(b:dp<=dp'):OkP w' dp' d:=⟨h.sh,h.lay,h.it,le_trans h.dp b,le_trans h.wt a⟩
def OkPs.nil{w dp:Nat}:OkPs w dp 0 []:=⟨by simp[PyData.showableAll],by simp[PyData.canLayAll0],by simp[PyData.intsShortAll],by simp[PyData.depthAll],by simp[PyData.weightAll]⟩
def OkPs.cons{w dp n:Nat}{d:PyData}{ds:List PyData}(h:OkP w dp d)(t:OkPs w dp n ds):OkPs w dp (n+1) (d::ds):=by
 refine⟨by simp[PyData.showableAll,h.sh,t.sh],by simp[PyData.canLayAll0,h.lay,t.lay],by simp[PyData.intsShortAll,h.it,t.it],?_,?_⟩
 .simp only[PyData.depthAll];exact Nat.max_le.mpr ⟨h.dp,t.dp⟩
 .simp only[PyData.weightAll];have:=h.wt;have:=t.wt;rw[Nat.add_mul];omega
def OkPs.tup{w dp n:Nat}{ds:List PyData}(t:OkPs w dp n ds):OkP (n*(w+1)) (dp+1) (.tuple ds):=by
 refine⟨?_,?_,?_,?_,?_⟩
 .rw[PyData.showable];exact t.sh
 .rw[PyData.canLay0];exact t.lay
 .rw[PyData.intsShort];exact t.it
 .rw[PyData.depth];have:=t.dp;omega
 .rw[PyData.weight];exact t.wt
def Rf{w dp:Nat}:∀{is:List I},(∀i∈is,OkP w dp i.py)->OkPs w dp is.length (I.pys is)
 |[],_=>by simp only[I.pys];exact OkPs.nil
 |i::is,h=>by simp only[I.pys,length_cons];exact(Rf λj hj=>h j (mem_cons_of_mem _ hj)).cons (h i mem_cons_self)
def FL{w dp:Nat}{is:List I}(h:∀i∈is,OkP w dp i.py):OkP (is.length*(w+1)) (dp+1) (I.py (.tup is)):=by
 rw[I.py];exact(Rf h).tup
def KA{i:Int}(h:sm i):OkP 40 0 (I.py (.int i)):=by rw[I.py];exact .int h
end L2
namespace Bd
open PySem L2
def Xb(x:Str)(h:x="late"∨x="tardy"∨x="miss"∨x="ends"∨x="steps"):OkP 40 0 (I.py (.str x)):=by
 rw[I.py];rcases h with rfl|rfl|rfl|rfl|rfl<;>exact⟨by decide +kernel,by decide +kernel,by decide +kernel,by decide +kernel,by decide +kernel⟩
def Uw(ns:List Int)(lo hi:Option Int):∃cs:List Int,DR (ns.map λn=>.im (.int n)) lo hi=cs.map λn=>.im (.int n):=⟨(ns.drop _).take _,by unfold DR;rw[map_take,List.map_drop]⟩
abbrev AG(ks:List Nat):List D:=ks.map λk:Nat=>D.im (.int (k:Int))
def Y3{n:Nat}{i:Int}(a:0<=i)(b:i<n):ixN n i=some i.toNat:=by unfold ixN;rw[if_pos a,if_pos b]
def JQ:∀{a:List Nat} {k x:Nat},a[k]?=some x->(x::a.eraseIdx k).Perm a
 |[],k,x,h=>by simp at h
 |y::r,0,x,h=>by simp at h;subst h;exact .refl _
 |y::r,k+1,x,h=>by
  have ih:=JQ (a:=r) (k:=k) (x:=x) (by simpa using h);exact(List.Perm.swap y x _).trans (ih.cons y)
def Kz{α β:Type}(f:α->β):∀(l:List α) (k:Nat),(l.map f).eraseIdx k=(l.eraseIdx k).map f
 |[],k=>rfl
 |y::r,0=>rfl
 |y::r,k+1=>by simp[Kz f r k]
def RX{a b:List Nat}{k x:Nat}(h:a[k]?=some x):(b++[x]++a.eraseIdx k).Perm (b++a):=by
 rw[append_assoc];exact List.Perm.append_left b (JQ h)
def Lc(p:Int×Int):I:=.tup [.int p.1,.int p.2]
def Along(seq:List Nat)(ps:List (Int×Int)):Prop:=∀p∈ps,∃i j a b:Nat,i<j/\seq[i]?=some a/\seq[j]?=some b/\p=((a:Int),(b:Int))
def Rj{seq:List Nat}{i a:Nat}(h:seq[i]?=some a):atI (AG seq) (i:Int)=some (.im (.int (a:Int))):=GC rfl (by simp[h])
def Uv(xs:List D)(k:Nat):DR xs none (some (k:Int))=xs.take k:=by
 unfold DR;rw[HT.sIx_none,HT.sIx_nat,Nat.sub_zero,List.drop_zero];by_cases h:k<=xs.length
 .rw[Nat.min_eq_left h]
 .rw[Nat.min_eq_right (by omega),List.take_length,take_of_length_le (by omega)]
def C3(n:Nat):AT 0 n=AG (List.range n):=by
 refine ext_getElem? λi=>?_;by_cases h:i<n
 .rw[JN h];simp[h]
 .rw[List.getElem?_eq_none (by simp;omega),List.getElem?_eq_none (by simp;omega)]
def Along.pok{seq:List Nat}{n:Nat}(hp:seq.Perm (List.range n))(hn:n<=1000){ps:List (Int×Int)}(h:Along seq ps):∀p∈ps,pok p:=by
 intro p hp';obtain⟨i,j,a,b,_,ea,eb,rfl⟩:=h p hp';have ha:a<n:=by simpa using hp.mem_iff.mp (mem_of_getElem? ea)
 have hb:b<n:=by simpa using hp.mem_iff.mp (mem_of_getElem? eb)
 exact⟨by show -1000000000<=(a:Int);omega,by show(a:Int)<=1000000000;omega,by show -1000000000<=(b:Int);omega,by show(b:Int)<=1000000000;omega⟩
abbrev intD(xs:List Int):List D:=xs.map λx=>D.im (.int x)
abbrev ER:MS:=(Af (D3 (A6 (mOp gEq (A0 5) (A0 4))) (A6 (mOp (gIn true) (A0 6) (A0 2))))
 (A5 (B8 (mMt Ae (A0 2) (A1 (A0 6) A4)))
 (B8 (mMt Ae (A0 3) (A1 (A0 6) A4))))
  AY)
abbrev N2:MS:=(A5 (AF 4 (mMt Gv (A0 3) A4))
 (BS (DZ (A0 0)) (Bb 2 (AO (AA 5) (AO (AA 6) Bc))) ER))
@[reducible] def fR:MS:=(A5 (AF 2 (Aa (Aj A4)))
 (A5 (AF 3 (Aa (Aj (A1 (A0 1) A4))))
 (A5 (Cs (E3 (A0 3)) N2)
 (AL (B7 BK (Bm (Bu (A0 2))))))))
def F_reached:List D->Hd->Option (D×Hd):=mkF 2 7 fR
def S6(xs:List Int):CB (intD xs)=some (xs.map V.int):=by
 induction xs with
 |nil=>rfl
 |cons x r ih=>simp[CB,ED]at ih ⊢;exact ih
def Ui(x:Int)(xs:List Int):inV (.int x) (xs.map V.int)=decide (x∈xs):=by
 unfold inV
 induction xs with
 |nil=>simp
 |cons y r ih=>
  simp only[map_cons,any_cons,ih,mem_cons];have:eqV (V.int y) (V.int x)=decide (x=y):=by
   unfold eqV;by_cases h:x=y
   .subst h;simp
   .have h':¬ y=x:=λz=>h z.symm;simp[h,h']
  rw[this,Bool.decide_or]
def in_ints{hd:Hd}{d:D}{xs:List Int}(x:Int)(neg:Bool)(h:Ad hd d=some (intD xs)):gIn neg (.im (.int x)) d hd=some (.im (.bl (if neg then !decide (x∈xs)else decide (x∈xs))),hd):=by
 simp only[gIn,ED,bind_some,h,S6,map_some,Ui]
def g0(hd:Hd)(x y:MO):(hd++[x,y])[hd.length]?=some x:=by simp
def g1(hd:Hd)(x y:MO):(hd++[x,y])[hd.length+1]?=some y:=by simp
def t0(hd:Hd)(x y z:MO):(hd++[x,y]).set hd.length z=hd++[z,y]:=by simp
def t1(hd:Hd)(x y z:MO):(hd++[x,y]).set (hd.length+1) z=hd++[x,z]:=by simp
def GT(P:D)(hd:Hd)(g:Gd)(G:GOk hd g)(a at_:Int):∀(qs:List (Int×Int)) (found fresh:List Int) (z5 z6:Option D),found.length+qs.length<=1000->fresh.length+qs.length<=10000->∃(new:List Int) (y5 y6:Option D),
 BZ (Bb 2 (AO (AA 5) (AO (AA 6) Bc))) ER g (qs.map AQ) [some P,some (.im (.int a)),some (.mu hd.length),some (.mu (hd.length+1)),some (.im (.int at_)),z5,z6] (hd++[.lst (intD found),.lst (intD fresh)]) =
  some (.nx [some P,some (.im (.int a)),some (.mu hd.length),some (.mu (hd.length+1)),some (.im (.int at_)),y5,y6],hd++[.lst (intD (found++new)),.lst (intD (fresh++new))])/\
 new.length<=qs.length/\new.Nodup/\(∀y∈new,y∉found/\(at_,y)∈qs)/\∀y,(at_,y)∈qs->y∈found++new
 |[],found,fresh,z5,z6,_,_=>⟨[],z5,z6,by simp[Ms],by simp,.nil,λy h=>by simp at h,λy h=>by simp at h⟩
 |(u,v)::qs,found,fresh,z5,z6,hf,hr=>by
   simp only[length_cons]at hf hr;have gg:∀r:Hd,GOk (hd++r) g:=λr=>Y8 G r;have nm:∀z5 z6:Option D,∀h:Hd,Bb 2 (AO (AA 5) (AO (AA 6) Bc)) (AQ (u,v)) [some P,some (.im (.int a)),some (.mu hd.length),some (.mu (hd.length+1)),some (.im (.int at_)),z5,z6] h=some [some P,some (.im (.int a)),some (.mu hd.length),some (.mu (hd.length+1)),some (.im (.int at_)),some (.im (.int u)),some (.im (.int v))]:=λz5 z6 h=>by simp[AQ]
   have sv:Ad (hd++[.lst (intD found),.lst (intD fresh)]) (.mu hd.length)=some (intD found):=by rw[J0,Es,g0]
   have gi:=in_ints v true sv;by_cases c:u=at_/\v∉found
   .obtain⟨new,y5,y6,q,l,nd,fr,al⟩:=GT P hd g G a at_ qs (found++[v]) (fresh++[v]) (some (.im (.int u))) (some (.im (.int v))) (by simp;omega) (by simp;omega);refine⟨v::new,y5,y6,?_,by simp;omega,?_,λy hy=>?_,λy hy=>?_⟩
    .have e1:found++v::new=found++[v]++new:=by simp
     have e2:fresh++v::new=fresh++[v]++new:=by simp
     rw[e1,e2,<- q,map_cons];have f1:DO found.length:=BD (by omega);have f2:DO fresh.length:=BD (by omega);refine Gm (nm _ _ _) ?_ (gg _);simp only[ER,N9,NB,Ha,Li,DP,List.getElem?_cons_zero,List.getElem?_cons_succ,bind_some,KN,NA,c.1,decide_true,if_true,Bool.false_eq_true,if_false,gi,c.2,decide_false,Bool.not_false,Jc,YE,Pp,Es,g0,g1,KO,Jd,SH,length_map,f1,f2,t0,t1,map_append,map_cons,map_nil]
    .refine nodup_cons.mpr ⟨λh=>(fr v h).1 (by simp),nd⟩
    .rcases mem_cons.mp hy with rfl|hy
     .exact⟨c.2,by rw[c.1];exact mem_cons_self⟩
     .have:=fr y hy;exact⟨λh=>this.1 (by simp[h]),mem_cons_of_mem _ this.2⟩
    .rcases mem_cons.mp hy with h|h
     .cases h;simp
     .have:=al y h;simp at this ⊢;rcases this with h|h|h
      .exact .inl h
      .exact .inr (.inl h)
      .exact .inr (.inr h)
   .obtain⟨new,y5,y6,q,l,nd,fr,al⟩:=GT P hd g G a at_ qs found fresh (some (.im (.int u))) (some (.im (.int v))) (by omega) (by omega);refine⟨new,y5,y6,?_,by simp;omega,nd,λy hy=>⟨(fr y hy).1,mem_cons_of_mem _ (fr y hy).2⟩,λy hy=>?_⟩
    .rw[<- q,map_cons];refine Gm (nm _ _ _) ?_ (gg _);by_cases c1:u=at_
     .have c2:v∈found:=Classical.not_not.mp λh=>c ⟨c1,h⟩;simp only[ER,N9,NB,Ha,Li,DP,List.getElem?_cons_zero,List.getElem?_cons_succ,bind_some,KN,NA,c1,decide_true,if_true,Bool.false_eq_true,if_false,gi,c2,Bool.not_true,ON]
     .simp only[ER,N9,NB,Ha,Li,DP,List.getElem?_cons_zero,List.getElem?_cons_succ,bind_some,KN,NA,c1,decide_false,if_true,Bool.false_eq_true,if_false,ON]
    .rcases mem_cons.mp hy with h|h
     .cases h;have c2:v∈found:=Classical.not_not.mp λh=>c ⟨rfl,h⟩;simp[c2]
     .exact al y h
end Bd
namespace L2
open PySem PySem.Spec PyProof.Rows
def CQ(p:Key×D)(r:List (Key×D))(k:Key):BQ (p::r) k=if p.1=k then some p.2 else BQ r k:=by
 unfold BQ;rw[find?_cons];by_cases e:p.1=k<;>simp[e]
def Lz(k:Key):∀kvs:List (Key×D),(kvs.any λkv=>decide (kv.1=k))=(BQ kvs k).isSome
 |[]=>rfl
 |p::r=>by
  rw[any_cons,CQ];by_cases e:p.1=k
  .simp[e]
  .rw[if_neg e,decide_eq_false e,Bool.false_or];exact Lz k r
def Ly(k j:Key)(y:D):∀kvs:List (Key×D),BQ (kvs.map λkv=>if kv.1=k then(kv.1,y)else kv) j=(BQ kvs j).map λx=>if j=k then y else x
 |[]=>rfl
 |p::r=>by
  have ih:=Ly k j y r;rw[map_cons,CQ,CQ,ih];by_cases h:p.1=k
  .rw[if_pos h];by_cases e:p.1=j
   .have:j=k:=e.symm.trans h;simp[e,this]
   .simp[e]
  .rw[if_neg h];by_cases e:p.1=j
   .have:¬ j=k:=λz=>h (e.trans z);simp[e,this]
   .simp[e]
def Kb(k j:Key)(y:D):∀kvs:List (Key×D),BQ kvs k=none->BQ (kvs++[(k,y)]) j=if j=k then some y else BQ kvs j
 |[],_=>by
  rw[nil_append,CQ];by_cases e:k=j
  .subst e;simp
  .have:¬ j=k:=λz=>e z.symm;simp[e,this]
 |p::r,hn=>by
  rw[CQ]at hn;have hk:¬ p.1=k:=λz=>by rw[if_pos z]at hn;cases hn
  rw[if_neg hk]at hn;have ih:=Kb k j y r hn;rw[cons_append,CQ,CQ,ih];by_cases e:p.1=j
  .have:¬ j=k:=λz=>hk (e.trans z);simp[e,this]
  .simp[e]
def Sn(kvs:List (Key×D))(k j:Key)(y:D):BQ (Cn kvs k y) j=if j=k then some y else BQ kvs j:=by
 unfold Cn;rw[Lz];by_cases a:(BQ kvs k).isSome=true
 .rw[if_pos a,Ly];by_cases e:j=k
  .subst e;obtain⟨x,hx⟩:=isSome_iff_exists.mp a;simp[hx]
  .simp[e]
 .rw[if_neg a];exact Kb k j y kvs (by simpa using a)
def IN(kvs:List (Key×D))(k:Key)(y:D):(Cn kvs k y).length<=kvs.length+1:=by
 unfold Cn;split<;>simp
def DicI(kvs:List (Key×D))(g:Nat->Option Int):Prop:=∀k:Nat,BQ kvs (.inl (k:Int))=(g k).map λv=>.im (.int v)
def DicI.nil:DicI [] λ_=>none:=λk=>rfl
def DicI.put{kvs:List (Key×D)}{g:Nat->Option Int}(h:DicI kvs g)(k:Nat)(v:Int):DicI (Cn kvs (.inl (k:Int)) (.im (.int v))) λj=>if j=k then some v else g j:=λj=>by
 rw[Sn];by_cases e:j=k
 .subst e;simp
 .have:¬ (Sum.inl (j:Int):Key)=Sum.inl (k:Int):=λz=>e (by have:=Sum.inl.inj z;omega);rw[if_neg this];dsimp only;rw[if_neg e];exact h j
section
variable{ls:Ls}{hd:Hd}{QE:D->Hd->Prop}{QI:List D×Gd->Hd->Prop}{ma:ME}{n:MG}{ta:MT}{mi:MI}{m:MA}
def EM{d:D}{kvs:List (Key×D)}{g:Nat->Option Int}{k:Nat}{v:Int}(e1:Bx hd d=some kvs)(h:DicI kvs g)(e:g k=some v)(q:QE (.im (.int v)) hd):WP (DM d (.im (.int (k:Int))) hd) QE:=
 Vj e1 rfl (by rw[h k,e];rfl) q
def HI{d:D}{kvs:List (Key×D)}{g:Nat->Option Int}{k:Nat}{neg:Bool}(e1:Bx hd d=some kvs)(h:DicI kvs g)(q:QE (.im (.bl (if neg then !(g k).isSome else(g k).isSome))) hd):WP (De neg (.im (.int (k:Int))) d hd) QE:=
 YU e1 rfl (by rw[h k,isSome_map];exact q)
def Ln{d:D}{xs:List Int}{x:Int}{neg:Bool}(e1:Ad hd d=some (Bd.intD xs))(q:QE (.im (.bl (if neg then !decide (x∈xs)else decide (x∈xs)))) hd):WP (gIn neg (.im (.int x)) d hd) QE:=WP.eq (Bd.in_ints x neg e1) q
def Vp{mm:Ls->Hd->Option (List (Key×D)×Hd)}(h:WP (mm ls hd) λkvs x=>QE (.mu x.length) (x++[.dic kvs])):WE (JW mm) ls hd QE:=WP.bind (h.mono λ_ _ q=>WP.some q)
def Sg{α:Type}{k:Nat}{ix:List Nat}{a0:α}{me:MM α}{Q:α->Hd->Prop}(h:WI mi ls hd λp x=>WP (mGo n ta me p.2 p.1 (Cj k ix ls) x a0) Q):WP (Gj k ix mi n ta a0 me ls hd) Q:=WP.bind (h.mono λ_ _ q=>q)
def Lp{α:Type}{me:MM α}{g:Gd}{Q:α->Hd->Prop}(P:List D->α->Ls->Hd->Prop):∀{ds:List D} {a:α} {ls:Ls} {hd:Hd},P ds a ls hd ->
 (∀d r a ls hd,P (d::r) a ls hd->∃ls1,n d ls hd=some ls1/\WT ta ls1 hd λc x=>if c=true then WP (me ls1 x a) λa' y=>GOk y g/\P r a' ls1 y else GOk x g/\P r a ls1 x) ->
 (∀a ls hd,P [] a ls hd->Q a hd)->WP (mGo n ta me g ds ls hd a) Q
 |[],a,ls,hd,h,k,z=>⟨_,_,by unfold mGo;rfl,z _ _ _ h⟩
 |d::r,a,ls,hd,h,k,z=>by
  obtain⟨ls1,e1,c,x,e2,q⟩:=k d r a ls hd h;unfold mGo;rw[e1,bind_some,e2,bind_some];cases c with
  |true=>
   rw[if_pos rfl]at q ⊢;obtain⟨a',y,e3,g3,p3⟩:=q;rw[e3,bind_some];dsimp only;rw[if_pos g3];exact Lp P p3 k z
  |false=>
   rw[if_neg Bool.false_ne_true]at q ⊢;dsimp only;rw[if_pos q.1];exact Lp P q.2 k z
def YW{mk mv:ME}{a:List (Key×D)}{Q:List (Key×D)->Hd->Prop}(h:WE mk ls hd λd x=>WE mv ls x λe y=>∃k,C4 d=some k/\DO a.length/\Q (Cn a k e) y):WP (HM mk mv ls hd a) Q:=by
 obtain⟨d,x,e1,e,y,e2,k,e3,c,q⟩:=h;exact⟨_,_,by simp only[HM,e1,bind_some,e2,e3,c,if_true],q⟩
def bo{g:Gd}{QA:List D->Hd->Prop}(P:List D->List D->Ls->Hd->Prop){ds:List D}{ls:Ls}{hd:Hd}(h:P ds [] ls hd)
 (k:∀d r es ls hd,P (d::r) es ls hd->∃ls1,n d ls hd=some ls1/\WT ta ls1 hd λc x=>if c=true then WE ma ls1 x λz y=>GOk y g/\P r (es++[z]) ls1 y else GOk x g/\P r es ls1 x)
 (z:∀es ls hd,P [] es ls hd->QA es hd):WP (B5 n ta ma g ds ls hd) QA:=
 (Lv P h k).mono λzs x ⟨ls',q⟩=>z zs ls' x (by simpa using q)
def Au{α:Type}{g:Gd}{QA:List D->Hd->Prop}(inj:α->D)(f:α->Option D)(L:D->Ls->Prop)(l0:Ls){xs:List α}{hd:Hd}(hg:GOk hd g)
 (k:∀x∈xs,∀ls,ls=l0∨(∃d,L d ls)->∃ls1,n (inj x) ls hd=some ls1/\L (inj x) ls1/\WT ta ls1 hd λc y=>y=hd/\if c=true then ∃z,f x=some z/\WE ma ls1 hd λe y=>y=hd/\e=z else f x=none)
 (q:QA (xs.filterMap f) hd):WP (B5 n ta ma g (xs.map inj) l0 hd) QA:=by
 have go:∀(xs':List α) (ls:Ls),(∀x∈xs',x∈xs)->(ls=l0∨∃d,L d ls)->B5 n ta ma g (xs'.map inj) ls hd=some (xs'.filterMap f,hd):=by
  intro xs'
  induction xs' with
  |nil=>intro ls _ _;unfold B5;rfl
  |cons x r ih=>
   intro ls hs hl;obtain⟨ls1,e1,L1,c,y,e2,rfl,q⟩:=k x (hs x mem_cons_self) ls hl;have ih:=ih ls1 (λz hz=>hs z (mem_cons_of_mem _ hz)) (.inr ⟨_,L1⟩);rw[map_cons];unfold B5;rw[e1,bind_some,e2,bind_some];cases c with
   |true=>
    rw[if_pos rfl]at q;obtain⟨z,ez,e,y,e3,rfl,rfl⟩:=q;rw[if_pos rfl,e3,bind_some];dsimp only;rw[if_pos hg,ih,filterMap_cons,ez];rfl
   |false=>
    rw[if_neg Bool.false_ne_true]at q;rw[if_neg Bool.false_ne_true];dsimp only;rw[if_pos hg,ih,filterMap_cons,q]
 exact⟨_,_,go xs l0 (λ_ h=>h) (.inl rfl),q⟩
end
mutual
def shD(k:Nat):D->D
 |.im i=>.im i
 |.mu n=>.mu (n+k)
 |.tm ds=>.tm (D1 k ds)
 |.ro ns=>.ro ns
def D1(k:Nat):List D->List D
 |[]=>[]
 |d::ds=>shD k d::D1 k ds
end
def MF(k:Nat):List (Key×D)->List (Key×D)
 |[]=>[]
 |d::ds=>(d.1,shD k d.2)::MF k ds
def shO(k:Nat):MO->MO
 |.lst ds=>.lst (D1 k ds)
 |.dic kvs=>.dic (MF k kvs)
section
variable{K:PySem.W.Frag}{ρ ρ':List Addr}{H H':Hp}{hd hd':Hd}
mutual
def RD.shift(ρ1:List Addr):∀{d:D} {v:V},RD K ρ H d v->RD K (ρ1++ρ) H (shD ρ1.length d) v
 |.im i,v,h=>by simp only[RD,shD]at h ⊢;exact h
 |.mu n,v,h=>by
  simp only[RD,shD]at h ⊢;obtain⟨a,e,q⟩:=h;exact⟨a,by rw[List.getElem?_append_right (by omega),Nat.add_sub_cancel];exact e,q⟩
 |.tm ds,v,h=>by
  simp only[RD,shD]at h ⊢;obtain⟨a,xs,e,q,z⟩:=h;exact⟨a,xs,e,q,RDs.shift ρ1 z⟩
 |.ro ns,v,h=>by simp only[RD,shD]at h ⊢;exact h
def RDs.shift(ρ1:List Addr):∀{d:List D} {v:List V},RDs K ρ H d v->RDs K (ρ1++ρ) H (D1 ρ1.length d) v
 |[],v,h=>by simpa only[RDs,D1]using h
 |d::ds,v,h=>by
  simp only[RDs,D1]at h ⊢;obtain⟨x,r',e,q,z⟩:=h;exact⟨x,r',e,q.shift ρ1,RDs.shift ρ1 z⟩
end
def RKs.shift(ρ1:List Addr):∀{d:List (Key×D)} {v:List (Key×V)},RKs K ρ H d v->RKs K (ρ1++ρ) H (MF ρ1.length d) v
 |[],v,h=>by simpa only[RKs,MF]using h
 |d::ds,v,h=>by
  simp only[RKs,MF]at h ⊢;obtain⟨x,r',e,q1,q,z⟩:=h;exact⟨x,r',e,q1,q.shift ρ1,RKs.shift ρ1 z⟩
def RC.shift(ρ1:List Addr){o:MO}{ho:HO}(h:RC K ρ H o ho):RC K (ρ1++ρ) H (shO ρ1.length o) ho:=by
 cases o with
 |lst ds=>obtain⟨xs,e,q⟩:=h;exact⟨xs,e,q.shift ρ1⟩
 |dic ds=>obtain⟨xs,e,q⟩:=h;exact⟨xs,e,q.shift ρ1⟩
def RH.join{h1 h2:Hd}(R1:RH K ρ H h1)(x:Ext [] H ρ' H')(R2:RH K ρ' H' h2):RH K (ρ++ρ') H' (h1++h2.map (shO ρ.length))/\Ext ρ H (ρ++ρ') H':=by
 obtain⟨r,er,fr⟩:=x.pre;have er:ρ'=r:=by simpa using er
 subst er;have kp:∀b o,H b=some o->(∀ps,o≠.tbl ps)->H' b=some o:=λb o e t=>x.keep b o e (by simp) t;have gr:Grow H H':=⟨λb xs e=>kp b _ e nt,λb o u e=>kp b _ e nt⟩
 refine⟨⟨by simp[R1.len,R2.len],?_,R2.tabs,λn o a e1 e2=>?_⟩,⟨⟨ρ',rfl,fr⟩,λb o e _ t=>kp b o e t,x.tab⟩⟩
 .rw[nodup_append];refine⟨R1.nd,R2.nd,λa ha b hb z=>?_⟩;subst z;exact R1.out (fr a hb) ha
 .by_cases hn:n<ρ.length
  .rw[List.getElem?_append_left hn]at e2;rw[List.getElem?_append_left (by rw[<- R1.len];exact hn)]at e1;obtain⟨ho,q1,q2⟩:=R1.ob n o a e1 e2;exact⟨ho,kp a ho q1 (λps z=>by rcases R1.mut (mem_of_getElem? e2)with⟨y,w⟩|⟨y,w⟩<;>(rw[q1,z]at w;cases w)),q2.mono gr ρ'⟩
  .have hn':ρ.length<=n:=not_lt.mp hn;rw[List.getElem?_append_right hn']at e2;rw[List.getElem?_append_right (by rw[<- R1.len];exact hn'),List.getElem?_map,<- R1.len]at e1;cases q:h2[n-ρ.length]? with
   |none=>rw[q]at e1;cases e1
   |some o2=>
    rw[q]at e1;cases e1;obtain⟨ho,q1,q2⟩:=R2.ob _ o2 a q e2;exact⟨ho,q1,q2.shift ρ⟩
def DK(F:List D->Hd->Option (D×Hd))(ma:MA):ME:=λls hd=>(ma ls hd).bind λp=>if Ap 0 p.1=true then(F p.1 []).map λr=>(shD p.2.length r.1,p.2++r.2.map (shO p.2.length))else none
def Tg{k:Nat}{F:List D->Hd->Option (D×Hd)}{t:TA}{m:MA}(h:RA K t m)(hk:∀ds hd z,F ds hd=some z->ds.length=k):RE K (C2 (spF K k F) [] E0 t) (DK F m):=by
 and_intros;obtain⟨⟨d1,h1⟩,e1,hm⟩:=fW hm;dsimp only at hm;split at hm
 .next c1=>
  obtain⟨⟨d2,h2⟩,e2,e3⟩:=fX hm;cases e3;refine h ρ σ H hd ls _ d1 h1 hR hL e1 λρ1 H1 v1 x1 R1 r1=>?_;rw[append_nil];have R0:RH K [] H1 []:=by simpa using R1.take 0 (by simp)
  have r0:RDs K [] H1 d1 v1:=by simpa using r1.take' 0 c1
  refine⟨by rw[r1.len];exact hk _ _ _ e2,[],[],d1,d2,h2,R0,r0,e2,λρ' H' v x2 R2 r2=>?_⟩;obtain⟨R3,x3⟩:=R1.join x2 R2;rw[R1.len]at R3;refine hQ (ρ1++ρ') H' v (x1.trans R1 x3) R3 ?_;have:=r2.shift ρ1;rw[R1.len]at this;exact this
 .cases hm
def U5(K:PySem.W.Frag){X:Cx}{e:Expr}{es:List Expr}{t:TA}{m:MA}{x:Str}{j k:Nat}{f:Addr}{fd:FuncData}{ps:List Str}{n:Nat}{F:List D->Hd->Option (D×Hd)}{st:Stmt}{p pos:Pos}(G:FnOk X.prog X.w X.K X.mg X.base CX0 j f fd ps (spF K n F))(hr:Room k X.A)(DA:DefAt X.K X.mg x st f fd ps)(ha:QA K X (e::es) t m)(hF:∀ds hd z,F ds hd=some z->ds.length=n)
 (hjk:j<=k:=by decide) (hg:Gl X x:=by rfl) (hdb:(x==("__debug__":Str))=false:=by decide) (he:starEach (e::es) X.env=(false,eval e X.env)::starEach es X.env:=by rfl) (hpl:(backTo pos (starEach es X.env)).any (·.1)=false:=by rfl):
 QE K X (.Call (.Name x p) (e::es) [] pos) (C2 (spF K n F) [] E0 t) (DK F m):=⟨PR G hr DA ha.p hjk hg hdb he hpl,Tg ha.r hF⟩
def KG(neg:Bool)(ma:ME)(ml:MA):ME:=λls hd=>(ma ls hd).bind λp=>(ml ls p.2).bind λq=>match p.1 with
 |.im i=>(ED i).bind λx=>(CB q.1).map λxs=>(.im (.bl (if neg then !inV x xs else inV x xs)),q.2)
 |_=>none
def ZC{neg:Bool}{ta tb:TE}{ma:ME}{ml:MA}(ha:RE K ta ma)(hb:RN K tb ml):RE K (tOp (rIn K neg) ta tb) (KG neg ma ml):=by
 and_intros;obtain⟨⟨d1,h1⟩,e1,hm⟩:=fW hm;obtain⟨⟨d2,h2⟩,e2,hm⟩:=fW hm;dsimp only at hm;split at hm
 .obtain⟨x,e3,hm⟩:=fW hm;obtain⟨xs,e4,e5⟩:=fX hm;cases e5;refine ha ρ σ H hd ls _ _ h1 hR hL e1 λρ1 H1 v1 x1 R1 r1=>?_;refine hb ρ1 σ H1 h1 ls _ d2 _ R1 (hL.ext hR x1) e2 λρ2 H2 a ys x2 R2 na oa ea r2=>?_;have r1:=r1.ext R1 x2;simp only[RD]at r1;obtain⟨rfl,f1⟩:=Ib e3 r1;obtain⟨rfl,f2⟩:=Gu e4 r2;exact⟨a,ys,rfl,.inl (SqL.of ea),f1,f2,hQ ρ2 H2 _ (x1.trans R1 x2) R2 (by simp[RD,RI])⟩
 .cases hm
def Wm(K:PySem.W.Frag){X:Cx}{a b:Expr}{ta tb:TE}{ma:ME}{ml:MA}{pos:Pos}{op:CmpOp}{neg:Bool}(ho:OpR X (compareOp op) (rIn K neg))(ha:QE K X a ta ma)(hb:QN K X b tb ml)(hm:behindInMarks op b=false:=by first|exact Ga _|rfl):QT K X (.Compare a [op] [b] pos) (Ei (tOp (rIn K neg) ta tb)) (A6 (KG neg ma ml)):=⟨HK ho ha.p hb.p hm,D7 (ZC ha.r hb.r)⟩
open Classical in
def IV(ml:MA)(mb:ME):MA:=λls hd=>(ml ls hd).bind λp=>(mb ls p.2).bind λq=>match q.1 with
 |.im (.int k)=>if(0<=k/\k<=1000)/\BT (p.1.length*k.toNat)then some ((List.replicate k.toNat p.1).flatten,q.2)else none
 |_=>none
def RDs.rep{ds:List D}{xs:List V}(r:RDs K ρ H ds xs):∀n,RDs K ρ H (List.replicate n ds).flatten (List.replicate n xs).flatten
 |0=>by simp[RDs]
 |n+1=>by
  simp only[replicate_succ,flatten_cons];exact r.app (r.rep n)
def Yt{ta tb:TE}{ml:MA}{mb:ME}(ha:RN K ta ml)(hb:RE K tb mb):RN K (tOp Tj ta tb) (IV ml mb):=by
 and_intros;obtain⟨⟨d1,h1⟩,e1,hm⟩:=fW hm;obtain⟨⟨d2,h2⟩,e2,hm⟩:=fW hm;dsimp only at hm;split at hm
 .next k=>
  split at hm
  .next c=>
   cases hm;refine ha ρ σ H hd ls _ d1 h1 hR hL e1 λρ1 H1 a xs x1 R1 na oa ea r1=>?_;refine hb ρ1 σ H1 h1 ls _ _ _ R1 (hL.ext hR x1) e2 λρ2 H2 v2 x2 R2 r2=>?_;simp only[RD,RI]at r2;subst r2;have ea2:=x2.keep a _ ea oa nt;refine⟨a,k,xs,rfl,rfl,ea2,by omega,by omega,by rw[r1.len];exact c.2,λp hp=>?_⟩;obtain⟨R3,x3⟩:=R2.hid (ho:=.lst (List.replicate k.toNat xs).flatten) hp;have x12:=x1.trans R1 x2;exact hQ ρ2 _ p _ (x12.trans R2 x3) R3 (x12.none hR hp R2) (R2.out hp) AI (((r1.ext R1 x2).rep k.toNat).ext R2 x3)
  .cases hm
 .cases hm
def Za(K:PySem.W.Frag){X:Cx}{a b:Expr}{ta tb:TE}{ml:MA}{mb:ME}{pos:Pos}(ha:QN K X a ta ml)(hb:QE K X b tb mb):QN K X (.BinOp a .Mult b pos) (tOp Tj ta tb) (IV ml mb):=⟨PQ aa ha.p hb.p,Yt ha.r hb.r⟩
end
section
variable{ls:Ls}{hd:Hd}{ma mb:ME}{m ml:MA}{QE:D->Hd->Prop}{QA:List D->Hd->Prop}
def Hz{F:List D->Hd->Option (D×Hd)}(h:WA m ls hd λds x=>Ap 0 ds=true/\WF F ds [] λd y=>QE (shD x.length d) (x++y.map (shO x.length))):WE (DK F m) ls hd QE:=by
 obtain⟨ds,x,e,c,d,y,e2,q⟩:=h;exact⟨_,_,by simp only[DK,e,bind_some,c,if_true,e2,map_some],q⟩
def YY{neg:Bool}(h:WE ma ls hd λd x=>WA ml ls x λds y=>∃i v vs,d=.im i/\ED i=some v/\CB ds=some vs/\QE (.im (.bl (if neg then !inV v vs else inV v vs))) y):WE (KG neg ma ml) ls hd QE:=by
 obtain⟨d,x,e1,ds,y,e2,i,v,vs,rfl,e3,e4,q⟩:=h;exact⟨_,_,by simp only[KG,e1,bind_some,e2,e3,e4,map_some],q⟩
end
end L2
namespace L2
open PySem PySem.Spec PyProof.Rows
abbrev blD(bs:List Bool):List D:=bs.map λb=>D.im (.bl b)
inductive Ty where
 |int|bool|str|tuple|list
 deriving DecidableEq
def Ty.nm:Ty->String
 |.int=>"int" | .bool=>"bool" | .str=>"str" | .tuple=>"tuple" | .list=>"list"
def IsT(K:PySem.W.Frag)(T:Ty)(H:Hp)(v:V)(b:Bool):Prop:=
 (v=.non/\b=false)∨(∃x,v=.bl x/\b=decide (T=.int∨T=.bool))∨(∃i,v=.int i/\b=decide (T=.int))∨(∃x,v=.str x/\b=decide (T=.str)) ∨
 (∃a xs,v=.ref a/\SqL K H a xs/\b=decide (T=.list))∨∃a xs,v=.ref a/\SqT K H a xs/\b=decide (T=.tuple)
section
variable{X:Cx}{pins:List (Addr×Obj)}{σ:St}{H:Hp}{s:Shared}{A:Around}{E:Value->Shared->Prop}{Q:Value->Shared->Prop}
def bC{T:Ty}{v:V}{u:Value}{b:Bool}(I:Inv X pins σ H s)(r:RelV v u)(h:IsT X.K T H v b)(q:∀tk,Q (.bool b) { s with toks:=tk }):wpAny (model X.prog X.w) A (call (.builtin "isinstance") [u,.type T.nm]) Q E s:=by
 have q0:=q s.toks;have q1:=q (s.toks+1);rcases h with⟨rfl,rfl⟩|⟨x,rfl,rfl⟩|⟨i,rfl,rfl⟩|⟨x,rfl,rfl⟩|⟨a,xs,rfl,hl,rfl⟩|⟨a,xs,rfl,ht,rfl⟩
 .cases(show u=Value.none from r);cases T
  .exact IsiPair.NoneType_int q1
  .exact IsiPair.NoneType_bool q1
  .exact IsiPair.NoneType_str q1
  .exact IsiPair.NoneType_tuple q1
  .exact IsiPair.NoneType_list q1
 .cases(show u=Value.bool x from r);cases T
  .first|exact IsiPair.bool_int q0|exact IsiPair.bool_int q1
  .first|exact IsiPair.bool_bool q0|exact IsiPair.bool_bool q1
  .exact IsiPair.bool_str q1
  .exact IsiPair.bool_tuple q1
  .exact IsiPair.bool_list q1
 .obtain⟨t,rfl⟩:=(show ∃t,u=Value.int i t from r)
  cases T
  .exact IsiPair.int_int q0
  .exact IsiPair.int_bool q1
  .exact IsiPair.int_str q1
  .exact IsiPair.int_tuple q1
  .exact IsiPair.int_list q1
 .obtain⟨t,rfl⟩:=(show ∃t,u=Value.str x t from r)
  cases T
  .exact IsiPair.str_int q1
  .exact IsiPair.str_bool q1
  .exact IsiPair.str_str q0
  .exact IsiPair.str_tuple q1
  .exact IsiPair.str_list q1
 .cases(show u=Value.ref a from r);obtain⟨its,_,⟨o,n,e,c,_,_⟩,_⟩:=I.list hl;cases T
  .exact IsiPair.list_int e c q1
  .exact IsiPair.list_bool e c q1
  .exact IsiPair.list_str e c q1
  .exact IsiPair.list_tuple e c q1
  .exact IsiPair.list_list e c q0
 .cases(show u=Value.ref a from r);obtain⟨its,_,⟨o,e,c,_⟩,_⟩:=I.tuple ht;cases T
  .exact IsiPair.tuple_int e c q1
  .exact IsiPair.tuple_bool e c q1
  .exact IsiPair.tuple_str e c q1
  .exact IsiPair.tuple_tuple e c q0
  .exact IsiPair.tuple_list e c q1
end
def T0(K:PySem.W.Frag)(T:Ty)(te:TE):TE:=λσ H Q=>te σ H λv H1=>∃b,IsT K T H1 v b/\Q (.bl b) H1
def aQ(K:PySem.W.Frag){X:Cx}(T:Ty){e:Expr}{te:TE}{x:Str}{p px pos:Pos}(hm:X.mg "isinstance"=none)(hmT:X.mg x=none)(hvT:bootBuiltins x=some (.type T.nm))(he:PE X e te)
 (hv:bootBuiltins "isinstance"=some (.builtin "isinstance")) (hK:X.K=K) (hg:Gl X "isinstance") (hgT:Gl X x) (hnT:x≠"__name__") (hdT:(x==("__debug__":Str))=false)
 (hs:starEach [e,.Name x px] X.env=[(false,eval e X.env),(false,eval (.Name x px) X.env)]) (hs2:starEach [.Name x px] X.env=[(false,eval (.Name x px) X.env)]):PE X (.Call (.Name "isinstance" p) [e,.Name x px] [] pos) (T0 K T te):=by
 subst hK;intro pins s σ H Q I h;refine wpAny_Call_Name_kw (DL I hg hm hv ?_);have go:wpAny (model X.prog X.w) X.A (spliced (backTo pos (starEach [e,.Name x px] X.env))) (λvs s₁=>wpAny (model X.prog X.w) X.A (call (.builtin "isinstance") vs) (EP X pins σ Q) X.xe s₁) X.xe s:=by
  rw[hs];show wpAny _ _ (spliced ((false,eval e X.env)::backTo pos [(false,eval (.Name x px) X.env)])) _ _ s;refine Calls.spliced_cons (thn (he pins s σ H _ I h) λu s1 ⟨v,H1,I1,r1,b,ib,q1⟩=>?_);show wpAny _ _ (spliced ((false,eval (.Name x px) X.env)::backTo pos [])) _ _ s1;refine Calls.spliced_cons (DL I1 hgT hmT hvT ?_ hnT hdT);refine Calls.spliced_nil ?_;exact bC I1 r1 ib λtk=>⟨.bl b,H1,I1.tok _,rfl,q1⟩
 exact PyProof.Rows.callWith_builtin1 go (by rw[hs,hs2]) (by rw[hs2];rfl)
section
variable{K:PySem.W.Frag}{ρ ρ':List Addr}{H H':Hp}{hd hd':Hd}
def isD(T:Ty)(hd:Hd):D->Option Bool
 |.im .non=>some false
 |.im (.bl _)=>some (decide (T=.int∨T=.bool))
 |.im (.int _)=>some (decide (T=.int))
 |.im (.str _)=>some (decide (T=.str))
 |.im (.tup _)=>some (decide (T=.tuple))
 |.tm _=>some (decide (T=.tuple))
 |.ro _=>some (decide (T=.list))
 |.mu n=>match hd[n]? with
  |some (.lst _)=>some (decide (T=.list))
  |_=>none
def bD{T:Ty}{d:D}{v:V}{b:Bool}(hR:RH K ρ H hd)(h:RD K ρ H d v)(e:isD T hd d=some b):IsT K T H v b:=by
 cases d with
 |im i=>
  cases i with
  |non=>simp only[RD,RI]at h;subst h;simp only[isD,Option.some.injEq]at e;exact .inl ⟨rfl,e.symm⟩
  |bl c=>simp only[RD,RI]at h;subst h;simp only[isD,Option.some.injEq]at e;exact .inr (.inl ⟨c,rfl,e.symm⟩)
  |int c=>simp only[RD,RI]at h;subst h;simp only[isD,Option.some.injEq]at e;exact .inr (.inr (.inl ⟨c,rfl,e.symm⟩))
  |str c=>simp only[RD,RI]at h;subst h;simp only[isD,Option.some.injEq]at e;exact .inr (.inr (.inr (.inl ⟨c,rfl,e.symm⟩)))
  |tup is=>
   obtain⟨a,xs,rfl,q,r⟩:=h.tup (ds:=is.map .im) rfl;simp only[isD,Option.some.injEq]at e;exact .inr (.inr (.inr (.inr (.inr ⟨a,xs,rfl,q,e.symm⟩))))
 |tm ds=>
  obtain⟨a,xs,rfl,q,r⟩:=h.tup (ds:=ds) rfl;simp only[isD,Option.some.injEq]at e;exact .inr (.inr (.inr (.inr (.inr ⟨a,xs,rfl,q,e.symm⟩))))
 |ro ns=>
  obtain⟨a,xs,rfl,q,r⟩:=h.lst hR (hd:=hd) (ds:=ns.map λn=>.im (.int n)) rfl;simp only[isD,Option.some.injEq]at e;exact .inr (.inr (.inr (.inr (.inl ⟨a,xs,rfl,q,e.symm⟩))))
 |mu n=>
  simp only[isD]at e;split at e
  .next q=>
   cases e;simp only[RD]at h;obtain⟨a,hn,rfl⟩:=h;obtain⟨xs,e1,e2⟩:=hR.lst hn q;exact .inr (.inr (.inr (.inr (.inl ⟨a,xs,rfl,SqL.of e1,rfl⟩))))
  .cases e
def E4(T:Ty)(ma:ME):ME:=λls hd=>(ma ls hd).bind λp=>(isD T p.2 p.1).map λb=>(.im (.bl b),p.2)
def ZA{T:Ty}{te:TE}{me:ME}(h:RE K te me):RE K (T0 K T te) (E4 T me):=by
 and_intros;obtain⟨⟨d1,h1⟩,e1,hm⟩:=fW hm;obtain⟨b,e2,e3⟩:=fX hm;cases e3;exact h ρ σ H hd ls _ d1 _ hR hL e1 λρ1 H1 v x1 R1 r1=>⟨b,bD R1 r1 e2,hQ ρ1 H1 _ x1 R1 (by simp[RD,RI])⟩
def Jo:∀T:Ty,bootBuiltins T.nm=some (.type T.nm)
 |.int=>by decide +kernel
 |.bool=>by decide +kernel
 |.str=>by decide +kernel
 |.tuple=>by decide +kernel
 |.list=>by decide +kernel
def Mh(K:PySem.W.Frag){X:Cx}(T:Ty){e:Expr}{te:TE}{me:ME}{x:Str}{p px pos:Pos}(hm:X.mg "isinstance"=none)(hmT:X.mg x=none)(he:QE K X e te me)(hx:bootBuiltins x=some (.type T.nm):=by first|exact Jo .int|exact Jo .bool|exact Jo .str|exact Jo .tuple|exact Jo .list)(hK:X.K=K:=by rfl)(hg:Gl X "isinstance":=by rfl)(hgT:Gl X x:=by rfl)
 (hnT:x≠"__name__":=by decide) (hdT:(x==("__debug__":Str))=false:=by decide)
 (hs:starEach [e,.Name x px] X.env=[(false,eval e X.env),(false,eval (.Name x px) X.env)]:=by rfl) (hs2:starEach [.Name x px] X.env=[(false,eval (.Name x px) X.env)]:=by rfl):QE K X (.Call (.Name "isinstance" p) [e,.Name x px] [] pos) (T0 K T te) (E4 T me):=
 ⟨aQ K T hm hmT hx he.p LQ hK hg hgT hnT hdT hs hs2,ZA he.r⟩
def RDs.ints:∀{ns:List Int} {xs:List V},RDs K ρ H (ns.map λx=>D.im (.int x)) xs->xs=ns.map V.int
 |[],xs,h=>by simpa only[RDs,map_nil]using h
 |n::ns,xs,h=>by
  simp only[map_cons,RDs,RD,RI]at h;obtain⟨x,r,rfl,rfl,t⟩:=h;rw[RDs.ints t];rfl
end
section
variable{ls:Ls}{hd:Hd}{ma mo mi me:ME}{QE:D->Hd->Prop}{QS:Fl->Hd->Prop}
def Iv{T:Ty}(h:WE ma ls hd λd x=>∃b,isD T x d=some b/\QE (.im (.bl b)) x):WE (E4 T ma) ls hd QE:=by
 obtain⟨d,x,e,b,e2,q⟩:=h;exact⟨_,_,by simp only[E4,e,bind_some,e2,map_some],q⟩
end
section
variable{prog:Program}{w:World}{A:Around}{E:Value->Shared->Prop}{s:Shared}
def Ht{l:Addr}{vs:List Value}{Q:List Value->Shared->Prop}(hl:IsTup s.heap l vs.toArray)
 (h:Q vs { s with heap:=(s.heap.push (seqObj "list" #[] 0)).update s.heap.objs.size (Obj.mapSeq (·++vs.toArray)) }) (hsz:vs.length<=sizeLine:=by size_fits):
 wpAny (model prog w) A (collect (.ref l)) Q E s:=by
 obtain⟨o,ho,hc,n,hd⟩:=id hl;unfold collect;refine wpAny_bind (wpAny_runValue (codeAny_builtin entry_proto_collect' ?_));show wpAny _ _ (do again (.builtin "list.__iadd__" ⟨[<- newList [],.ref l],[]⟩)) _ _ s;refine wpAny_bind (wpAny_newList (wpAny_pure ⟨Code.quiet_builtin _ (by decide +kernel),codeAny_builtin entry_list_iadd' ?_⟩));show wpAny _ _ (Builtin.List.listExtendWith (.ref s.heap.objs.size) (.ref l) (.ref s.heap.objs.size)) _ _ { s with heap:=s.heap.push (seqObj "list" #[] 0) };unfold Builtin.List.listExtendWith;have ho':(s.heap.push (seqObj "list" #[] 0)).get? l=some o:=Heap.get?_push_of_some _ ho;refine wpAny_bind (wpAny_typeOf (T:="tuple") ⟨o,ho',hc⟩ ?_);have ht:(Value.type "tuple"==Value.type "tuple")=true:=by rfl
 rw[if_pos (by rw[ht];simp)];refine wpAny_bind (listItems_at ho' hd ?_);refine wpAny_bind (listItems_at (xs:=#[]) (n:=0) (Heap.get?_push_size _ rfl) rfl ?_);rw[if_neg (by simp)];refine wpAny_bind (listUpdate_at (xs:=#[]) (n:=0) (Heap.get?_push_size _ rfl) rfl ?_ (zero_le _) (by show(#[]++vs.toArray).size<=sizeLine+1;simp only[Array.size_append,size_toArray,length_nil];omega));refine wpAny_pure ?_;show wpAny (model prog w) A (do
  let o <- load s.heap.objs.size
  match o.data with
  |.seq xs _=>pure xs.toList
  | _=>unsupported "internal:collect") Q E { s with heap:=(s.heap.push (seqObj "list" #[] 0)).update s.heap.objs.size (Obj.mapSeq (·++vs.toArray)) }
 refine wpAny_bind (wpAny_load (get?_update_seq (Heap.get?_push_size _ rfl) _) ?_);show wpAny _ _ (pure ((#[]:Array Value)++vs.toArray).toList) Q E _;rw[show((#[]:Array Value)++vs.toArray).toList=vs by simp];exact wpAny_pure h
def M9{l:Addr}{vs:List Value}{ns:List Int}{Q:Value->Shared->Prop}(hl:IsTup s.heap l vs.toArray)(hI:IntsAre vs ns)(h64:vs.length<64)
 (h:∀(out:Array Value) (ns':List Int),IntsAre out.toList ns'->ns'.Perm ns->ns'.Pairwise (·<=·)->Q (.ref (s.heap.objs.size+1)) { s with heap:=sortedAll s.heap vs out }):
 wpAny (model prog w) A (call (.builtin "sorted") [.ref l]) Q E s:=by
 refine Calls.call_function_entry kind_sorted plain_sorted entry_sorted (args_sorted1 _) ?_;unfold Builtin.«sorted»;refine wpAny_bind (m:=checkCount "sorted" 1 1 _) (wpAny_pure ?_);refine wpAny_bind (Ht hl ?_);refine wpAny_bind (wpAny_newList ?_);have hsz:((s.heap.push (seqObj "list" #[] 0)).update s.heap.objs.size (Obj.mapSeq (·++vs.toArray))).objs.size=s.heap.objs.size+1:=by
  rw[Heap.size_update,size_push']
 have hoL:(((s.heap.push (seqObj "list" #[] 0)).update s.heap.objs.size (Obj.mapSeq (·++vs.toArray))).push (seqObj "list" vs.toArray 0)).get? (s.heap.objs.size+1)=some (seqObj "list" vs.toArray 0):=by
  rw[<- hsz];exact Heap.get?_push_size _ rfl
 show wpAny _ _ _ _ _ { s with heap:=((s.heap.push (seqObj "list" #[] 0)).update s.heap.objs.size (Obj.mapSeq (·++vs.toArray))).push (seqObj "list" vs.toArray 0) };rw[hsz];refine wpAny_bind (wpAny_holding (wpAny_call_entry slot_list_sort ⟨_,hoL,rfl⟩ entry_list_sort (list_sort_tree hoL hI h64 λout ns' a1 a2 a3=>⟨_,rfl,?_⟩) (args_list_sort _)));exact wpAny_pure ⟨_,rfl,h out ns' a1 a2 a3⟩
end
section
variable(K:PySem.W.Frag){X:Cx}
def IL:List V->Hp->VK->Prop:=λxs H Q=>∃(a:Addr) (ns:List Int),xs=[.ref a]/\SqT K H a (ns.map V.int)/\ns.length<64/\∀(p:Addr) (ns':List Int),H p=none->ns'.Perm ns->ns'.Pairwise (·<=·)->Q (.ref p) (upd H p (.lst (ns'.map V.int)))
def NJ(hK:X.K=K:=by rfl):CallR X (.builtin "sorted") (IL K):=by
 subst hK;intro pins s σ H xs us Q I r h;obtain⟨a,ns,rfl,hq,h64,q⟩:=h;obtain⟨u,rfl,ru⟩:=BX r;cases ru;obtain⟨its,rv,p,hz⟩:=I.tuple hq;have hlen:=rv.length;rw[length_map]at hlen;refine M9 p (DB rv) (by omega) λout ns' a1 a2 a3=>?_;obtain⟨e,he⟩:=sortedAll_at s.heap its out;have hl':ns'.length=ns.length:=a2.length_eq;refine⟨.ref (s.heap.objs.size+1),_,I.laid (a:=s.heap.objs.size+1) (o:=.lst (ns'.map V.int)) (t':=s.toks) (λb o hb=>sortedAll_old hb) (le_succ _) ⟨?_,out.toList,e,Jx a1,he⟩,rfl,q _ _ (I.hok.fresh (le_succ _)) a2 a3⟩;rw[length_map,hl'];exact le_of_lt (GS (by omega))
end
section
variable{K:PySem.W.Frag}
def P3{t:TE}{m:MI}(h:RRw K true t m):RN K (tCB (IL K) (BH t BR)) (Bm m):=by
 and_intros;obtain⟨⟨⟨d1,g1⟩,h1⟩,e1,hm⟩:=fW hm;obtain⟨ns,e2,hm⟩:=fW hm;split at hm
 .next c=>
  cases hm;refine h ρ σ H hd ls _ d1 g1 _ hR hL e1 λρ1 H1 a x1 R1 G1 S1=>?_;obtain⟨xs,q,r⟩:=S1 ρ1 H1 _ .refl R1 G1;have e3:d1=ns.map λi=>.im (.int i):=C5 e2;rw[e3]at r;have:=EG r;subst this;refine⟨a,ns,rfl,q,c,λp ns' hp pm pw=>?_⟩;have:ns'=AW ns:=Cc (pm.trans (Bq ns).symm) pw (CT ns);subst this;obtain⟨R2,x2⟩:=R1.hid (ho:=.lst ((AW ns).map V.int)) hp;exact hQ ρ1 _ p _ (x1.trans R1 x2) R2 (x1.none hR hp R1) (R1.out hp) AI Dd
 .cases hm
def PJ(K:PySem.W.Frag){X:Cx}{e:Expr}{te:TE}{mi:MI}{p pos:Pos}(hm:X.mg "sorted"=none)(ha:QR K true X e te mi)(hg:Gl X "sorted":=by rfl)(he:starEach [e] X.env=[(false,eval e X.env)]:=by rfl)(hK:X.K=K:=by rfl):QN K X (.Call (.Name "sorted" p) [e] [] pos) (tCB (IL K) (BH te BR)) (Bm mi):=
 ⟨EW (NJ K hK) hg hm Ex (Bi ha.p Bw he) (by decide) (by decide) he rfl,P3 ha.r⟩
end
section
variable{K:PySem.W.Frag}{ρ ρ':List Addr}{H H':Hp}{hd hd':Hd}
open Classical in
abbrev Pm:D->D->Hd->Option (D×Hd):=fI λi j=>if Fk i j then some (.int (i*2^j.toNat))else none
def ZG:RB K (rI Q6 λi j=>.int (i*2^j.toNat)) Pm:=K5 λi j z h=>by
 split at h
 .next q=>cases h;exact⟨q,λ_=>by simp[RI]⟩
 .cases h
abbrev N5:D->D->Hd->Option (D×Hd):=fI λi j=>if 0<=j then some (.int (i/2^j.toNat))else none
def ZF:RB K (rI (λ_ j=>0<=j) λi j=>.int (i/2^j.toNat)) N5:=K5 λi j z h=>by
 split at h
 .next q=>cases h;exact⟨q,λ_=>by simp[RI]⟩
 .cases h
abbrev N6:D->D->Hd->Option (D×Hd):=fI λi j=>some (.int (Builtin.bitAnd i j))
def ZK:RB K (rI0 λi j=>.int (Builtin.bitAnd i j)) N6:=Fg λ_ _ _=>by simp[RI]
def N8:List D->Hd->Option (D×Hd)
 |[.im (.int i)],hd=>some (.im (.int i),hd)
 |[.im (.bl b)],hd=>some (.im (.int (if b then 1 else 0)),hd)
 |_,_=>none
def Z3:RF K (λxs H Q=>(∃i,xs=[.int i]/\Q (.int i) H)∨∃k,xs=[.bl k]/\Q (.int (if k then 1 else 0)) H) N8:=by
 intro ρ H hd ds vs Q z hd' hR h1 hf hQ;unfold N8 at hf;split at hf
 .cases hf;simp only[RDs,RD,RI]at h1;obtain⟨x,r,rfl,rfl,rfl⟩:=h1;exact .inl ⟨_,rfl,hQ ρ H _ .refl hR (by simp[RD,RI])⟩
 .cases hf;simp only[RDs,RD,RI]at h1;obtain⟨x,r,rfl,rfl,rfl⟩:=h1;exact .inr ⟨_,rfl,hQ ρ H _ .refl hR (by simp[RD,RI])⟩
 .cases hf
open Classical in
def Dg:D->List D->Hd->Option (D×Hd)
 |.mu n,[.mu m],hd=>match hd[n]?,hd[m]? with
  |some (.lst ds),some (.lst es)=>if BT (ds.length+es.length)then some (.im .non,hd.set n (.lst (ds++es)))else none
  |_,_=>none
 |_,_,_=>none
def Qn:RM K O6 Dg:=by
 intro ρ H hd d v ds vs Q z hd' hR h1 h2 hf hQ;unfold Dg at hf;split at hf
 .next n m=>
  split at hf
  .next es1 es2 q1 q2=>
   split at hf
   .next c=>
    cases hf;simp only[RD]at h1;obtain⟨a,hn,rfl⟩:=h1;simp only[RDs,RD]at h2;obtain⟨x,r,rfl,⟨b,hm,rfl⟩,rfl⟩:=h2;obtain⟨xs,f1,f2⟩:=hR.lst hn q1;obtain⟨ys,g1,g2⟩:=hR.lst hm q2;have l1:=f2.len;have l2:=g2.len;obtain⟨R2,x2⟩:=hR.put hn (o:=.lst (es1++es2)) (ho:=.lst (xs++ys)) ⟨_,rfl,f2.app g2⟩;exact⟨a,b,xs,ys,rfl,rfl,f1,g1,by rw[l1,l2];exact c,hQ ρ _ _ x2 R2 (by simp[RD,RI])⟩
   .cases hf
  .cases hf
 .cases hf
end
section
variable{hd:Hd}{QE:D->Hd->Prop}
def Q9{n m:Nat}{ds es:List D}(e1:hd[n]?=some (.lst ds))(e2:hd[m]?=some (.lst es))(c:BT (ds.length+es.length))(q:QE (.im .non) (hd.set n (.lst (ds++es)))):WP (Dg (.mu n) [.mu m] hd) QE:=⟨_,_,by simp only[Dg,e1,e2,c,if_true],q⟩
def YS{i j:Int}(c:Fk i j)(q:QE (.im (.int (i*2^j.toNat))) hd):WP (Pm (.im (.int i)) (.im (.int j)) hd) QE:=⟨_,_,by simp[c],q⟩
def YR{i j:Int}(c:0<=j)(q:QE (.im (.int (i/2^j.toNat))) hd):WP (N5 (.im (.int i)) (.im (.int j)) hd) QE:=⟨_,_,by simp[c],q⟩
def YV{i j:Int}(q:QE (.im (.int (Builtin.bitAnd i j))) hd):WP (N6 (.im (.int i)) (.im (.int j)) hd) QE:=⟨_,_,by simp,q⟩
end
end L2
namespace L2
open PySem PySem.Spec PyProof.Rows PySem.W
inductive KeysOk(h:Heap):List Value->List Int->Prop
 |kI {ks:List Value} {kz:List Int}:IntsAre ks kz->KeysOk h ks kz
 |kP {ks:List Value} {ps:List (Int×Int)}:ks.length=ps.length->(∀(i:Nat) (v:Value) (p:Int×Int),ks[i]?=some v->ps[i]?=some p->PairAt h v p)->(∀p∈ps,pok p)->KeysOk h ks (ps.map Ao)
def KeysOk.len{h:Heap}{ks:List Value}{kz:List Int}(K:KeysOk h ks kz):kz.length=ks.length:=by
 cases K with
 |kI i=>have:=i.length;omega
 |kP hl _ _=>simp[hl]
def Fv:∀{ks:List Value} {kz:List Int} {i:Nat},IntsAre ks kz->i<ks.length->∃t,ks.getD i .none=.int (kz.getD i 0) t
 |_,_,0,.cons ..,_=>⟨_,rfl⟩
 |_,_,i+1,.cons _ _ h,hi=>by
  obtain⟨t,e⟩:=Fv (i:=i) h (by simpa using hi);exact⟨t,by simpa using e⟩
section
variable{prog:Program}{w:World}{A:Around}{E:Value->Shared->Prop}{s:Shared}
def Ug{ks:List Value}{kz:List Int}(K:KeysOk s.heap ks kz)(h2:2<=ks.length){Q:SortKind->Shared->Prop}
 (h:∀κ,(∀(i j:Nat) (C:Bool->Shared->Prop),i<ks.length->j<ks.length->C (decide (kz.getD i 0<kz.getD j 0)) s->wpAny (model prog w) A (keyLt' κ (ks.getD i .none) (ks.getD j .none)) C (λ_ _=>False) s)->Q κ s):
 wpAny (model prog w) A (keyKind' ks.toArray) Q E s:=by
 cases K with
 |kI hk=>
  rw[ksk_kind (kz:=kz) (by simpa using hk) (by simpa using h2)];refine wpAny_pure (h _ λi j C hi hj hC=>?_);obtain⟨t,e1⟩:=Fv hk hi;obtain⟨u,e2⟩:=Fv hk hj;rw[e1,e2];exact kat_lt_int hC
 |@kP ps hl hp hok=>
  obtain⟨fs,t1,t2,t3⟩:=Jy hl hp;have tT:∀f∈fs,Looks (model prog w) s.heap (typeOf f) (Value.type "int"):=λf hf=>by
   obtain⟨i,t,rfl⟩:=t3 f hf;exact .of_pure rfl
  refine kat_kind t1 (by omega) tT rfl (h _ λi j C hi hj hC=>?_);have pi:ps[i]?=some (ps.getD i (0,0)):=by simp[show i<ps.length by omega]
  have pj:ps[j]?=some (ps.getD j (0,0)):=by simp[show j<ps.length by omega]
  have vi:ks[i]?=some (ks.getD i Value.none):=by simp[hi]
  have vj:ks[j]?=some (ks.getD j Value.none):=by simp[hj]
  have ei:(ps.map Ao).getD i 0=Ao (ps.getD i (0,0)):=by simp[show i<ps.length by omega]
  have ej:(ps.map Ao).getD j 0=Ao (ps.getD j (0,0)):=by simp[show j<ps.length by omega]
  rw[ei,ej]at hC;exact OD (hp i _ _ vi pi) (hp j _ _ vj pj) (hok _ (mem_of_getElem? pi)) (hok _ (mem_of_getElem? pj)) hC
def Xy{vs:List Value}{kz:List Int}(hl:kz.length=vs.length){p:Array Nat}(pa:PAr vs.length p)(hs:STo (λi=>kz.getD i 0) p vs.length):KskOut false kz vs (p.toList.map λi=>vs.getD i Value.none):=by
 have sz:=pa.size;refine⟨p.toList.map λi=>(kz.getD i 0,vs.getD i Value.none),?_,by rw[map_map];rfl,?_⟩
 .have e:kz.zip vs=(List.range vs.length).map λi=>(kz.getD i 0,vs.getD i Value.none):=by
   refine ext_getElem? λi=>?_;by_cases hi:i<vs.length
   .have hi2:i<kz.length:=by omega
    rw[(List.getElem?_zip_eq_some (z:=(kz[i],vs[i]))).mpr ⟨by simp[hi2],by simp[hi]⟩];simp[hi,hi2]
   .rw[List.getElem?_eq_none (by simp;omega),List.getElem?_eq_none (by simp;omega)]
  rw[e];have:=Array.perm_iff_toList_perm.mp pa;simpa using this.map _
 .rw[pairwise_map,List.pairwise_iff_getElem];intro i j hi hj hij;simp only[Array.length_toList]at hi hj;have:=hs i j (by omega) (by omega);unfold kv at this;simpa [Array.getD,hi,hj]using this
def Xz{a kS:Addr}{e e1:Nat}{ks vs:List Value}{kz:List Int}{P:PySem.Fin->Shared->Prop}(nk:s.heap.get? kS=some (seqObj "list" ks.toArray e))(na:s.heap.get? a=some (seqObj "list" #[] e1))(hka:kS≠a)(K:KeysOk s.heap ks kz)(hl:ks.length=vs.length)(h64:vs.length<64)
 (h:∀out:List Value,KskOut false kz vs out->P (.done (.ret .none)) { s with heap:=(s.heap.update kS (Obj.mapSeq λ_=>#[])).update a (Obj.mapSeq λ_=>out.toArray) }):
 wpAny (model prog w) A (ksk_end a false vs.toArray e1 (.ref kS) ks.toArray) P E s:=by
 have hz:kz.length=vs.length:=by have:=K.len;omega
 have s1:=Heap.SameBut.update s.heap kS (Obj.mapSeq λ_=>(#[]:Array Value));have na1:(s.heap.update kS (Obj.mapSeq λ_=>(#[]:Array Value))).get? a=some (seqObj "list" #[] e1):=(s1.2 a hka.symm).trans na;have tail:∀(st:SortSt) (out:List Value),(arrOf st).map (·.2)=out.toArray->out.length=vs.length->failedOf st=none->KskOut false kz vs out->wpAny (model prog w) A (ksk_tail a false e1 (.ref kS) st) P E s:=by
  intro st out ho hlo hf so;unfold ksk_tail;dsimp only;refine wpAny_bind (listUpdate_at nk rfl ?_ (by simp[sizeLine_eq];omega) (zero_le _));refine wpAny_bind (wpAny_letGo ?_);refine wpAny_bind (seqEpoch_at na1 rfl ?_);simp only[Bool.false_eq_true,if_false];rw[ho];refine wpAny_bind (listUpdate_at na1 rfl ?_ (zero_le _) (by rw[size_toArray,sizeLine_eq];omega));rw[hf];simp only[bne_self_eq_false,Bool.false_eq_true,if_false];exact wpAny_pure (h out so)
 unfold ksk_end;simp only[Bool.false_eq_true,if_false];by_cases h2:vs.toArray.size<2
 .rw[if_pos h2,if_pos h2];refine wpAny_bind (wpAny_pure ?_);rw[StateT.run_pure];refine wpAny_bind (wpAny_pure ?_);dsimp only;refine tail _ vs ?_ rfl rfl ⟨kz.zip vs,.refl _,?_,?_⟩
  .show(ks.toArray.zip vs.toArray).map (·.2)=vs.toArray;apply Array.toList_inj.mp;simp only[Array.toList_map,Array.toList_zip];exact map_snd_zip (by omega)
  .exact(map_snd_zip (by omega)).symm
  .have hzl:(kz.zip vs).length<2:=by simp at h2 ⊢;omega
   cases hh:kz.zip vs with
   |nil=>exact .nil
   |cons z r=>
    cases r with
    |nil=>exact List.pairwise_singleton _ _
    |cons y t=>rw[hh]at hzl;exact absurd hzl (by simp)
 .rw[if_neg h2,if_neg h2];have h2':2<=vs.length:=by simp at h2;omega
  refine wpAny_bind (Ug K (by omega) λκ cmp=>?_);have hsz:(ks.toArray.zip vs.toArray).size=vs.length:=by simp[hl]
  have it:∀i,i<vs.length->kas_item (ks.toArray.zip vs.toArray) i=(ks.getD i .none,vs.getD i .none):=λi hi=>by
   unfold kas_item;have h1:i<ks.length:=by omega
   have h3:i<(ks.toArray.zip vs.toArray).size:=by omega
   have e:(ks.toArray.zip vs.toArray).getD i (Value.none,Value.none)=(ks.toArray.zip vs.toArray)[i]:=by simp only[Array.getD,h3,dite_true];rfl
   have e2:(ks.toArray.zip vs.toArray)[i]=(ks[i],vs[i]):=by rw[Array.getElem_zip];simp
   rw[e,e2];simp[h1,hi]
  have est:SortSt.mk' κ (ks.toArray.zip vs.toArray) #[] 7 none=kas_st κ (ks.toArray.zip vs.toArray) (List.toArray (List.range vs.length)):=by
   unfold kas_st;rw[<- hsz,kas_range]
  have ask:(kas_sort vs.length).kasWp (kas_cmp prog w A κ (ks.toArray.zip vs.toArray)) (λp s'=>s'=s/\PAr vs.length p/\STo (λi=>kz.getD i 0) p vs.length) s:=by
   refine PWp.wp (n:=vs.length) (r:=λi=>kz.getD i 0) (P:=λs'=>s'=s) (λi j C s' hi hj e hC=>?_) ((Nt (by omega)).mono λp z s' e=>⟨e,z.1,z.2⟩) rfl;subst e;unfold kas_cmp;rw[it i hi,it j hj];exact cmp i j C (by omega) (by omega) (hC _ rfl)
  have run:=kas_runs (E:=E) (Q:=λ_ st' s'=>∃p:Array Nat,arrOf st'=p.map (kas_item (ks.toArray.zip vs.toArray))/\failedOf st'=none/\s'=s/\PAr vs.length p/\STo (λi=>kz.getD i 0) p vs.length) h2' h64 (λp st' s' x1 x2 x3 x4=>⟨p,x2,x3,x4⟩) ask;rw[<- est]at run;refine wpAny_bind (wpAny_mono run ?_ λ_ _ e=>e);rintro⟨⟨⟩,st'⟩ s' ⟨p,har,hf,rfl,pa,so⟩;dsimp only;refine tail st' (p.toList.map λi=>vs.getD i Value.none) ?_ ?_ hf (Xy hz pa so)
  .rw[har];apply Array.toList_inj.mp;simp only[Array.toList_map,map_map,List.toList_toArray];refine map_congr_left λi hi=>?_;have hi':i<vs.length:=by
    have:=(Array.perm_iff_toList_perm.mp pa).mem_iff.mp hi;simpa using this
   exact congrArg Prod.snd (it i hi')
  .simp[pa.size]
end
def HW(G:Hp->Prop)(tb:TE)(cap:St):List Int->Hp->(List V->Hp->Prop)->Prop
 |[],H,Q=>Q [] H
 |n::r,H,Q=>G H/\tb (some (.int n)::cap) H λk H1=>HW G tb cap r H1 λks H2=>Q (k::ks) H2
def Hf(K:PySem.W.Frag)(H:Hp)(ks:List V)(kz:List Int):Prop:=ks=kz.map V.int∨∃ps:List (Int×Int),kz=ps.map Ao/\(∀p∈ps,pok p)/\ks.length=ps.length/\∀(i:Nat) (k:V) (p:Int×Int),ks[i]?=some k->ps[i]?=some p->∃x,k=.ref x/\SqT K H x [.int p.1,.int p.2]
def Ip(kz ns ms:List Int):Prop:=∃zs:List (Int×Int),zs.Perm (kz.zip ns)/\zs.Pairwise (λa b=>a.1<=b.1)/\ms=zs.map (·.2)
def Di:Value->Int
 |.int n _=>n
 |_=>0
def My:∀{vs:List Value} {ns:List Int},IntsAre vs ns->vs.map Di=ns
 |_,_,.nil=>rfl
 |_,_,.cons _ _ h=>by rw[map_cons,My h];rfl
def Mz:∀{vs:List Value} {ns:List Int},IntsAre vs ns->∀v∈vs,∃t,v=.int (Di v) t
 |_,_,.nil,v,h=>by cases h
 |_,_,.cons _ _ h,v,hv=>by
  rcases mem_cons.mp hv with rfl|hv
  .exact⟨_,rfl⟩
  .exact Mz h v hv
def Et:∀{xs:List V} {vs:List Value} {ns:List Int},xs=ns.map V.int->Vals xs vs->IntsAre vs ns
 |_,_,[],e,h=>by subst e;cases h;exact .nil
 |_,_,n::r,e,h=>by
  subst e;cases h with
  |cons a b=>obtain⟨t,rfl⟩:=a;exact .cons n t (Et rfl b)
def Iw:∀{vs:List Value},(∀v∈vs,∃t,v=Value.int (Di v) t)->Vals ((vs.map Di).map V.int) vs
 |[],_=>.nil
 |v::r,h=>by
  refine .cons ?_ (Iw λw hw=>h w (mem_cons_of_mem _ hw));obtain⟨t,e⟩:=h v mem_cons_self;exact⟨t,e⟩
def cN{kz ns:List Int}{vs out:List Value}(hi:IntsAre vs ns)(so:KskOut false kz vs out):Ip kz ns (out.map Di)/\∀v∈out,∃t,v=Value.int (Di v) t:=by
 obtain⟨zs,pm,rfl,pw⟩:=so;refine⟨⟨zs.map λz=>(z.1,Di z.2),?_,?_,by rw[map_map,map_map];rfl⟩,?_⟩
 .have:=pm.map λz:Int×Value=>(z.1,Di z.2)
  have e:((kz.zip vs).map λz:Int×Value=>(z.1,Di z.2))=kz.zip ns:=by
   rw[<- My hi,List.zip_map_right];rfl
  rwa [e]at this
 .rw[pairwise_map];exact pw.imp λh=>by simpa using h
 .intro v hv;obtain⟨z,hz,rfl⟩:=mem_map.mp hv;have:=pm.mem_iff.mp hz;exact Mz hi _ (of_mem_zip this).2
section
variable{X:Cx}{pins:List (Addr×Obj)}{σ:St}{H:Hp}{s:Shared}{a:Addr}
def Inv.adopt{o:HO}(I:Inv X pins σ H s)(f:FpOk X pins H a)(h0:X.s₀.heap.objs.size<=a)(new:ObjOk X.prog X.w (upd H a o) s.heap a o):Inv X pins σ (upd H a o) s:=by
 obtain⟨hn,hL,hfs,_,hc,hp⟩:=f;have nb:∀b u,H b=some u->b≠a:=λb u e=>AV e hn;have n0:∀b o,X.s₀.heap.get? b=some o->b≠a:=λb o e=>ne_of_lt (lt_of_lt_of_le (Heap.lt_size e) h0);refine⟨I.ok,I.os,I.bare,⟨I.base.keep,I.base.slot,λb o e n hx=>?_,I.base.there,λb xs e=>?_,λb o u e=>?_,λb ps e=>?_⟩,I.loc,I.cell,?_,λx c e=>?_,λp hp'=>?_,λb u e=>?_,I.len⟩
 .rw[upd_ne (n0 b o e)];exact I.base.free b o e n hx
 .have:=I.base.tups b xs e;rw[upd_ne (nb b _ this)];exact this
 .have:=I.base.frzs b o u e;rw[upd_ne (nb b _ this)];exact this
 .obtain⟨m,e1⟩:=I.base.tbls b ps e;exact⟨m,by rw[upd_ne (nb b _ e1)];exact e1⟩
 .rw[upd_ne (λz=>hL z.symm)];exact I.free
 .rw[upd_ne (hc x c e)];exact I.freeC x c e
 .obtain⟨q1,q2,q3⟩:=I.pin p hp';exact⟨q1,by rw[upd_ne (hp p hp')];exact q2,q3⟩
 .by_cases z:b=a
  .subst z;rw[AI]at e;cases e;exact new
  .rw[upd_ne z]at e;exact(I.hok b u e).stay (λ_ _ _ q=>q) (λd q=>by rw[upd_ne (nb d _ q)];exact q) λd xs q=>by rw[upd_ne (nb d _ q)];exact q
def Xx(I:Inv X pins σ H s){ks:List V}{kz:List Int}{us:List Value}(k:Hf X.K H ks kz)(r:Vals ks us):KeysOk s.heap us kz:=by
 rcases k with rfl|⟨ps,rfl,hok,hl,hp⟩
 .exact .kI (Et rfl r)
 .refine .kP (by rw[<- r.length];exact hl) (λi v p e1 e2=>?_) hok;have hi:i<ks.length:=by rw[hl];exact(List.getElem?_eq_some_iff.mp e2).1
  have ek:ks[i]?=some ks[i]:=by simp[hi]
  obtain⟨x,ex,sq⟩:=hp i _ p ek e2;obtain⟨v',ev,rel⟩:=I0 r ek;rw[e1]at ev;cases ev;rw[ex]at rel;have rel:v=Value.ref x:=rel;subst rel;obtain⟨jts,rj,⟨o,ho,hc,n,hd⟩,_⟩:=I.tuple sq;cases rj with
  |cons r1 t1=>
   cases t1 with
   |cons r2 t2=>
    cases t2;obtain⟨t,rfl⟩:=r1;obtain⟨t',rfl⟩:=r2;exact⟨x,o,t,t',n,rfl,ho,hc,hd⟩
end
section
variable{X:Cx}{pins:List (Addr×Obj)}{σ:St}{H:Hp}{s:Shared}
def Inv.turn1{b:Addr}{o:Obj}{h':Heap}{t':Nat}(I:Inv X ((b,o)::pins) σ H s)(f:FpOk X pins H b)(hs:Heap.SameBut b s.heap h'):Inv X pins σ H { s with heap:=h',toks:=t' }:=by
 have J:Inv X pins σ H s:=I.pins_of λp hp=>I.pin p (mem_append_right _ (mem_cons_of_mem _ hp));obtain⟨hn,hL,_,h1,h2,h3⟩:=f;exact J.turned (λc u n e=>(hs.2 c n).trans e) hn hL h1 h2 h3
def FpOk.more{b c:Addr}{o:Obj}(f:FpOk X pins H b)(h:c≠b):FpOk X ((c,o)::pins) H b:=by
 obtain⟨a1,a2,a3,a4,a5,a6⟩:=f;refine⟨a1,a2,a3,a4,a5,λp hp=>?_⟩;rcases mem_append.mp hp with q|q
 .exact a6 p (mem_append_left _ q)
 .rcases mem_cons.mp q with rfl|q
  .exact h
  .exact a6 p (mem_append_right _ q)
def Inv.repin{b:Addr}{o:Obj}(I:Inv X pins σ H s)(f:FpOk X pins H b)(e:s.heap.get? b=some o)(hd:∀v,o.data≠.cell v):Inv X ((b,o)::pins) σ H s:=
 I.pins_of λp hp=>by
  rcases mem_cons.mp hp with rfl|hp
  .exact⟨e,f.1,f.2.1,f.2.2.1,hd⟩
  .exact I.pin p (mem_append_right _ hp)
def Ou{l:Value}{f:Addr}{ns:List Int}{G:Hp->Prop}{tb:TE}{cap:St}{Q:VK}{E:Value->Shared->Prop}(I:Inv X pins σ H s)(h64:ns.length<64)
 (hcol:∀(Q:List Value->Shared->Prop) (E:Value->Shared->Prop),(∀(g:Heap) (tk:Nat) (vs:List Value),(∀b o,s.heap.get? b=some o->g.get? b=some o)->IntsAre vs ns->Q vs { s with heap:=g,toks:=tk })->wpAny (model X.prog X.w) X.A.in1 (collect l) Q E s)
 (turn:∀(pins':List (Addr×Obj)) (H1:Hp) (s1:Shared) (n:Int) (u:Value) (Q1:VK),(∀p∈pins,p∈pins')->Inv X pins' σ H1 s1->RelV (.int n) u->G H1->tb (some (.int n)::cap) H1 Q1->wpAny (model X.prog X.w) X.A.in1.in1 (call (.ref f) [u]) (EP X pins' σ Q1) (λ_ _=>False) s1)
 (h:HW G tb cap ns H λks H3=>∃kz,Hf X.K H3 ks kz/\∀p ms,H3 p=none->Ip kz ns ms->Q (.ref p) (upd H3 p (.lst (ms.map V.int)))):
 wpAny (model X.prog X.w) X.A (call (.builtin "sorted") [l] [(Str.ofString "key",.ref f)]) (EP X pins σ Q) E s:=by
 refine call_function_entry_kw kind_sorted plain_sorted entry_sorted (ksk_s1 _ _) ?_;unfold Builtin.«sorted»;refine wpAny_bind (m:=checkCount "sorted" 1 1 _) (wpAny_pure ?_);refine wpAny_bind (hcol _ _ λg tk vs keep0 hi=>?_)
 replace I:Inv X pins σ H { s with heap:=g,toks:=tk }:=I.kept (t':=tk) keep0
 clear hcol;generalize { s with heap:=g,toks:=tk }=s at I ⊢;clear keep0 g tk;have line:vs.length<=sizeLine:=by have:=hi.length;rw[sizeLine_eq];omega
 have h64:vs.length<64:=by have:=hi.length;omega
 refine wpAny_bind (wpAny_newList ?_ line);show wpAny _ _ _ _ _ { s with heap:=s.heap.push (seqObj "list" vs.toArray 0) };have hoL:(s.heap.push (seqObj "list" vs.toArray 0)).get? s.heap.objs.size=some (seqObj "list" vs.toArray 0):=Heap.get?_push_size _ rfl;have keep1:∀b o,s.heap.get? b=some o->(s.heap.push (seqObj "list" vs.toArray 0)).get? b=some o:=λb o q=>Heap.get?_push_of_some _ q;have sz1:(s.heap.push (seqObj "list" vs.toArray 0)).objs.size=s.heap.objs.size+1:=by rw[size_push']
 generalize s.heap.push (seqObj "list" vs.toArray 0)=h1 at hoL keep1 sz1 ⊢;have fa:∀H',H' s.heap.objs.size=none->FpOk X pins H' s.heap.objs.size:=λH' hn=>I.fpOk (le_refl _) hn;have fk:∀H',H' (s.heap.objs.size+2)=none->FpOk X pins H' (s.heap.objs.size+2):=λH' hn=>I.fpOk (by omega) hn;refine wpAny_bind (wpAny_holding (wpAny_call_entry_kw slot_list_sort ⟨_,hoL,rfl⟩ entry_list_sort ?_ (ksk_l1 _ _)));show wpAny (model X.prog X.w) X.A.in1.in1 (Builtin.«list.sort» ⟨[.ref (s.heap.objs.size)],[(Str.ofString "key",.ref f)]⟩) _ _ _;rw[ksk_t1];have u1:=Heap.SameBut.update h1 (s.heap.objs.size) (Obj.mapSeq λ_=>(#[]:Array Value));obtain⟨e1,ho1⟩:∃e1,(h1.update (s.heap.objs.size) (Obj.mapSeq λ_=>(#[]:Array Value))).get? (s.heap.objs.size)=some (seqObj "list" #[] e1):=⟨_,get?_update_seq hoL λ_=>#[]⟩
 have sz2:(h1.update (s.heap.objs.size) (Obj.mapSeq λ_=>(#[]:Array Value))).objs.size=s.heap.objs.size+1:=by rw[Heap.size_update,sz1]
 have keep2:∀b o,s.heap.get? b=some o->(h1.update (s.heap.objs.size) (Obj.mapSeq λ_=>(#[]:Array Value))).get? b=some o:=λb o q=>(u1.2 b (ne_of_lt (Heap.lt_size q))).trans (keep1 b o q);unfold ksk_tree;refine wpAny_bind (listItems_at hoL rfl ?_);refine wpAny_bind (listUpdate_at hoL rfl ?_ (by rw[size_toArray,sizeLine_eq];omega) (zero_le _));refine wpAny_bind (seqEpoch_at ho1 rfl ?_);generalize h1.update (s.heap.objs.size) (Obj.mapSeq λ_=>(#[]:Array Value))=h2 at ho1 sz2 keep2 ⊢;refine wpAny_bind (wpAny_newTuple ?_ (by show vs.length<=_;exact line));refine wpAny_bind (wpAny_newList ?_ (zero_le _));have sz3:(h2.push (seqObj "tuple" vs.toArray 0)).objs.size=s.heap.objs.size+2:=by rw[size_push',sz2]
 have okS:((h2.push (seqObj "tuple" vs.toArray 0)).push (seqObj "list" #[] 0)).get? (s.heap.objs.size+2)=some (seqObj "list" #[] 0):=by rw[<- sz3];exact Heap.get?_push_size _ rfl
 have oa4:((h2.push (seqObj "tuple" vs.toArray 0)).push (seqObj "list" #[] 0)).get? (s.heap.objs.size)=some (seqObj "list" #[] e1):=Heap.get?_push_of_some _ (Heap.get?_push_of_some _ ho1);have keep4:∀b o,s.heap.get? b=some o->((h2.push (seqObj "tuple" vs.toArray 0)).push (seqObj "list" #[] 0)).get? b=some o:=λb o q=>Heap.get?_push_of_some _ (Heap.get?_push_of_some _ (keep2 b o q));have ekS:∀o:Obj,Value.ref ((({ s with heap:=h2.push o }:Shared)).heap.objs.size)=Value.ref (h2.push o).objs.size:=λ_=>rfl;refine wpAny_holding ?_;have goal:∀kS:Addr,kS=s.heap.objs.size+2->wpAny (model X.prog X.w) X.A.in1.in1 (ksk_rest (s.heap.objs.size) (.ref f) false vs.toArray e1 (.ref kS)) (λfin s'=>∃v,fin=PySem.Fin.done (.ret v)/\wpAny (model X.prog X.w) X.A.in1 (ret (.ref (s.heap.objs.size))) (λfin s'=>∃v,fin=PySem.Fin.done (.ret v)/\EP X pins σ Q v s') E s') E { s with heap:=(h2.push (seqObj "tuple" vs.toArray 0)).push (seqObj "list" #[] 0) }:=by
  intro kS ek;rw[ek];have fresh0:H (s.heap.objs.size)=none/\H (s.heap.objs.size+2)=none:=⟨I.hok.fresh (by omega),I.hok.fresh (by omega)⟩
  have I4:Inv X pins σ H { s with heap:=(h2.push (seqObj "tuple" vs.toArray 0)).push (seqObj "list" #[] 0) }:=I.kept (t':=s.toks) keep4;have nak:s.heap.objs.size≠s.heap.objs.size+2:=by omega
  have I5:=(I4.repin (fk H fresh0.2) okS (λv z=>by cases z)).repin ((fa H fresh0.1).more nak.symm) oa4 (λv z=>by cases z);unfold ksk_rest;refine wpAny_bind (wpAny_rule ?_)
  first
   |rw[List.forIn_toArray]
   |(rw[<- Array.forIn_toList];simp only[List.toList_toArray])
   |rw[<- Array.forIn_toList]
  refine wpAny_bind (ksk_fold (λi s'=>∃(H':Hp) (kA:Array Value) (e:Nat) (ks:List V),Inv X ((s.heap.objs.size,seqObj "list" #[] e1)::(s.heap.objs.size+2,seqObj "list" kA e)::pins) σ H' s'/\Vals ks kA.toList/\kA.size=i /\
   HW G tb cap (ns.drop i) H' λks' H3=>∃kz,Hf X.K H3 (ks++ks') kz/\∀p ms,H3 p=none->Ip kz ns ms->Q (.ref p) (upd H3 p (.lst (ms.map V.int)))) vs 0 _ ⟨H,#[],0,[],I5,.nil,rfl,h⟩ ?step ?done)
  case step=>
   rintro j x s' hx ⟨H',kA,e,ks,J,rk,hsz,hgo⟩;simp only[zero_add]at hsz hgo ⊢;have hj:j<vs.length:=(List.getElem?_eq_some_iff.mp hx).1;have hjn:j<ns.length:=by have:=hi.length;omega
   have enx:ns[j]?=some ns[j]:=by simp[hjn]
   have edr:ns.drop j=ns[j]::ns.drop (j+1):=drop_eq_getElem_cons hjn;rw[edr]at hgo;obtain⟨hG,hgo⟩:=hgo;have rx:RelV (.int ns[j]) x:=by
    obtain⟨t,et⟩:=Fv hi hj;have:vs.getD j .none=x:=by simp[List.getD,hx]
    rw[this]at et;have:ns.getD j 0=ns[j]:=by simp[hjn]
    rw[this]at et;exact⟨t,et⟩
   refine wpAny_bind (wpAny_attempt (wpAny_mono (turn _ H' s' ns[j] x _ (λp hp=>mem_cons_of_mem _ (mem_cons_of_mem _ hp)) J rx hG hgo) (λv s'' he=>?_) λ_ _ hF=>hF.elim));obtain⟨k,H2,J2,r2,hgo2⟩:=he;dsimp only;have pk:=J2.pin (s.heap.objs.size+2,seqObj "list" kA e) (mem_append_right _ (mem_cons_of_mem _ mem_cons_self));have pa:=J2.pin (s.heap.objs.size,seqObj "list" #[] e1) (mem_append_right _ mem_cons_self);have u2:=Heap.SameBut.update s''.heap (s.heap.objs.size+2) (Obj.mapSeq (·.push v));obtain⟨c2,hc2⟩:∃c2,(s''.heap.update (s.heap.objs.size+2) (Obj.mapSeq (·.push v))).get? (s.heap.objs.size+2)=some (seqObj "list" (kA.push v) c2):=⟨_,get?_update_seq pk.1 (·.push v)⟩
   refine wpAny_bind (listUpdate_at pk.1 rfl ?_ (by rw[sizeLine_eq];omega) (le_trans (Nat.le_of_eq (Array.size_push ..)) (by rw[sizeLine_eq];omega)));have J3:Inv X ((s.heap.objs.size+2,seqObj "list" kA e)::pins) σ H2 s'':=J2.pins_of λp hp=>J2.pin p (mem_append_right _ (mem_cons_of_mem _ hp));have J4:Inv X pins σ H2 { s'' with heap:=s''.heap.update (s.heap.objs.size+2) (Obj.mapSeq (·.push v)) }:=J3.turn1 (t':=s''.toks) (fk H2 pk.2.1) u2;have oa:(s''.heap.update (s.heap.objs.size+2) (Obj.mapSeq (·.push v))).get? (s.heap.objs.size)=some (seqObj "list" #[] e1):=(u2.2 _ nak).trans pa.1;have J5:=(J4.repin (fk H2 pk.2.1) hc2 (λv z=>by cases z)).repin ((fa H2 pa.2.1).more nak.symm) oa (λv z=>by cases z);refine wpAny_pure ⟨rfl,H2,kA.push v,c2,ks++[k],J5,?_,by simp[hsz],?_⟩
   .rw[Array.toList_push];exact rk.append (.cons r2 .nil)
   .simpa [append_assoc]using hgo2
  case done=>
   rintro s' ⟨H',kA,e,ks,J,rk,hsz,hgo⟩;have hdr:ns.drop (0+vs.length)=[]:=List.drop_of_length_le (by have:=hi.length;omega);rw[hdr]at hgo;obtain⟨kz,kv,fin⟩:∃kz,Hf X.K H' (ks++[]) kz/\∀p ms,H' p=none->Ip kz ns ms->Q (.ref p) (upd H' p (.lst (ms.map V.int))):=hgo;rw[append_nil]at kv;have pk:=J.pin (s.heap.objs.size+2,seqObj "list" kA e) (mem_append_right _ (mem_cons_of_mem _ mem_cons_self));have pa:=J.pin (s.heap.objs.size,seqObj "list" #[] e1) (mem_append_right _ mem_cons_self);refine wpAny_bind (listItems_at pk.1 rfl ?_);have ekA:kA=kA.toList.toArray:=by simp
   rw[ekA]at pk ⊢;have lk:kA.toList.length=vs.length:=by rw[Array.length_toList];omega
   refine Xz pk.1 pa.1 nak.symm (Xx J kv rk) lk h64 λout so=>⟨_,rfl,wpAny_pure ⟨_,rfl,?_⟩⟩
   obtain⟨on,oi⟩:=cN hi so;have u5:=Heap.SameBut.update s'.heap (s.heap.objs.size+2) (Obj.mapSeq λ_=>(#[]:Array Value));have oa:(s'.heap.update (s.heap.objs.size+2) (Obj.mapSeq λ_=>(#[]:Array Value))).get? (s.heap.objs.size)=some (seqObj "list" #[] e1):=(u5.2 _ nak).trans pa.1;have u6:=Heap.SameBut.update (s'.heap.update (s.heap.objs.size+2) (Obj.mapSeq λ_=>(#[]:Array Value))) (s.heap.objs.size) (Obj.mapSeq λ_=>out.toArray);obtain⟨c6,hc6⟩:∃c6,((s'.heap.update (s.heap.objs.size+2) (Obj.mapSeq λ_=>(#[]:Array Value))).update (s.heap.objs.size) (Obj.mapSeq λ_=>out.toArray)).get? (s.heap.objs.size)=some (seqObj "list" out.toArray c6):=⟨_,get?_update_seq oa λ_=>out.toArray⟩
   have J3:Inv X ((s.heap.objs.size+2,seqObj "list" kA e)::pins) σ H' s':=J.pins_of λp hp=>J.pin p (mem_append_right _ (mem_cons_of_mem _ hp));have J4:Inv X pins σ H' { s' with heap:=s'.heap.update (s.heap.objs.size+2) (Obj.mapSeq λ_=>(#[]:Array Value)) }:=J3.turn1 (t':=s'.toks) (fk H' pk.2.1) u5;have J5:Inv X pins σ H' { s' with heap:=(s'.heap.update (s.heap.objs.size+2) (Obj.mapSeq λ_=>(#[]:Array Value))).update (s.heap.objs.size) (Obj.mapSeq λ_=>out.toArray) }:=(J4.repin (fa H' pa.2.1) oa (λv z=>by cases z)).turn1 (t':=s'.toks) (fa H' pa.2.1) u6;have lo:out.length<64:=by
    obtain⟨zs,pm,rfl,_⟩:=so;have:=pm.length_eq;simp at this ⊢;omega
   have J6:=J5.adopt (o:=.lst ((out.map Di).map V.int)) (fa H' pa.2.1) (I.sz) ⟨by simp[sizeLine_eq];omega,out,c6,Iw oi,hc6⟩;exact⟨.ref _,_,J6,rfl,fin _ _ pa.2.1 on⟩
 exact goal _ sz3
end
def Src(K:PySem.W.Frag)(H:Hp)(a:Addr)(ns:List Int):Prop:=SqT K H a (ns.map V.int)∨∃n:Nat,n<64/\H a=some (.rng 0 n)/\ns=(List.range n).map λk:Nat=>(k:Int)
def Ix(K:PySem.W.Frag)(P:Addr)(q:Str)(pos:Pos)(ix:List Nat)(te tb:TE):TE:=λσ H Q=>te σ H λv H1=>∃(a:Addr) (ns:List Int) (ps:Array Value),v=.ref a/\Src K H1 a ns/\ns.length<64/\H1 P=some (.tbl ps)/\DU H1 q pos ps /\
 ∀H2 c,TabStep P q pos H1 H2->H2 c=some (.ext (cdF c q))->HW (λH=>H c=some (.ext (cdF c q))) tb (ix.map λi=>(σ[i]?).join) ns H2 λks H3=>∃kz,Hf K H3 ks kz/\∀p ms,H3 p=none->Ip kz ns ms->Q (.ref p) (upd H3 p (.lst (ms.map V.int)))
def TabStep.rd{P:Addr}{q:Str}{pos:Pos}{H H':Hp}{ps:Array Value}(t:TabStep P q pos H H')(hP:H P=some (.tbl ps)){a:Addr}{xs:List V}(r:Rd H a (.tup xs)):Rd H' a (.tup xs):=by
 rcases t with rfl|⟨c,hc,_,rfl⟩
 .exact r
 .have ne:∀u,H a=some u->(∀ps,u≠.tbl ps)->upd (upd H P (.tbl #[rawInt pos.line,rawInt pos.col,.ref c])) c (.ext (cdF c q)) a=some u:=λu e n=>by
   rw[upd_ne (AV e hc),upd_ne (λz=>by subst z;rw[hP]at e;cases e;exact n _ rfl)];exact e
  rcases r with r|⟨o,r⟩
  .exact .inl (ne _ r λps z=>by cases z)
  .exact .inr ⟨o,ne _ r λps z=>by cases z⟩
def TabStep.sqt{K:PySem.W.Frag}{P:Addr}{q:Str}{pos:Pos}{H H':Hp}{ps:Array Value}(t:TabStep P q pos H H')(hP:H P=some (.tbl ps)){a:Addr}{xs:List V}(r:SqT K H a xs):SqT K H' a xs:=by
 rcases r with r|r
 .exact .inl (t.rd hP r)
 .exact .inr r
def TabStep.src{K:PySem.W.Frag}{P:Addr}{q:Str}{pos:Pos}{H H':Hp}{ps:Array Value}(t:TabStep P q pos H H')(hP:H P=some (.tbl ps)){a:Addr}{ns:List Int}(r:Src K H a ns):Src K H' a ns:=by
 rcases r with r|⟨n,h,e,z⟩
 .exact .inl (t.sqt hP r)
 .refine .inr ⟨n,h,?_,z⟩;rcases t with rfl|⟨c,hc,_,rfl⟩
  .exact e
  .rw[upd_ne (AV e hc),upd_ne (λz=>by subst z;rw[hP]at e;cases e)];exact e
def Ph{n:Nat}{acc:Array Value}(it:ItemsOf (λi v=>∃t,v=.int (0+i*1) t) acc n):IntsAre acc.toList ((List.range n).map λk:Nat=>(k:Int)):=by
 have:=Fu (lo:=0) it;have e:BI 0 n=((List.range n).map λk:Nat=>(k:Int)).map V.int:=by
  have:∀(lo:Nat) (n:Nat),BI (lo:Int) n=((List.range' lo n).map λk:Nat=>(k:Int)).map V.int:=by
   intro lo n
   induction n generalizing lo with
   |zero=>rfl
   |succ n ih=>rw[BI,List.range'_succ];simp only[map_cons];rw[<- ih (lo+1)];rfl
  rw[List.range_eq_range'];exact this 0 n
 rw[e]at this;exact Et rfl this
section
variable{X:Cx}{c P:Addr}{scope:Scope}{fr:List Str}{ix:List Nat}{prm:Str}{params:Arguments}{body e:Expr}{p pos lpos kpos:Pos}{te tb:TE}
def UE(LA:LamAt X c P)(S:CSc X scope fr ix)(L:LSc scope prm)(hr:Room 3 X.A)(hcm:X.calm=true)(hg:Gl X "sorted")(hm:X.mg "sorted"=none)
 (hbind:∀(cl:List (Str×Addr)) (pm cd ctv us:Value),bindArgs (kla_fn "<lambda>" (X.env.qual++"<lambda>") params body scope cl pm cd ctv) ⟨[us],[]⟩=pure [(prm,us)])
 (he:PE X e te) (hb:∀(f:Addr) (cd:Value) (s:Shared) (H:Hp),PE (lCx X X.A.in1.in1 (prm::fr) (X.env.qual++"<lambda>") scope f cd (AU X.env.cells scope.names []) s H) body tb)
 (hdef:defaultsOf params X.env=([],[]):=by rfl) (hs:starEach [e] X.env=[(false,eval e X.env)]:=by rfl):
 PE X (.Call (.Name "sorted" p) [e] [⟨some "key",.Lambda params body scope lpos,kpos⟩] pos) (Ix X.K P (X.env.qual++"<lambda>") lpos ix te tb):=by
 intro pins s σ H Q I h;have PAe:PA X [e] (BH te BR):=Bi he Bw hs;refine wpAny_Call_Name_kw (DL (u:=.builtin "sorted") I hg hm Ex ?_);have pl:(backTo pos (starEach [e] X.env)).any (·.1)=false:=by rw[hs];rfl
 refine callWith_builtin_kwB pl rfl (evalArgs_kw2 (env:=X.env) (e:=e) (rest:=[]) (kws:=[⟨some "key",.Lambda params body scope lpos,kpos⟩]) rfl (thn (PAe pos pins s σ H (λvs H1=>match vs with
  |[v]=>∃(a:Addr) (ns:List Int) (ps:Array Value),v=.ref a/\Src X.K H1 a ns/\ns.length<64/\H1 P=some (.tbl ps)/\DU H1 (X.env.qual++"<lambda>") lpos ps /\
   ∀H2 c,TabStep P (X.env.qual++"<lambda>") lpos H1 H2->H2 c=some (.ext (cdF c (X.env.qual++"<lambda>")))->HW (λH=>H c=some (.ext (cdF c (X.env.qual++"<lambda>")))) tb (ix.map λi=>(σ[i]?).join) ns H2 λks H3=>∃kz,Hf X.K H3 ks kz/\∀p ms,H3 p=none->Ip kz ns ms->Q (.ref p) (upd H3 p (.lst (ms.map V.int)))
  | _=>False) I h) λus s1 hq=>?_) hs)
 obtain⟨vs,H1,I1,r,q⟩:=hq
 match vs,q with
 |[v],q=>
 obtain⟨a,ns,ps,rfl,sq,h64,hP,hg1,go⟩:=q;obtain⟨u,rfl,ru⟩:=BX r;cases ru;show wpAny _ _ (evalAll [(do let v <- eval (.Lambda params body scope lpos) X.env;standAt pos;pure v)]) _ _ s1;refine wpAny_evalAll_cons (wpAny_bind (IY S LA I1 hdef hP hg1 λf cd ctv H2 s2 I2 M=>wpAny_bind (wpAny_standAt (wpAny_pure (wpAny_evalAll_nil ?_)))));show wpAny _ _ (call (.builtin "sorted") [.ref a] [(Str.ofString "key",.ref f)]) _ _ s2;have sq2:=M.step.src hP sq;obtain⟨c',rfl,hc'⟩:=M.cdc;have ff:FpOk X pins H2 f:=I1.fpOk M.new M.fre;have I3:=I2.repin ff M.fn (λv z=>by cases z);refine wpAny_mono (Ou (pins:=(f,_)::pins) I3 h64 (λQ E hq=>?_) (λpins' H' s' n u Q1 sub J ru hG hq=>?_) (go H2 c' M.step hc')) (λv s' hv=>?_) λ_ _ z=>z
 .rcases sq2 with sq2|⟨n,hn,er,rfl⟩
  .obtain⟨its,rv,tp,_⟩:=I2.tuple sq2;have hi:IntsAre its ns:=Et rfl rv;have hlen:its.length<=sizeLine:=by have:=hi.length;rw[sizeLine_eq];omega
   refine Ht tp (hq _ s2.toks its (λb o q=>?_) hi) hlen;have hlt:b<s2.heap.objs.size:=Heap.lt_size q;rw[Heap.get?_update_ne _ _ _ _ (ne_of_lt hlt),Heap.get?_push_ne _ _ _ (ne_of_lt hlt)];exact q
  .obtain⟨t,u,v,hr'⟩:∃t u v,s2.heap.get? a=some { cls:=.type "range",data:=.fields #[.int 0 t,.int n u,.int 1 v] }:=I2.hok a _ er;refine Ho (n:=n) (I2.ok.hd hcm) hr' (small_one (by omega) (by omega) (by omega) (by omega)) (by rw[P1];omega) (by omega) λg tk acc kp it=>hq g tk _ kp (Ph it)
 .have pf:=J.pin (f,_) (mem_append_right _ (sub _ mem_cons_self));exact IZ (A:=X.A.in1.in1) (f:=f) S L J rfl hr.in1.in1 pf.1 (J.hok c' _ hG).1 (λus=>hbind _ _ _ _ us) (λs H=>hb f _ s H) ru hq
 .obtain⟨y,H',J,ry,qy⟩:=hv;exact⟨y,H',J.pins_of λp hp=>J.pin p (mem_append_right _ (mem_cons_of_mem _ hp)),ry,qy⟩
end
def Ey(K:PySem.W.Frag)(P:Addr)(q:Str)(pos:Pos):Prop:=∃p':Pos,(P,q,p')∈CS K/\((CS K).map (·.1)).Nodup/\p'.line=pos.line/\p'.col=pos.col
open Classical in
def Dz(ds:List D):Option (List Int):=match Ax ds with
 |some ns=>some ns
 |none=>match Cq ds with
  |some ps=>if ∀p∈ps,pok p then some (ps.map Ao)else none
  |none=>none
open Classical in
def EC(mb:ME)(cap:Ls)(hd:Hd):List Int->Option (List D)
 |[]=>some []
 |n::r=>match mb (some (.im (.int n))::cap) hd with
  |some (k,h)=>match EC mb cap hd r with
   |some ks=>if h=hd then some (k::ks)else none
   |none=>none
  |none=>none
def Ku{mb:ME}{cap:Ls}{hd:Hd}:∀{ns:List Int} {ks:List D},EC mb cap hd ns=some ks->ks.length=ns.length
 |[],ks,e=>by cases e;rfl
 |n::r,ks,e=>by
  unfold EC at e;split at e
  .split at e
   .next ks' e2=>
    split at e
    .cases e;simp[Ku e2]
    .cases e
   .cases e
  .cases e
def Pe{ds:List D}{kz:List Int}(e:Dz ds=some kz):kz.length=ds.length:=by
 unfold Dz at e;split at e
 .next ns e6=>cases e;rw[C5 e6];simp
 .split at e
  .next ps e6=>
   split at e
   .cases e;rw[GY e6];simp
   .cases e
  .cases e
def Ej(kz ns:List Int):List Int:=((kz.zip ns).mergeSort λa b=>decide (a.1<=b.1)).map (·.2)
def UM{kz ns ms:List Int}(nd:kz.Nodup)(hl:kz.length=ns.length)(o:Ip kz ns ms):ms=Ej kz ns:=by
 obtain⟨zs,pm,pw,rfl⟩:=o;have pm2:((kz.zip ns).mergeSort λa b=>decide (a.1<=b.1)).Perm (kz.zip ns):=List.mergeSort_perm ..;have pw2:((kz.zip ns).mergeSort λa b=>decide (a.1<=b.1)).Pairwise λa b=>a.1<=b.1:=by
  have:=List.pairwise_mergeSort (le:=λa b:Int×Int=>decide (a.1<=b.1)) (by intro a b c h1 h2;simp at *;omega) (by intro a b;simp;omega) (kz.zip ns);exact this.imp (by simp)
 have inj:∀a∈kz.zip ns,∀b∈kz.zip ns,a.1=b.1->a=b:=by
  intro a ha b hb e;obtain⟨i,hi⟩:=mem_iff_getElem?.mp ha;obtain⟨j,hj⟩:=mem_iff_getElem?.mp hb;obtain⟨i1,i2⟩:=List.getElem?_zip_eq_some.mp hi;obtain⟨j1,j2⟩:=List.getElem?_zip_eq_some.mp hj;rw[e]at i1;have:i=j:=(List.getElem?_inj (List.getElem?_eq_some_iff.mp i1).1 nd).mp (i1.trans j1.symm);subst this;rw[i2]at j2;exact Prod.ext e (Option.some.inj j2)
 have:zs=(kz.zip ns).mergeSort λa b=>decide (a.1<=b.1):=
  (pm.trans pm2.symm).eq_of_pairwise (le:=λa b=>a.1<=b.1) (λa b ha hb h1 h2=>inj a (pm.mem_iff.mp ha) b (pm2.mem_iff.mp hb) (Int.le_antisymm h1 h2)) pw pw2
 rw[this];rfl
def Lf(mi:ME):Ls->Hd->Option (List Int×Hd):=λls hd=>(mi ls hd).bind λp=>(AX p.1).bind λds=>(Ax ds).bind λns=>some (ns,p.2)
open Classical in
def Dx(src:Ls->Hd->Option (List Int×Hd))(ix:List Nat)(mb:ME):MA:=λls hd=>(src ls hd).bind λp=>(EC mb (ix.map λi=>(ls[i]?).join) p.2 p.1).bind λks=>(Dz ks).bind λkz=>
 if p.1.length<64/\kz.Nodup then some ((Ej kz p.1).map λi=>.im (.int i),p.2)else none
abbrev Rp(mi:ME)(ix:List Nat)(mb:ME):MA:=Dx (Lf mi) ix mb
def V7(K:PySem.W.Frag)(te:TE)(src:Ls->Hd->Option (List Int×Hd)):Prop:=∀(ρ:List Addr) (σ:St) (H:Hp) (hd:Hd) (ls:Ls) (Q:VK) (ns:List Int) (hd':Hd),RH K ρ H hd->RL K ρ H ls σ->src ls hd=some (ns,hd') ->
 (∀ρ1 H1 a,Ext ρ H ρ1 H1->RH K ρ1 H1 hd'->Src K H1 a ns->Q (.ref a) H1)->te σ H Q
section
variable{K:PySem.W.Frag}{ρ:List Addr}{H:Hp}{hd:Hd}
def IC{P:Addr}{q:Str}{pos:Pos}{H2:Hp}{ps:Array Value}(R:RH K ρ H hd)(hP:H P=some (.tbl ps))(t:TabStep P q pos H H2)(TI:Ey K P q pos):RH K ρ H2 hd/\Ext ρ H ρ H2:=by
 rcases t with rfl|⟨c,hc,ncP,rfl⟩
 .exact⟨R,.refl⟩
 .obtain⟨p',et,nd,e1,e2⟩:=TI;have nP:∀b,b∈ρ->b≠P:=λb hb z=>by
   subst z;rcases R.mut hb with⟨y,w⟩|⟨y,w⟩<;>(rw[hP]at w;cases w)
  have nc:∀b u,H b=some u->b≠c:=λb u e=>AV e hc;have ex:Ext ρ H ρ (upd (upd H P (.tbl #[rawInt pos.line,rawInt pos.col,.ref c])) c (.ext (cdF c q))):=by
   refine⟨⟨[],by simp,by simp⟩,λb o e nb nt'=>?_,λb ps e=>?_⟩
   .rw[upd_ne (nc b _ e),upd_ne (λz=>by subst z;rw[hP]at e;cases e;exact nt' _ rfl)];exact e
   .by_cases z:b=P
    .subst z;exact⟨_,by rw[upd_ne (nc _ _ hP),AI]⟩
    .exact⟨ps,by rw[upd_ne (nc b _ e),upd_ne z];exact e⟩
  refine⟨⟨R.len,R.nd,λx hx=>?_,λn o a h1 h2=>?_⟩,ex⟩
  .by_cases hxP:x.1=P
   .have ex:x=(P,q,p'):=by
     obtain⟨i,hi⟩:=mem_iff_getElem?.mp hx;obtain⟨j,hj⟩:=mem_iff_getElem?.mp et;have i1:((CS K).map (·.1))[i]?=some P:=by rw[List.getElem?_map,hi];simp[hxP]
     have j1:((CS K).map (·.1))[j]?=some P:=by rw[List.getElem?_map,hj];rfl
     have:i=j:=(List.getElem?_inj (List.getElem?_eq_some_iff.mp i1).1 nd).mp (i1.trans j1.symm);subst this;exact Option.some.inj (hi.symm.trans hj)
    subst ex;refine⟨#[rawInt pos.line,rawInt pos.col,.ref c],by rw[upd_ne (nc _ _ hP),AI],.inr ⟨c,?_,AI⟩⟩;show #[rawInt pos.line,rawInt pos.col,Value.ref c]=#[rawInt p'.line,rawInt p'.col,Value.ref c];rw[e1,e2]
   .obtain⟨ps',hx1,hG⟩:=R.tabs x hx;refine⟨ps',by rw[upd_ne (nc _ _ hx1),upd_ne hxP];exact hx1,?_⟩;rcases hG with g|⟨c',g1,g2⟩
    .exact .inl g
    .exact .inr ⟨c',g1,by rw[upd_ne (nc _ _ g2),upd_ne (λz=>by subst z;rw[hP]at g2;cases g2)];exact g2⟩
  .obtain⟨ho,q1,q2⟩:=R.ob n o a h1 h2;exact⟨ho,by rw[upd_ne (nc a _ q1),upd_ne (nP a (mem_of_getElem? h2))];exact q1,by simpa using q2.mono (ex.grow R) []⟩
def OG{tb:TE}{mb:ME}{ix:List Nat}{q:Str}{c:Addr}(hb:RE K tb mb){ls:Ls}{σ:St}:∀{ns:List Int} {kds:List D} {ρ:List Addr} {H:Hp} {Q:List V->Hp->Prop},RH K ρ H hd->RL K ρ H ls σ->H c=some (.ext (cdF c q)) ->
 EC mb (ix.map λi=>(ls[i]?).join) hd ns=some kds->(∀ρ' H' ks,Ext ρ H ρ' H'->RH K ρ' H' hd->RDs K ρ' H' kds ks->Q ks H')->HW (λH=>H c=some (.ext (cdF c q))) tb (ix.map λi=>(σ[i]?).join) ns H Q
 |[],kds,ρ,H,Q,R,L,hc,e,k=>by
  cases e;exact k ρ H [] .refl R (by simp[RDs])
 |n::r,kds,ρ,H,Q,R,L,hc,e,k=>by
  unfold EC at e;split at e
  .next kd h e1=>
   split at e
   .next ks e2=>
    split at e
    .next eh=>
     cases e;rw[eh]at e1;refine⟨hc,hb ρ _ H _ (some (.im (.int n))::ix.map λi=>(ls[i]?).join) _ kd _ R ⟨by simp,λi d ei=>?_⟩ e1 λρ1 H1 v1 x1 R1 r1=>?_⟩
     .cases i with
      |zero=>cases ei;exact⟨.int n,rfl,by simp[RD,RI]⟩
      |succ j=>
       have ei:(ix.map λi=>(ls[i]?).join)[j]?=some (some d):=ei;rw[List.getElem?_map]at ei;cases qj:ix[j]? with
       |none=>rw[qj]at ei;cases ei
       |some m=>
        rw[qj]at ei;have ei:(ls[m]?).join=some d:=Option.some.inj ei;have em:ls[m]?=some (some d):=by
         cases w:ls[m]? with
         |none=>rw[w]at ei;cases ei
         |some z=>rw[w]at ei;simpa using ei
        obtain⟨v,ev,rv⟩:=L.ob m d em;refine⟨v,?_,rv⟩;show(ix.map λi=>(σ[i]?).join)[j]?=some (some v);rw[List.getElem?_map,qj];simp[ev]
     .have oc:c∉ρ:=λm=>by rcases R.mut m with⟨y,w⟩|⟨y,w⟩<;>(rw[hc]at w;cases w)
      refine OG hb R1 (L.ext R x1) (x1.keep c _ hc oc nt) e2 λρ2 H2 ks2 x2 R2 r2=>?_;exact k ρ2 H2 (v1::ks2) (x1.trans R1 x2) R2 (.cons (r1.ext R1 x2) r2)
    .cases e
   .cases e
  .cases e
def Vv{te:TE}{mi:ME}(hi:RE K te mi):V7 K te (Lf mi):=by
 intro ρ σ H hd ls Q ns hd' hR hL hm k;obtain⟨⟨d1,h1⟩,e1,hm⟩:=fW hm;obtain⟨ds,e2,hm⟩:=fW hm;obtain⟨ns,e3,hm⟩:=fW hm;cases hm;refine hi ρ σ H hd ls _ d1 _ hR hL e1 λρ1 H1 v1 x1 R1 r1=>?_;obtain⟨a,xs,rfl,sq,rs⟩:=r1.tup e2;rw[C5 e3]at rs;have exs:xs=ns.map V.int:=rs.ints;subst exs;exact k ρ1 H1 a x1 R1 (.inl sq)
def TY{te tb:TE}{src:Ls->Hd->Option (List Int×Hd)}{mb:ME}{P:Addr}{q:Str}{pos:Pos}{ix:List Nat}(hi:V7 K te src)(hb:RE K tb mb)(TI:Ey K P q pos):RN K (Ix K P q pos ix te tb) (Dx src ix mb):=by
 and_intros;obtain⟨⟨ns,h1⟩,e1,hm⟩:=fW hm;obtain⟨kds,e4,hm⟩:=fW hm;obtain⟨kz,e5,hm⟩:=fW hm;dsimp only at hm e4;split at hm
 .next cc=>
  cases hm;refine hi ρ σ H hd ls _ ns _ hR hL e1 λρ1 H1 a x1 R1 sq=>?_;obtain⟨p',et,_,l1,l2⟩:=id TI;obtain⟨ps,hP,hG⟩:=R1.tabs (P,q,p') et;have hG':DU H1 q pos ps:=by
   rcases hG with g|⟨c,g1,g2⟩
   .exact .inl g
   .refine .inr ⟨c,?_,g2⟩;rw[g1];show #[rawInt p'.line,rawInt p'.col,Value.ref c]=_;rw[l1,l2]
  refine⟨a,ns,ps,rfl,sq,cc.1,hP,hG',λH2 c step hc=>?_⟩;obtain⟨R2,x2⟩:=IC R1 hP step TI;have x12:=x1.trans R1 x2;refine OG hb R2 (hL.ext hR x12) hc e4 λρ3 H3 ks x3 R3 r3=>?_;have x13:=x12.trans R2 x3;refine⟨kz,?_,λp ms hp out=>?_⟩
  .unfold Dz at e5;split at e5
   .next ns' e6=>
    cases e5;rw[C5 e6]at r3;exact .inl r3.ints
   .split at e5
    .next ps' e6=>
     split at e5
     .next ok=>
      cases e5;rw[GY e6]at r3;refine .inr ⟨ps',rfl,ok,by have:=r3.len;simp at this;omega,λi k p ek ep=>?_⟩;obtain⟨w,ew,rw_⟩:=r3.get (i:=i) (d:=AQ p) (by rw[List.getElem?_map,ep];rfl);rw[ek]at ew;cases ew;exact O3 rw_
     .cases e5
    .cases e5
  .have lz:kz.length=ns.length:=by
    rw[Pe e5,Ku e4]
   have:=UM cc.2 lz out;subst this;obtain⟨R4,x4⟩:=R3.hid (ho:=.lst ((Ej kz ns).map V.int)) hp;exact hQ ρ3 _ p _ (x13.trans R3 x4) R4 (x13.none hR hp R3) (R3.out hp) AI Dd
 .cases hm
end
structure LamC(K:PySem.W.Frag)(mg:Str->Option Value)(base:Heap)(fd:FuncData)(c P:Addr)(q:Str)(pos:Pos):Prop where
 code:fd.code=.ref c
 hd:CodeHd base c P
 bl:base.BuiltinsAt mg P
 ti:Ey K P q pos
structure QSrc(K:PySem.W.Frag)(X:Cx)(e:Expr)(te:TE)(src:Ls->Hd->Option (List Int×Hd)):Prop where
 p:PE X e te
 r:V7 K te src
def Tt(K:PySem.W.Frag){X:Cx}{e:Expr}{te:TE}{mi:ME}(h:QE K X e te mi):QSrc K X e te (Lf mi):=⟨h.p,Vv h.r⟩
def Tw(K:PySem.W.Frag){src:Ls->Hd->Option (List Int×Hd)}{X:Cx}{c P:Addr}{scope:Scope}{fr:List Str}{ix:List Nat}{prm:Str}{params:Arguments}{body e:Expr}{p pos lpos kpos:Pos}{te tb:TE}{mb:ME}{k:Nat}(LA:LamAt X c P)(TI:Ey K P (X.env.qual++"<lambda>") lpos)(S:CSc X scope fr ix)(L:LSc scope prm)(hr:Room k X.A)(h3:3<=k)(hm:X.mg "sorted"=none)
 (he:QSrc K X e te src) (hb:∀(f:Addr) (cd:Value) (s:Shared) (H:Hp),QE K (lCx X X.A.in1.in1 (prm::fr) (X.env.qual++"<lambda>") scope f cd (AU X.env.cells scope.names []) s H) body tb mb)
 (hbind:∀(cl:List (Str×Addr)) (pm cd ctv us:Value),bindArgs (kla_fn "<lambda>" (X.env.qual++"<lambda>") params body scope cl pm cd ctv) ⟨[us],[]⟩=pure [(prm,us)])
 (hcm:X.calm=true:=by rfl) (hg:Gl X "sorted":=by rfl) (hdef:defaultsOf params X.env=([],[]):=by rfl) (hs:starEach [e] X.env=[(false,eval e X.env)]:=by rfl) (hK:X.K=K:=by rfl):
 QN K X (.Call (.Name "sorted" p) [e] [⟨some "key",.Lambda params body scope lpos,kpos⟩] pos) (Ix K P (X.env.qual++"<lambda>") lpos ix te tb) (Dx src ix mb):=by
 subst hK;exact⟨UE LA S L (hr.mono h3) hcm hg hm hbind he.p (λf cd s H=>(hb f cd s H).p) hdef hs,TY he.r (hb 0 .none X.s₀ X.H₀).r TI⟩
def UP{P:Program}{w:World}{K:PySem.W.Frag}{mg:Str->Option Value}{base:Heap}{x:Str}{st:Stmt}{f:Addr}{fd:FuncData}{N ps:List Str}{j:Nat}{m:MS}(DA:DefAt K mg x st f fd ps)(S:FnScope N ps (A9 st))
 (h:∀(cdv:Value) (A:Around) (outer:List Env) (s:Shared) (H:Hp) (E:XK),fd.code=cdv->Room j (A.deeper (envOfC x (A9 st) s.heap.objs.size f cdv))->∃t,QSs K (F9 CX0 P w K mg base N x (A9 st) f cdv A outer s H E).nox (BP st) t m):
 FnOk P w K mg base CX0 (j+1) f fd ps (spF K ps.length (mkF ps.length N.length m)):=by
 obtain⟨F,hmg,bd⟩:=DA;obtain⟨⟨oc,od,kV,doc,pm,an,cdv,ct,osl,rfl,lk,hcd⟩,kp⟩:=F;refine Va lk hcd S (λvs H Q E h=>h.1) λA outer s H vs Q E hr hs=>?_;obtain⟨t,q⟩:=h cdv A outer s H E rfl hr;exact⟨t,q.p.nox,Nr q.r hs⟩
def Ow(g:Int->Int)(ns:List Int):(Ej (ns.map g) ns).Perm ns/\(Ej (ns.map g) ns).Pairwise λa b=>g a<=g b:=by
 have pm:(((ns.map g).zip ns).mergeSort λa b=>decide (a.1<=b.1)).Perm ((ns.map g).zip ns):=List.mergeSort_perm ..;have pw:(((ns.map g).zip ns).mergeSort λa b=>decide (a.1<=b.1)).Pairwise λa b=>a.1<=b.1:=by
  have:=List.pairwise_mergeSort (le:=λa b:Int×Int=>decide (a.1<=b.1)) (by intro a b c h1 h2;simp at *;omega) (by intro a b;simp;omega) ((ns.map g).zip ns);exact this.imp (by simp)
 have ez:(ns.map g).zip ns=ns.map λn=>(g n,n):=by
  clear pm pw
  induction ns with
  |nil=>rfl
  |cons n r ih=>simp[ih]
 have el:∀a∈(((ns.map g).zip ns).mergeSort λa b=>decide (a.1<=b.1)),a.1=g a.2:=λa ha=>by
  have:=pm.mem_iff.mp ha;rw[ez]at this;obtain⟨n,_,rfl⟩:=mem_map.mp this;rfl
 refine⟨?_,?_⟩
 .have:=pm.map (·.2);unfold Ej;refine this.trans ?_;rw[ez,map_map];have:((λx:Int×Int=>x.2) ∘ λn=>(g n,n))=id:=rfl;rw[this,map_id]
 .unfold Ej;rw[pairwise_map];exact pw.imp_of_mem λ{a b} ha hb h=>by rw[<- el a ha,<- el b hb];exact h
def Kt{mb:ME}{cap:Ls}{hd:Hd}(kf:Int->D):∀{ns:List Int},(∀n∈ns,mb (some (.im (.int n))::cap) hd=some (kf n,hd))->EC mb cap hd ns=some (ns.map kf)
 |[],_=>rfl
 |n::r,h=>by
  unfold EC;rw[h n mem_cons_self,Kt kf λm hm=>h m (mem_cons_of_mem _ hm)];simp
def Mu{ps:List (Int×Int)}(hne:ps≠[])(hok:∀p∈ps,pok p):Dz (ps.map AQ)=some (ps.map Ao):=by
 unfold Dz;have:Ax (ps.map AQ)=none:=by
  cases ps with
  |nil=>exact absurd rfl hne
  |cons p r=>rfl
 rw[this,PU];simp only[if_pos hok]
def Ri{g:Int->Int}{ns:List Int}(nd:ns.Nodup)(h:∀a∈ns,∀b∈ns,g a=g b->a=b):(ns.map g).Nodup:=by
 rw[List.nodup_iff_pairwise_ne,pairwise_map];exact(List.nodup_iff_pairwise_ne.mp nd).imp_of_mem λ{a b} ha hb hne e=>hne (h a ha b hb e)
def Sl{src:Ls->Hd->Option (List Int×Hd)}{mb:ME}{ix:List Nat}{ls:Ls}{hd:Hd}{QA:List D->Hd->Prop}(h:∃ns x,src ls hd=some (ns,x)/\∃(kf:Int->Int×Int),ns.length<64/\ns.Nodup/\(∀n∈ns,pok (kf n))/\(∀a∈ns,∀b∈ns,Ao (kf a)=Ao (kf b)->a=b)/\
 (∀n∈ns,mb (some (.im (.int n))::ix.map λi=>(ls[i]?).join) x=some (AQ (kf n),x))/\∀ms:List Int,ms.Perm ns->ms.Pairwise (λa b=>Ao (kf a)<=Ao (kf b))->QA (ms.map λn=>.im (.int n)) x):WA (Dx src ix mb) ls hd QA:=by
 obtain⟨ns,x,e,kf,h64,nd,ok,inj,ek,q⟩:=h;have e2:=Kt (λn=>AQ (kf n)) ek;by_cases hne:ns=[]
 .subst hne;refine⟨[],x,?_,q [] (.refl _) .nil⟩;simp[Dx,e,Ax,EC,Dz,Ej]
 .have e3:Dz (ns.map λn=>AQ (kf n))=some (ns.map λn=>Ao (kf n)):=by
   have:=Mu (ps:=ns.map kf) (by simpa using hne) (by simpa using ok);rw[map_map,map_map]at this;exact this
  have sp:=Ow (λn=>Ao (kf n)) ns;refine⟨_,x,?_,q _ sp.1 sp.2⟩;simp only[Dx,e,bind_some,e2,e3,h64,Ri nd inj,and_self,if_true]
def Sm{mi mb:ME}{ix:List Nat}{ls:Ls}{hd:Hd}{QA:List D->Hd->Prop}(h:WE mi ls hd λd x=>∃(ns:List Int) (kf:Int->Int×Int),AX d=some (ns.map λn=>.im (.int n))/\ns.length<64/\ns.Nodup/\(∀n∈ns,pok (kf n))/\(∀a∈ns,∀b∈ns,Ao (kf a)=Ao (kf b)->a=b)/\
 (∀n∈ns,mb (some (.im (.int n))::ix.map λi=>(ls[i]?).join) x=some (AQ (kf n),x))/\∀ms:List Int,ms.Perm ns->ms.Pairwise (λa b=>Ao (kf a)<=Ao (kf b))->QA (ms.map λn=>.im (.int n)) x):WA (Rp mi ix mb) ls hd QA:=by
 obtain⟨d,x,e,ns,kf,e1,h⟩:=h;refine Sl ⟨ns,x,?_,kf,h⟩;have ei:Ax (ns.map λn=>D.im (.int n))=some ns:=by
  clear e1 h
  induction ns with
  |nil=>rfl
  |cons n r ih=>simp[Ax]at ih ⊢
 simp only[Lf,e,bind_some,e1,ei]
end L2
namespace HS
open PySem PyProof.Rows
open PySem.AutoSeq1 (wpAny_loadPart')
open Sem (wp)
abbrev st(t:Tok):List (Str×Value):=[(Str.ofString "start",.int 1 t)]
end HS
namespace L2
open PySem PySem.Spec PyProof.Rows PySem.W
def Ee(op:Int->Int->Bool)(src:Hp->List V->Prop)(G:Hp->Prop)(tb:TE)(cap:St):Nat->Nat->V->Int->Hp->VK->Prop
 |0,j,b,_,H,Q=>(∃xs,src H xs/\xs.length=j)/\Q b H
 |m+1,j,b,kb,H,Q=>∃xs x,src H xs/\xs[j]?=some x/\G H/\tb (some x::cap) H λk H1=>∃n:Int,k=.int n/\(if op n kb=true then Ee op src G tb cap m (j+1) x n H1 Q else Ee op src G tb cap m (j+1) b kb H1 Q)
def FV(op:Int->Int->Bool)(src:Hp->List V->Prop)(G:Hp->Prop)(tb:TE)(cap:St)(m:Nat)(H:Hp)(Q:VK):Prop:=
 ∃xs x,src H xs/\xs[0]?=some x/\G H/\tb (some x::cap) H λk H1=>∃n:Int,k=.int n/\Ee op src G tb cap m 1 x n H1 Q
def Inv.turnE{X:Cx}{pins:List (Addr×Obj)}{σ:St}{H:Hp}{s:Shared}{b:Addr}{o:Obj}{h':Heap}{t':Nat}(I:Inv X ((b,o)::pins) σ H s)(f:FpOk X pins H b)(hs:∀c u,c≠b->s.heap.get? c=some u->h'.get? c=some u):Inv X pins σ H { s with heap:=h',toks:=t' }:=by
 have J:Inv X pins σ H s:=I.pins_of λp hp=>I.pin p (mem_append_right _ (mem_cons_of_mem _ hp));obtain⟨hn,hL,_,h1,h2,h3⟩:=f;exact J.turned (λc u n e=>hs c u n e) hn hL h1 h2 h3
section
variable{X:Cx}{pins:List (Addr×Obj)}{σ:St}{l f It S:Addr}{src:Hp->List V->Prop}{G:Hp->Prop}{tb:TE}{cap:St}{Q:VK}{E:Value->Shared->Prop}
def UY(hh:X.A.handled=none)
 (hsrc:∀pins' H' s' xs,Inv X pins' σ H' s'->src H' xs->∃its:List Value,Vals xs its/\s'.heap.IsList l its.toArray) (hSI:S≠It) (n0:Nat) (hI0:∀H',H' It=none->FpOk X pins H' It) (hS0:∀H',H' S=none->FpOk X pins H' S)
 (turn:∀(pins':List (Addr×Obj)) (H1:Hp) (s1:Shared) (x:V) (u:Value) (Q1:VK),(∀p∈pins,p∈pins')->Inv X pins' σ H1 s1->RelV x u->G H1->tb (some x::cap) H1 Q1->wpAny (model X.prog X.w) X.A.in1 (call (.ref f) [u]) (EP X pins' σ Q1) (λ_ _=>False) s1):
 ∀(m:Nat) (j:Nat) (b:V) (vb:Value) (kb:Int) (tk:Tok) (c:Nat) (oI:Obj) (H:Hp) (s:Shared),Inv X ((S,seqObj "list" #[vb,.int kb tk] c)::(It,oI)::pins) σ H s->s.heap.IsListIter It l j->RelV b vb ->
   Ee (λn m=>decide (n>m)) src G tb cap m j b kb H Q->codeAny (model X.prog X.w) X.A (.builtin "max.loop" ⟨[.ref It,.ref f,.ref S],[]⟩) (λr s'=>match r with|.ok (.ret v)=>EP X pins σ Q v s'|.ok _=>False|.error e=>E e s') s:=by
 have hname:(toString "max"++toString ".loop":String)="max.loop":=by decide
 intro m
 induction m with
 |zero=>
  intro j b vb kb tk c oI H s J hit rb hgo;obtain⟨⟨xs,hG,hje⟩,hQ⟩:=hgo;have nS:=J.pin (S,seqObj "list" #[vb,.int kb tk] c) (mem_append_right _ mem_cons_self);have nI:=J.pin (It,oI) (mem_append_right _ (mem_cons_of_mem _ mem_cons_self));refine codeAny_builtin PySem.F.entry_max_loop ?_;rw[Around.under_plainId PySem.F.plain_max_loop _];show wpAny _ X.A.in1 (seqItems? (.ref S) >>= _) _ _ _;refine wpAny_bind (wpAny_seqItems nS.1 rfl ?_);show wpAny _ X.A.in1 (tryCatch (pyNext (.ref It)) _ >>= _) _ _ _;obtain⟨its,hv,hil⟩:=hsrc _ _ _ _ J hG;have hlen:=hv.length;refine wpAny_bind (wpAny_tryCatch (wpAny_pyNext_list_end hh hit hil (by simp;omega) λh' hk'=>?_));have hS':=hk' S _ hSI nS.1;have s1:=Heap.SameBut.update h' S (Obj.mapSeq λ_=>(#[]:Array Value));show wpAny _ X.A.in1 (updateSeq S (λ_=>#[]) >>= _) _ _ _;refine wpAny_bind ?_;refine wpAny_updateSeq hS' rfl (wpAny_bind (wpAny_letGo (wpAny_pure ?_)));have J1:Inv X ((It,oI)::pins) σ H s:=J.pins_of λp hp=>J.pin p (mem_append_right _ (mem_cons_of_mem _ hp));have J2:Inv X pins σ H { s with heap:=h',toks:=s.toks }:=J1.turnE (hI0 H nI.2.1) λc u n e=>hk' c u n e;have J3:=(J2.repin (hS0 H nS.2.1) hS' (λv z=>by cases z)).turnE (t':=s.toks) (hS0 H nS.2.1) λc u n e=>(s1.2 c n).trans e;exact⟨b,H,J3,rb,hQ⟩
 |succ m ih=>
  intro j b vb kb tk c oI H s J hit rb hgo;obtain⟨xs,x,hsr,hxj,hG,hgo⟩:=hgo;obtain⟨its,hv,hil⟩:=hsrc _ _ _ _ J hsr;obtain⟨u,hu,ru⟩:=hv.get hxj;have nS:=J.pin (S,seqObj "list" #[vb,.int kb tk] c) (mem_append_right _ mem_cons_self);have nI:=J.pin (It,oI) (mem_append_right _ (mem_cons_of_mem _ mem_cons_self));refine codeAny_builtin PySem.F.entry_max_loop ?_;rw[Around.under_plainId PySem.F.plain_max_loop _];show wpAny _ X.A.in1 (seqItems? (.ref S) >>= _) _ _ _;refine wpAny_bind (wpAny_seqItems nS.1 rfl ?_);show wpAny _ X.A.in1 (tryCatch (pyNext (.ref It)) _ >>= _) _ _ _;refine wpAny_bind (wpAny_tryCatch (wpAny_pyNext_list_item hit hil (x:=u) (by simpa using hu) λh' hit' hs'=>?_));obtain⟨oI',hoI',hoc,hod⟩:=id hit';have hSh':h'.get? S=some (seqObj "list" #[vb,.int kb tk] c):=(hs'.2 S hSI).trans nS.1;have dI:∀v,oI'.data≠.cell v:=λv z=>by rw[hod]at z;cases z
  have J1:Inv X ((It,oI)::pins) σ H s:=J.pins_of λp hp=>J.pin p (mem_append_right _ (mem_cons_of_mem _ hp));have J2:Inv X pins σ H { s with heap:=h',toks:=s.toks }:=J1.turnE (hI0 H nI.2.1) λc u n e=>(hs'.2 c n).trans e;have J3:=(J2.repin (hI0 H nI.2.1) hoI' dI).repin ((hS0 H nS.2.1).more hSI.symm) hSh' (λv z=>by cases z);show wpAny _ X.A.in1 (tryCatch (holding [u] (call (.ref f) [u])) _ >>= _) _ _ _;refine wpAny_bind (wpAny_tryCatch (wpAny_holding (wpAny_mono (turn _ H _ x u _ (λp hp=>mem_cons_of_mem _ (mem_cons_of_mem _ hp)) J3 ru hG hgo) (λv s2 he=>?_) λ_ _ hF=>hF.elim)));obtain⟨k,H2,J4,rk,n,rfl,hgo2⟩:=he;obtain⟨t2,rfl⟩:=rk;have nS2:=J4.pin (S,seqObj "list" #[vb,.int kb tk] c) (mem_append_right _ mem_cons_self);have nI2:=J4.pin (It,oI') (mem_append_right _ (mem_cons_of_mem _ mem_cons_self));show wpAny _ X.A.in1 (tryCatch (holding [u,.int n t2] (richCompare .Gt (.int n t2) (.int kb tk) >>= _)) _ >>= _) _ _ _;refine wpAny_bind (wpAny_tryCatch (wpAny_holding (wpAny_bind (richCompare_gives (op:=.Gt) (typeIs_int s2 _ t2) (typeIs_int s2 _ tk) F.slot_int_gt F.entry_int_gt (F.args_int_gt_2 _ _) (gives_int_gt _ _ t2 tk) (λx=>nomatch x) ?_))));refine wpAny_bind (wpAny_holding (wpAny_truthy_bool ?_));refine wpAny_bind (wpAny_letGo (wpAny_pure ?_));by_cases hb':n>kb
  .have s1:=Heap.SameBut.update s2.heap S (Obj.mapSeq λ_=>#[u,.int n t2]);obtain⟨c2,hc2⟩:∃c2,(s2.heap.update S (Obj.mapSeq λ_=>#[u,.int n t2])).get? S=some (seqObj "list" #[u,.int n t2] c2):=⟨_,get?_update_seq nS2.1 λ_=>#[u,.int n t2]⟩
   simp only[hb',decide_true,if_true]at hgo2 ⊢;refine wpAny_bind ?_;refine wpAny_updateSeq nS2.1 rfl (wpAny_bind (wpAny_letGo ?_));rw[hname];have J5:Inv X ((S,seqObj "list" #[vb,.int kb tk] c)::pins) σ H2 s2:=J4.pins_of λp hp=>by
    rcases mem_cons.mp hp with rfl|hp
    .exact nS2
    .exact J4.pin p (mem_append_right _ (mem_cons_of_mem _ (mem_cons_of_mem _ hp)))
   have J6:Inv X pins σ H2 { s2 with heap:=s2.heap.update S (Obj.mapSeq λ_=>#[u,.int n t2]),toks:=s2.toks }:=J5.turnE (hS0 H2 nS2.2.1) λc u n e=>(s1.2 c n).trans e;have gI:(s2.heap.update S (Obj.mapSeq λ_=>#[u,.int n t2])).get? It=some oI':=(s1.2 It hSI.symm).trans nI2.1;have J7:=(J6.repin (hI0 H2 nI2.2.1) gI dI).repin ((hS0 H2 nS2.2.1).more hSI.symm) hc2 (λv z=>by cases z);exact wpAny_pure ⟨plainId_quiet PySem.F.plain_max_loop _,ih (j+1) x u n t2 c2 oI' H2 _ J7 ⟨oI',gI,hoc,hod⟩ ru hgo2⟩
  .simp only[hb',decide_false,Bool.false_eq_true,if_false]at hgo2 ⊢;refine wpAny_bind (wpAny_letGo ?_);rw[hname];exact wpAny_pure ⟨plainId_quiet PySem.F.plain_max_loop _,ih (j+1) b vb kb tk c oI' H2 _ J4 ⟨oI',nI2.1,hoc,hod⟩ rb hgo2⟩
def Xg{H:Hp}{s:Shared}(hh:X.A.handled=none)(I:Inv X pins σ H s)(hsrc:∀pins' H' s' xs,Inv X pins' σ H' s'->src H' xs->∃its:List Value,Vals xs its/\s'.heap.IsList l its.toArray)
 (turn:∀(pins':List (Addr×Obj)) (H1:Hp) (s1:Shared) (x:V) (u:Value) (Q1:VK),(∀p∈pins,p∈pins')->Inv X pins' σ H1 s1->RelV x u->G H1->tb (some x::cap) H1 Q1->wpAny (model X.prog X.w) X.A.in1 (call (.ref f) [u]) (EP X pins' σ Q1) (λ_ _=>False) s1)
 {m:Nat} (h:FV (λn m=>decide (n>m)) src G tb cap m H Q):wpAny (model X.prog X.w) X.A (call (.builtin "max") [.ref l] [(Str.ofString "key",.ref f)]) (EP X pins σ Q) E s:=by
 have hname:(toString "max"++toString ".loop":String)="max.loop":=by decide
 obtain⟨xs,x,hsr,hx0,hG,hgo⟩:=h;obtain⟨_,_,hls⟩:=hsrc _ _ _ _ I hsr;refine kmk_tree PySem.F.kind_max PySem.F.plain_max PySem.F.entry_max (kmk_max_key _ _) ?_;show wpAny _ X.A.in1 (Builtin.Builtins.bindParams "max" ["key","default"] 0 ⟨[],[(Str.ofString "key",.ref f)]⟩ >>= _) _ _ s;refine wpAny_bind (wpAny_of_eq (show Builtin.Builtins.bindParams "max" ["key","default"] 0 ⟨[],[(Str.ofString "key",.ref f)]⟩=pure [some (.ref f),none]from rfl) ?_);refine wpAny_bind (wpAny_pure ?_);refine wpAny_bind (wpAny_pyIter_list hls ?_);refine wpAny_bind (wpAny_newList ?_ (zero_le _));rw[hname];have hS:(s.heap.push { cls:=.type "list_iterator",data:=.fields #[.ref l,.int 0 0] }).objs.size=s.heap.objs.size+1:=size_push' ..;rw[hS];have gI:((s.heap.push { cls:=.type "list_iterator",data:=.fields #[.ref l,.int 0 0] }).push (seqObj "list" #[] 0)).get? s.heap.objs.size=some { cls:=.type "list_iterator",data:=.fields #[.ref l,.int 0 0] }:=
  Heap.get?_push_of_some _ (Heap.get?_push_size _ rfl)
 have gS:((s.heap.push { cls:=.type "list_iterator",data:=.fields #[.ref l,.int 0 0] }).push (seqObj "list" #[] 0)).get? (s.heap.objs.size+1)=some (seqObj "list" #[] 0):=by rw[<- hS];exact Heap.get?_push_size _ rfl
 have kp:∀b o,s.heap.get? b=some o->((s.heap.push { cls:=.type "list_iterator",data:=.fields #[.ref l,.int 0 0] }).push (seqObj "list" #[] 0)).get? b=some o:=λb o e=>Heap.get?_push_of_some _ (Heap.get?_push_of_some _ e);have I1:Inv X pins σ H { s with heap:=(s.heap.push { cls:=.type "list_iterator",data:=.fields #[.ref l,.int 0 0] }).push (seqObj "list" #[] 0),toks:=s.toks }:=I.kept (t':=s.toks) kp;have hSI:s.heap.objs.size+1≠s.heap.objs.size:=ne_of_gt (Nat.lt_succ_self _);have hI0:∀H',H' s.heap.objs.size=none->FpOk X pins H' s.heap.objs.size:=λH' hn=>I.fpOk (le_refl _) hn;have hS0:∀H',H' (s.heap.objs.size+1)=none->FpOk X pins H' (s.heap.objs.size+1):=λH' hn=>I.fpOk (le_succ _) hn;have nI:H s.heap.objs.size=none:=I.hok.fresh (le_refl _);have nS:H (s.heap.objs.size+1)=none:=I.hok.fresh (le_succ _);generalize (s.heap.push { cls:=.type "list_iterator",data:=.fields #[.ref l,.int 0 0] }).push (seqObj "list" #[] 0)=h1 at gI gS I1 ⊢;refine wpAny_pure ⟨plainId_quiet PySem.F.plain_max_loop _,?_⟩;refine codeAny_builtin PySem.F.entry_max_loop ?_;rw[Around.under_plainId PySem.F.plain_max_loop _];show wpAny _ X.A.in1 (seqItems? (.ref (s.heap.objs.size+1)) >>= _) _ _ _;refine wpAny_bind (wpAny_seqItems gS rfl ?_);show wpAny _ X.A.in1 (tryCatch (pyNext (.ref s.heap.objs.size)) _ >>= _) _ _ _;obtain⟨its,hv,hil⟩:=hsrc _ _ _ _ I1 hsr;obtain⟨u,hu,ru⟩:=hv.get hx0;refine wpAny_bind (wpAny_tryCatch (wpAny_pyNext_list_item (i:=0) ⟨_,gI,rfl,rfl⟩ hil (x:=u) (by simpa using hu) λh' hit' hs'=>?_));obtain⟨oI',hoI',hoc,hod⟩:=id hit';have dI:∀v,oI'.data≠.cell v:=λv z=>by rw[hod]at z;cases z
 have hSh':h'.get? (s.heap.objs.size+1)=some (seqObj "list" #[] 0):=(hs'.2 _ hSI).trans gS;have J2:Inv X pins σ H { s with heap:=h',toks:=s.toks }:=(I1.repin (hI0 H nI) gI (λv z=>by cases z)).turnE (hI0 H nI) λc u n e=>(hs'.2 c n).trans e;have J3:=(J2.repin (hI0 H nI) hoI' dI).repin ((hS0 H nS).more hSI.symm) hSh' (λv z=>by cases z);show wpAny _ X.A.in1 (tryCatch (holding [u] (call (.ref f) [u])) _ >>= _) _ _ _;refine wpAny_bind (wpAny_tryCatch (wpAny_holding (wpAny_mono (turn _ H _ x u _ (λp hp=>mem_cons_of_mem _ (mem_cons_of_mem _ hp)) J3 ru hG hgo) (λv s2 he=>?_) λ_ _ hF=>hF.elim)));obtain⟨k,H2,J4,rk,n,rfl,hgo2⟩:=he;obtain⟨t2,rfl⟩:=rk;have nS2:=J4.pin (s.heap.objs.size+1,seqObj "list" #[] 0) (mem_append_right _ mem_cons_self);have nI2:=J4.pin (s.heap.objs.size,oI') (mem_append_right _ (mem_cons_of_mem _ mem_cons_self));have s1:=Heap.SameBut.update s2.heap (s.heap.objs.size+1) (Obj.mapSeq λ_=>#[u,.int n t2]);obtain⟨c2,hc2⟩:∃c2,(s2.heap.update (s.heap.objs.size+1) (Obj.mapSeq λ_=>#[u,.int n t2])).get? (s.heap.objs.size+1)=some (seqObj "list" #[u,.int n t2] c2):=⟨_,get?_update_seq nS2.1 λ_=>#[u,.int n t2]⟩
 show wpAny _ X.A.in1 (updateSeq (s.heap.objs.size+1) (λ_=>#[u,.int n t2]) >>= _) _ _ _;refine wpAny_bind ?_;refine wpAny_updateSeq nS2.1 rfl ?_;rw[hname];have J5:Inv X ((s.heap.objs.size+1,seqObj "list" #[] 0)::pins) σ H2 s2:=J4.pins_of λp hp=>by
  rcases mem_cons.mp hp with rfl|hp
  .exact nS2
  .exact J4.pin p (mem_append_right _ (mem_cons_of_mem _ (mem_cons_of_mem _ hp)))
 have J6:Inv X pins σ H2 { s2 with heap:=s2.heap.update (s.heap.objs.size+1) (Obj.mapSeq λ_=>#[u,.int n t2]),toks:=s2.toks }:=J5.turnE (hS0 H2 nS2.2.1) λc u n e=>(s1.2 c n).trans e;have gI2:(s2.heap.update (s.heap.objs.size+1) (Obj.mapSeq λ_=>#[u,.int n t2])).get? s.heap.objs.size=some oI':=(s1.2 _ hSI.symm).trans nI2.1;have J7:=(J6.repin (hI0 H2 nI2.2.1) gI2 dI).repin ((hS0 H2 nS2.2.1).more hSI.symm) hc2 (λv z=>by cases z);exact wpAny_pure ⟨plainId_quiet PySem.F.plain_max_loop _,UY hh hsrc hSI 0 hI0 hS0 turn m 1 x u n t2 c2 oI' H2 _ J7 ⟨oI',gI2,hoc,hod⟩ ru hgo2⟩
end
def LW(K:PySem.W.Frag)(P:Addr)(q:Str)(pos:Pos)(ix:List Nat)(te tb:TE):TE:=λσ H Q=>te σ H λv H1=>∃(a:Addr) (m:Nat) (ps:Array Value),v=.ref a/\H1 P=some (.tbl ps)/\DU H1 q pos ps /\
 ∀H2 c,TabStep P q pos H1 H2->H2 c=some (.ext (cdF c q))->FV (λn m=>decide (n>m)) (λH xs=>SqL K H a xs) (λH=>H c=some (.ext (cdF c q))) tb (ix.map λi=>(σ[i]?).join) m H2 Q
section
variable{X:Cx}{c P:Addr}{scope:Scope}{fr:List Str}{ix:List Nat}{prm:Str}{params:Arguments}{body e:Expr}{p pos lpos kpos:Pos}{te tb:TE}
def XU(LA:LamAt X c P)(S:CSc X scope fr ix)(L:LSc scope prm)(hr:Room 3 X.A)(hcm:X.calm=true)(hg:Gl X "max")(hm:X.mg "max"=none)
 (hbind:∀(cl:List (Str×Addr)) (pm cd ctv us:Value),bindArgs (kla_fn "<lambda>" (X.env.qual++"<lambda>") params body scope cl pm cd ctv) ⟨[us],[]⟩=pure [(prm,us)])
 (he:PE X e te) (hb:∀(f:Addr) (cd:Value) (s:Shared) (H:Hp),PE (lCx X X.A.in1 (prm::fr) (X.env.qual++"<lambda>") scope f cd (AU X.env.cells scope.names []) s H) body tb)
 (hdef:defaultsOf params X.env=([],[]):=by rfl) (hs:starEach [e] X.env=[(false,eval e X.env)]:=by rfl):
 PE X (.Call (.Name "max" p) [e] [⟨some "key",.Lambda params body scope lpos,kpos⟩] pos) (LW X.K P (X.env.qual++"<lambda>") lpos ix te tb):=by
 intro pins s σ H Q I h;have PAe:PA X [e] (BH te BR):=Bi he Bw hs;refine wpAny_Call_Name_kw (DL (u:=.builtin "max") I hg hm bt_max ?_);have pl:(backTo pos (starEach [e] X.env)).any (·.1)=false:=by rw[hs];rfl
 refine callWith_builtin_kwB pl rfl (evalArgs_kw2 (env:=X.env) (e:=e) (rest:=[]) (kws:=[⟨some "key",.Lambda params body scope lpos,kpos⟩]) rfl (thn (PAe pos pins s σ H (λvs H1=>match vs with
  |[v]=>∃(a:Addr) (m:Nat) (ps:Array Value),v=.ref a/\H1 P=some (.tbl ps)/\DU H1 (X.env.qual++"<lambda>") lpos ps /\
   ∀H2 c,TabStep P (X.env.qual++"<lambda>") lpos H1 H2->H2 c=some (.ext (cdF c (X.env.qual++"<lambda>")))->FV (λn m=>decide (n>m)) (λH xs=>SqL X.K H a xs) (λH=>H c=some (.ext (cdF c (X.env.qual++"<lambda>")))) tb (ix.map λi=>(σ[i]?).join) m H2 Q
  | _=>False) I h) λus s1 hq=>?_) hs)
 obtain⟨vs,H1,I1,r,q⟩:=hq
 match vs,q with
 |[v],q=>
 obtain⟨a,m,ps,rfl,hP,hg1,go⟩:=q;obtain⟨u,rfl,ru⟩:=BX r;cases ru;show wpAny _ _ (evalAll [(do let v <- eval (.Lambda params body scope lpos) X.env;standAt pos;pure v)]) _ _ s1;refine wpAny_evalAll_cons (wpAny_bind (IY S LA I1 hdef hP hg1 λf cd ctv H2 s2 I2 M=>wpAny_bind (wpAny_standAt (wpAny_pure (wpAny_evalAll_nil ?_)))));show wpAny _ _ (call (.builtin "max") [.ref a] [(Str.ofString "key",.ref f)]) _ _ s2;obtain⟨c',rfl,hc'⟩:=M.cdc;have go':=go H2 c' M.step hc';have ff:FpOk X pins H2 f:=I1.fpOk M.new M.fre;have I3:=I2.repin ff M.fn (λv z=>by cases z);refine wpAny_mono (Xg (pins:=(f,_)::pins) (I3.ok.hd hcm) I3 (λpins' H' s' xs J hG=>?_) (λpins' H' s' x u Q1 sub J ru hG hq=>?_) go') (λv s' hv=>?_) λ_ _ z=>z
 .obtain⟨its,rv,pl2,hz⟩:=J.list hG;exact⟨its,rv,pl2.isList⟩
 .have pf:=J.pin (f,_) (mem_append_right _ (sub _ mem_cons_self));exact IZ (A:=X.A.in1) (f:=f) S L J rfl (hr.in1.mono (by decide)) pf.1 (J.hok c' _ hG).1 (λus=>hbind _ _ _ _ us) (λs H=>hb f _ s H) ru hq
 .obtain⟨y,H',J,ry,qy⟩:=hv;exact⟨y,H',J.pins_of λp hp=>J.pin p (mem_append_right _ (mem_cons_of_mem _ hp)),ry,qy⟩
end
open Classical in
def Ce(mb:ME)(cap:Ls)(hd:Hd):List D->Option (List Int)
 |[]=>some []
 |d::r=>match mb (some d::cap) hd with
  |some (.im (.int n),h)=>match Ce mb cap hd r with
   |some ks=>if h=hd then some (n::ks)else none
   |none=>none
  |_=>none
def Ba(op:Int->Int->Bool):List D->List Int->D->Int->D
 |x::r,n::ns,b,kb=>if op n kb=true then Ba op r ns x n else Ba op r ns b kb
 |_,_,b,_=>b
def EZ(op:Int->Int->Bool)(mi:ME)(ix:List Nat)(mb:ME):ME:=λls hd=>(mi ls hd).bind λp=>(Ar p.2 p.1).bind λds=>(Ce mb (ix.map λi=>(ls[i]?).join) p.2 ds).bind λkz=>match ds,kz with
 |d::r,n::ns=>some (Ba op r ns d n,p.2)
 |_,_=>none
section
variable{K:PySem.W.Frag}{hd:Hd}
def JG{ρ:List Addr}{H:Hp}{ls:Ls}{σ:St}{ix:List Nat}{d:D}{v:V}(L:RL K ρ H ls σ)(r:RD K ρ H d v):RL K ρ H (some d::ix.map λi=>(ls[i]?).join) (some v::ix.map λi=>(σ[i]?).join):=by
 refine⟨by simp,λi d' ei=>?_⟩;cases i with
 |zero=>cases ei;exact⟨v,rfl,r⟩
 |succ j=>
  have ei:(ix.map λi=>(ls[i]?).join)[j]?=some (some d'):=ei;rw[List.getElem?_map]at ei;cases qj:ix[j]? with
  |none=>rw[qj]at ei;cases ei
  |some m=>
   rw[qj]at ei;have ei:(ls[m]?).join=some d':=Option.some.inj ei;have em:ls[m]?=some (some d'):=by
    cases w:ls[m]? with
    |none=>rw[w]at ei;cases ei
    |some z=>rw[w]at ei;simpa using ei
   obtain⟨v,ev,rv⟩:=L.ob m d' em;refine⟨v,?_,rv⟩;show(ix.map λi=>(σ[i]?).join)[j]?=some (some v);rw[List.getElem?_map,qj];simp[ev]
def KY{op:Int->Int->Bool}{tb:TE}{mb:ME}{ix:List Nat}{q:Str}{c a:Addr}{d1:D}{ds:List D}(hb:RE K tb mb){ls:Ls}{σ:St}(ev:Ar hd d1=some ds):∀(rs:List D) (ns:List Int) (j:Nat) (bd:D) (bv:V) (kb:Int) (ρ:List Addr) (H:Hp) (Q:VK),ds.drop j=rs->j<=ds.length ->
 Ce mb (ix.map λi=>(ls[i]?).join) hd rs=some ns->RH K ρ H hd->RL K ρ H ls σ->H c=some (.ext (cdF c q))->RD K ρ H d1 (.ref a)->RD K ρ H bd bv ->
 (∀ρ' H' v,Ext ρ H ρ' H'->RH K ρ' H' hd->RD K ρ' H' (Ba op rs ns bd kb) v->Q v H') ->
 Ee op (λH xs=>SqL K H a xs) (λH=>H c=some (.ext (cdF c q))) tb (ix.map λi=>(σ[i]?).join) rs.length j bv kb H Q
 |[],ns,j,bd,bv,kb,ρ,H,Q,hr,hj,e,R,L,hc,r1,rb,k=>by
  obtain⟨a',xs,ea,sq,rs⟩:=RD.lst R r1 ev;cases ea;have hl:=rs.len;have hd0:=congrArg List.length hr;simp at hd0;refine⟨⟨xs,sq,by omega⟩,k ρ H bv .refl R ?_⟩;cases e;exact rb
 |x::r,ns,j,bd,bv,kb,ρ,H,Q,hr,hj,e,R,L,hc,r1,rb,k=>by
  obtain⟨a',xs,ea,sq,rs⟩:=RD.lst R r1 ev;cases ea;have hjl:j<ds.length:=by
   have:=congrArg List.length hr;simp at this;omega
  have hxj:ds[j]?=some x:=by
   rw[drop_eq_getElem_cons hjl]at hr;rw[List.getElem?_eq_getElem hjl,(List.cons.inj hr).1]
  have hr':ds.drop (j+1)=r:=by
   rw[drop_eq_getElem_cons hjl]at hr;exact(List.cons.inj hr).2
  obtain⟨v,hv,rv⟩:=rs.get hxj;unfold Ce at e;split at e
  .next n h e1=>
   split at e
   .next ks e2=>
    split at e
    .next eh=>
     cases e;rw[eh]at e1;refine⟨xs,v,sq,hv,hc,hb ρ _ H _ _ _ (.im (.int n)) _ R (JG L rv) e1 λρ1 H1 v1 x1 R1 rk=>?_⟩;simp only[RD,RI]at rk;subst rk;have oc:c∉ρ:=λm=>by rcases R.mut m with⟨y,w⟩|⟨y,w⟩<;>(rw[hc]at w;cases w)
     refine⟨n,rfl,?_⟩;by_cases hop:op n kb=true
     .rw[if_pos hop];refine KY hb ev r ks (j+1) x v n ρ1 H1 Q hr' hjl e2 R1 (L.ext R x1) (x1.keep c _ hc oc nt) (r1.ext R x1) (rv.ext R x1) λρ2 H2 w x2 R2 r2=>k ρ2 H2 w (x1.trans R1 x2) R2 ?_;rw[Ba,if_pos hop];exact r2
     .rw[if_neg hop];refine KY hb ev r ks (j+1) bd bv kb ρ1 H1 Q hr' hjl e2 R1 (L.ext R x1) (x1.keep c _ hc oc nt) (r1.ext R x1) (rb.ext R x1) λρ2 H2 w x2 R2 r2=>k ρ2 H2 w (x1.trans R1 x2) R2 ?_;rw[Ba,if_neg hop];exact r2
    .cases e
   .cases e
  .cases e
def WY{te tb:TE}{mi mb:ME}{P:Addr}{q:Str}{pos:Pos}{ix:List Nat}(hi:RE K te mi)(hb:RE K tb mb)(TI:Ey K P q pos):RE K (LW K P q pos ix te tb) (EZ (λn m=>decide (n>m)) mi ix mb):=by
 and_intros;obtain⟨⟨d1,h1⟩,e1,hm⟩:=fW hm;obtain⟨ds,e2,hm⟩:=fW hm;obtain⟨kz,e3,hm⟩:=fW hm;dsimp only at hm e2 e3;split at hm
 .next x r n ns _=>
  cases hm;refine hi ρ σ H hd ls _ d1 _ hR hL e1 λρ1 H1 v1 x1 R1 r1=>?_;obtain⟨a,xs,rfl,sq,rs⟩:=RD.lst R1 r1 e2;obtain⟨p',et,_,l1,l2⟩:=id TI;obtain⟨ps,hP,hG⟩:=R1.tabs (P,q,p') et;have hG':DU H1 q pos ps:=by
   rcases hG with g|⟨c,g1,g2⟩
   .exact .inl g
   .refine .inr ⟨c,?_,g2⟩;rw[g1];show #[rawInt p'.line,rawInt p'.col,Value.ref c]=_;rw[l1,l2]
  refine⟨a,r.length,ps,rfl,hP,hG',λH2 c step hc=>?_⟩;obtain⟨R2,x2⟩:=IC R1 hP step TI;have x12:=x1.trans R1 x2;have L2':=hL.ext hR x12;have r2:=r1.ext R1 x2;obtain⟨a',xs,ea,sq,rs⟩:=RD.lst R2 r2 e2;cases ea;obtain⟨v,hv,rv⟩:=rs.get (i:=0) (d:=x) rfl;unfold Ce at e3;split at e3
  .next n' h e4=>
   split at e3
   .next ks e5=>
    split at e3
    .next eh=>
     cases e3;rw[eh]at e4;refine⟨xs,v,sq,hv,hc,hb ρ1 _ H2 _ _ _ (.im (.int n)) _ R2 (JG L2' rv) e4 λρ3 H3 v3 x3 R3 rk=>?_⟩;simp only[RD,RI]at rk;subst rk;have oc:c∉ρ1:=λm=>by rcases R2.mut m with⟨y,w⟩|⟨y,w⟩<;>(rw[hc]at w;cases w)
     refine⟨n,rfl,KY hb e2 r ns 1 x v n ρ3 H3 Q rfl (by simp) e5 R3 (L2'.ext R2 x3) (x3.keep c _ hc oc nt) (r2.ext R2 x3) (rv.ext R2 x3) λρ4 H4 w x4 R4 r4=>hQ ρ4 H4 w ((x12.trans R2 x3).trans R3 x4) R4 r4⟩
    .cases e3
   .cases e3
  .cases e3
 .cases hm
end
def X8(K:PySem.W.Frag){X:Cx}{c P:Addr}{scope:Scope}{fr:List Str}{ix:List Nat}{prm:Str}{params:Arguments}{body e:Expr}{p pos lpos kpos:Pos}{te tb:TE}{mi mb:ME}{k:Nat}(LA:LamAt X c P)(TI:Ey K P (X.env.qual++"<lambda>") lpos)(S:CSc X scope fr ix)(L:LSc scope prm)(hr:Room k X.A)(h3:3<=k)(hm:X.mg "max"=none)
 (he:QE K X e te mi) (hb:∀(f:Addr) (cd:Value) (s:Shared) (H:Hp),QE K (lCx X X.A.in1 (prm::fr) (X.env.qual++"<lambda>") scope f cd (AU X.env.cells scope.names []) s H) body tb mb)
 (hbind:∀(cl:List (Str×Addr)) (pm cd ctv us:Value),bindArgs (kla_fn "<lambda>" (X.env.qual++"<lambda>") params body scope cl pm cd ctv) ⟨[us],[]⟩=pure [(prm,us)])
 (hcm:X.calm=true:=by rfl) (hg:Gl X "max":=by rfl) (hdef:defaultsOf params X.env=([],[]):=by rfl) (hs:starEach [e] X.env=[(false,eval e X.env)]:=by rfl) (hK:X.K=K:=by rfl):
 QE K X (.Call (.Name "max" p) [e] [⟨some "key",.Lambda params body scope lpos,kpos⟩] pos) (LW K P (X.env.qual++"<lambda>") lpos ix te tb) (EZ (λn m=>decide (n>m)) mi ix mb):=by
 subst hK;exact⟨XU LA S L (hr.mono h3) hcm hg hm hbind he.p (λf cd s H=>(hb f cd s H).p) hdef hs,WY he.r (hb 0 .none X.s₀ X.H₀).r TI⟩
def Sk{op:Int->Int->Bool}{mi mb:ME}{ix:List Nat}{ls:Ls}{hd:Hd}{QE:D->Hd->Prop}(h:WE mi ls hd λd x=>∃(e:D) (es:List D) (kf:D->Int),Ar x d=some (e::es)/\(∀y∈e::es,mb (some y::ix.map λi=>(ls[i]?).join) x=some (.im (.int (kf y)),x))/\QE (Ba op es (es.map kf) e (kf e)) x):WE (EZ op mi ix mb) ls hd QE:=by
 obtain⟨d,x,e1,e,es,kf,e2,ek,q⟩:=h;have go:∀ys:List D,(∀y∈ys,mb (some y::ix.map λi=>(ls[i]?).join) x=some (.im (.int (kf y)),x))->Ce mb (ix.map λi=>(ls[i]?).join) x ys=some (ys.map kf):=by
  intro ys
  induction ys with
  |nil=>intro _;rfl
  |cons y r ih=>
   intro h;unfold Ce;rw[h y mem_cons_self,ih λz hz=>h z (mem_cons_of_mem _ hz)];simp
 refine⟨_,x,?_,q⟩;simp only[EZ,e1,bind_some,e2,go _ ek,map_cons]
def Im(kf:D->Int):∀(es:List D) (b:D),Ba (λn m=>decide (n>m)) es (es.map kf) b (kf b)∈b::es/\∀y∈b::es,kf y<=kf (Ba (λn m=>decide (n>m)) es (es.map kf) b (kf b))
 |[],b=>⟨mem_cons_self,λy hy=>by rw[mem_singleton]at hy;subst hy;exact Int.le_refl _⟩
 |e::es,b=>by
  rw[map_cons,Ba];by_cases h:kf e>kf b
  .rw[if_pos (by simpa using h)];obtain⟨h1,h2⟩:=Im kf es e;refine⟨mem_cons_of_mem _ h1,λy hy=>?_⟩;rcases mem_cons.mp hy with rfl|hy
   .have:=h2 e mem_cons_self;omega
   .exact h2 y hy
  .rw[if_neg (by simpa using h)];obtain⟨h1,h2⟩:=Im kf es b;refine⟨?_,λy hy=>?_⟩
   .rcases mem_cons.mp h1 with q|q
    .rw[q];exact mem_cons_self
    .exact mem_cons_of_mem _ (mem_cons_of_mem _ q)
   .rcases mem_cons.mp hy with rfl|hy
    .exact h2 y mem_cons_self
    .rcases mem_cons.mp hy with rfl|hy
     .have:=h2 b mem_cons_self;omega
     .exact h2 y (mem_cons_of_mem _ hy)
def Db(op:Int->Int->Bool)(mi:ME)(ix:List Nat)(mb:ME):ME:=λls hd=>(mi ls hd).bind λp=>(AX p.1).bind λds=>(Ce mb (ix.map λi=>(ls[i]?).join) p.2 ds).bind λkz=>match ds,kz with
 |d::r,n::ns=>some (Ba op r ns d n,p.2)
 |_,_=>none
section
variable{K:PySem.W.Frag}{hd:Hd}
def Io{op:Int->Int->Bool}{tb:TE}{mb:ME}{ix:List Nat}{q:Str}{c a:Addr}{d1:D}{ds:List D}(hb:RE K tb mb){ls:Ls}{σ:St}(ev:AX d1=some ds):∀(rs:List D) (ns:List Int) (j:Nat) (bd:D) (bv:V) (kb:Int) (ρ:List Addr) (H:Hp) (Q:VK),ds.drop j=rs->j<=ds.length ->
 Ce mb (ix.map λi=>(ls[i]?).join) hd rs=some ns->RH K ρ H hd->RL K ρ H ls σ->H c=some (.ext (cdF c q))->RD K ρ H d1 (.ref a)->RD K ρ H bd bv ->
 (∀ρ' H' v,Ext ρ H ρ' H'->RH K ρ' H' hd->RD K ρ' H' (Ba op rs ns bd kb) v->Q v H') ->
 Ee op (λH xs=>SqT K H a xs) (λH=>H c=some (.ext (cdF c q))) tb (ix.map λi=>(σ[i]?).join) rs.length j bv kb H Q
 |[],ns,j,bd,bv,kb,ρ,H,Q,hr,hj,e,R,L,hc,r1,rb,k=>by
  obtain⟨a',xs,ea,sq,rs⟩:=RD.tup r1 ev;cases ea;have hl:=rs.len;have hd0:=congrArg List.length hr;simp at hd0;refine⟨⟨xs,sq,by omega⟩,k ρ H bv .refl R ?_⟩;cases e;exact rb
 |x::r,ns,j,bd,bv,kb,ρ,H,Q,hr,hj,e,R,L,hc,r1,rb,k=>by
  obtain⟨a',xs,ea,sq,rs⟩:=RD.tup r1 ev;cases ea;have hjl:j<ds.length:=by
   have:=congrArg List.length hr;simp at this;omega
  have hxj:ds[j]?=some x:=by
   rw[drop_eq_getElem_cons hjl]at hr;rw[List.getElem?_eq_getElem hjl,(List.cons.inj hr).1]
  have hr':ds.drop (j+1)=r:=by
   rw[drop_eq_getElem_cons hjl]at hr;exact(List.cons.inj hr).2
  obtain⟨v,hv,rv⟩:=rs.get hxj;unfold Ce at e;split at e
  .next n h e1=>
   split at e
   .next ks e2=>
    split at e
    .next eh=>
     cases e;rw[eh]at e1;refine⟨xs,v,sq,hv,hc,hb ρ _ H _ _ _ (.im (.int n)) _ R (JG L rv) e1 λρ1 H1 v1 x1 R1 rk=>?_⟩;simp only[RD,RI]at rk;subst rk;have oc:c∉ρ:=λm=>by rcases R.mut m with⟨y,w⟩|⟨y,w⟩<;>(rw[hc]at w;cases w)
     refine⟨n,rfl,?_⟩;by_cases hop:op n kb=true
     .rw[if_pos hop];refine Io hb ev r ks (j+1) x v n ρ1 H1 Q hr' hjl e2 R1 (L.ext R x1) (x1.keep c _ hc oc nt) (r1.ext R x1) (rv.ext R x1) λρ2 H2 w x2 R2 r2=>k ρ2 H2 w (x1.trans R1 x2) R2 ?_;rw[Ba,if_pos hop];exact r2
     .rw[if_neg hop];refine Io hb ev r ks (j+1) bd bv kb ρ1 H1 Q hr' hjl e2 R1 (L.ext R x1) (x1.keep c _ hc oc nt) (r1.ext R x1) (rb.ext R x1) λρ2 H2 w x2 R2 r2=>k ρ2 H2 w (x1.trans R1 x2) R2 ?_;rw[Ba,if_neg hop];exact r2
    .cases e
   .cases e
  .cases e
end
section
variable{X:Cx}{pins:List (Addr×Obj)}{σ:St}{l f It S:Addr}{src:Hp->List V->Prop}{G:Hp->Prop}{tb:TE}{cap:St}{Q:VK}{E:Value->Shared->Prop}
def Rm(hh:X.A.handled=none)
 (hsrc:∀pins' H' s' xs,Inv X pins' σ H' s'->src H' xs->∃its:List Value,Vals xs its/\s'.heap.IsTuple l its.toArray) (hSI:S≠It) (n0:Nat) (hI0:∀H',H' It=none->FpOk X pins H' It) (hS0:∀H',H' S=none->FpOk X pins H' S)
 (turn:∀(pins':List (Addr×Obj)) (H1:Hp) (s1:Shared) (x:V) (u:Value) (Q1:VK),(∀p∈pins,p∈pins')->Inv X pins' σ H1 s1->RelV x u->G H1->tb (some x::cap) H1 Q1->wpAny (model X.prog X.w) X.A.in1 (call (.ref f) [u]) (EP X pins' σ Q1) (λ_ _=>False) s1):
 ∀(m:Nat) (j:Nat) (b:V) (vb:Value) (kb:Int) (tk:Tok) (c:Nat) (oI:Obj) (H:Hp) (s:Shared),Inv X ((S,seqObj "list" #[vb,.int kb tk] c)::(It,oI)::pins) σ H s->s.heap.IsTupleIter It l j->RelV b vb ->
   Ee (λn m=>decide (n<m)) src G tb cap m j b kb H Q->codeAny (model X.prog X.w) X.A (.builtin "min.loop" ⟨[.ref It,.ref f,.ref S],[]⟩) (λr s'=>match r with|.ok (.ret v)=>EP X pins σ Q v s'|.ok _=>False|.error e=>E e s') s:=by
 have hname:(toString "min"++toString ".loop":String)="min.loop":=by decide
 intro m
 induction m with
 |zero=>
  intro j b vb kb tk c oI H s J hit rb hgo;obtain⟨⟨xs,hG,hje⟩,hQ⟩:=hgo;have nS:=J.pin (S,seqObj "list" #[vb,.int kb tk] c) (mem_append_right _ mem_cons_self);have nI:=J.pin (It,oI) (mem_append_right _ (mem_cons_of_mem _ mem_cons_self));refine codeAny_builtin PySem.F.entry_min_loop ?_;rw[Around.under_plainId PySem.F.plain_min_loop _];show wpAny _ X.A.in1 (seqItems? (.ref S) >>= _) _ _ _;refine wpAny_bind (wpAny_seqItems nS.1 rfl ?_);show wpAny _ X.A.in1 (tryCatch (pyNext (.ref It)) _ >>= _) _ _ _;obtain⟨its,hv,hil⟩:=hsrc _ _ _ _ J hG;have hlen:=hv.length;refine wpAny_bind (wpAny_tryCatch (wpAny_pyNext_tuple_end hh hit hil (by simp;omega) λh' hk'=>?_));have hS':=hk' S _ hSI nS.1;have s1:=Heap.SameBut.update h' S (Obj.mapSeq λ_=>(#[]:Array Value));show wpAny _ X.A.in1 (updateSeq S (λ_=>#[]) >>= _) _ _ _;refine wpAny_bind ?_;refine wpAny_updateSeq hS' rfl (wpAny_bind (wpAny_letGo (wpAny_pure ?_)));have J1:Inv X ((It,oI)::pins) σ H s:=J.pins_of λp hp=>J.pin p (mem_append_right _ (mem_cons_of_mem _ hp));have J2:Inv X pins σ H { s with heap:=h',toks:=s.toks }:=J1.turnE (hI0 H nI.2.1) λc u n e=>hk' c u n e;have J3:=(J2.repin (hS0 H nS.2.1) hS' (λv z=>by cases z)).turnE (t':=s.toks) (hS0 H nS.2.1) λc u n e=>(s1.2 c n).trans e;exact⟨b,H,J3,rb,hQ⟩
 |succ m ih=>
  intro j b vb kb tk c oI H s J hit rb hgo;obtain⟨xs,x,hsr,hxj,hG,hgo⟩:=hgo;obtain⟨its,hv,hil⟩:=hsrc _ _ _ _ J hsr;obtain⟨u,hu,ru⟩:=hv.get hxj;have nS:=J.pin (S,seqObj "list" #[vb,.int kb tk] c) (mem_append_right _ mem_cons_self);have nI:=J.pin (It,oI) (mem_append_right _ (mem_cons_of_mem _ mem_cons_self));refine codeAny_builtin PySem.F.entry_min_loop ?_;rw[Around.under_plainId PySem.F.plain_min_loop _];show wpAny _ X.A.in1 (seqItems? (.ref S) >>= _) _ _ _;refine wpAny_bind (wpAny_seqItems nS.1 rfl ?_);show wpAny _ X.A.in1 (tryCatch (pyNext (.ref It)) _ >>= _) _ _ _;refine wpAny_bind (wpAny_tryCatch (wpAny_pyNext_tuple_item hit hil (x:=u) (by simpa using hu) λh' hit' hs'=>?_));obtain⟨oI',hoI',hoc,hod⟩:=id hit';have hSh':h'.get? S=some (seqObj "list" #[vb,.int kb tk] c):=(hs'.2 S hSI).trans nS.1;have dI:∀v,oI'.data≠.cell v:=λv z=>by rw[hod]at z;cases z
  have J1:Inv X ((It,oI)::pins) σ H s:=J.pins_of λp hp=>J.pin p (mem_append_right _ (mem_cons_of_mem _ hp));have J2:Inv X pins σ H { s with heap:=h',toks:=s.toks }:=J1.turnE (hI0 H nI.2.1) λc u n e=>(hs'.2 c n).trans e;have J3:=(J2.repin (hI0 H nI.2.1) hoI' dI).repin ((hS0 H nS.2.1).more hSI.symm) hSh' (λv z=>by cases z);show wpAny _ X.A.in1 (tryCatch (holding [u] (call (.ref f) [u])) _ >>= _) _ _ _;refine wpAny_bind (wpAny_tryCatch (wpAny_holding (wpAny_mono (turn _ H _ x u _ (λp hp=>mem_cons_of_mem _ (mem_cons_of_mem _ hp)) J3 ru hG hgo) (λv s2 he=>?_) λ_ _ hF=>hF.elim)));obtain⟨k,H2,J4,rk,n,rfl,hgo2⟩:=he;obtain⟨t2,rfl⟩:=rk;have nS2:=J4.pin (S,seqObj "list" #[vb,.int kb tk] c) (mem_append_right _ mem_cons_self);have nI2:=J4.pin (It,oI') (mem_append_right _ (mem_cons_of_mem _ mem_cons_self));show wpAny _ X.A.in1 (tryCatch (holding [u,.int n t2] (richCompare .Lt (.int n t2) (.int kb tk) >>= _)) _ >>= _) _ _ _;refine wpAny_bind (wpAny_tryCatch (wpAny_holding (wpAny_bind (richCompare_gives (op:=.Lt) (typeIs_int s2 _ t2) (typeIs_int s2 _ tk) F.slot_int_lt F.entry_int_lt (F.args_int_lt_2 _ _) (gives_int_lt _ _ t2 tk) (λx=>nomatch x) ?_))));refine wpAny_bind (wpAny_holding (wpAny_truthy_bool ?_));refine wpAny_bind (wpAny_letGo (wpAny_pure ?_));by_cases hb':n<kb
  .have s1:=Heap.SameBut.update s2.heap S (Obj.mapSeq λ_=>#[u,.int n t2]);obtain⟨c2,hc2⟩:∃c2,(s2.heap.update S (Obj.mapSeq λ_=>#[u,.int n t2])).get? S=some (seqObj "list" #[u,.int n t2] c2):=⟨_,get?_update_seq nS2.1 λ_=>#[u,.int n t2]⟩
   simp only[hb',decide_true,if_true]at hgo2 ⊢;refine wpAny_bind ?_;refine wpAny_updateSeq nS2.1 rfl (wpAny_bind (wpAny_letGo ?_));rw[hname];have J5:Inv X ((S,seqObj "list" #[vb,.int kb tk] c)::pins) σ H2 s2:=J4.pins_of λp hp=>by
    rcases mem_cons.mp hp with rfl|hp
    .exact nS2
    .exact J4.pin p (mem_append_right _ (mem_cons_of_mem _ (mem_cons_of_mem _ hp)))
   have J6:Inv X pins σ H2 { s2 with heap:=s2.heap.update S (Obj.mapSeq λ_=>#[u,.int n t2]),toks:=s2.toks }:=J5.turnE (hS0 H2 nS2.2.1) λc u n e=>(s1.2 c n).trans e;have gI:(s2.heap.update S (Obj.mapSeq λ_=>#[u,.int n t2])).get? It=some oI':=(s1.2 It hSI.symm).trans nI2.1;have J7:=(J6.repin (hI0 H2 nI2.2.1) gI dI).repin ((hS0 H2 nS2.2.1).more hSI.symm) hc2 (λv z=>by cases z);exact wpAny_pure ⟨plainId_quiet PySem.F.plain_min_loop _,ih (j+1) x u n t2 c2 oI' H2 _ J7 ⟨oI',gI,hoc,hod⟩ ru hgo2⟩
  .simp only[hb',decide_false,Bool.false_eq_true,if_false]at hgo2 ⊢;refine wpAny_bind (wpAny_letGo ?_);rw[hname];exact wpAny_pure ⟨plainId_quiet PySem.F.plain_min_loop _,ih (j+1) b vb kb tk c oI' H2 _ J4 ⟨oI',nI2.1,hoc,hod⟩ rb hgo2⟩
def UW{H:Hp}{s:Shared}(hh:X.A.handled=none)(I:Inv X pins σ H s)(hsrc:∀pins' H' s' xs,Inv X pins' σ H' s'->src H' xs->∃its:List Value,Vals xs its/\s'.heap.IsTuple l its.toArray)
 (turn:∀(pins':List (Addr×Obj)) (H1:Hp) (s1:Shared) (x:V) (u:Value) (Q1:VK),(∀p∈pins,p∈pins')->Inv X pins' σ H1 s1->RelV x u->G H1->tb (some x::cap) H1 Q1->wpAny (model X.prog X.w) X.A.in1 (call (.ref f) [u]) (EP X pins' σ Q1) (λ_ _=>False) s1)
 {m:Nat} (h:FV (λn m=>decide (n<m)) src G tb cap m H Q):wpAny (model X.prog X.w) X.A (call (.builtin "min") [.ref l] [(Str.ofString "key",.ref f)]) (EP X pins σ Q) E s:=by
 have hname:(toString "min"++toString ".loop":String)="min.loop":=by decide
 obtain⟨xs,x,hsr,hx0,hG,hgo⟩:=h;obtain⟨_,_,hls⟩:=hsrc _ _ _ _ I hsr;refine kmk_tree PySem.F.kind_min PySem.F.plain_min PySem.F.entry_min (kmk_min_key _ _) ?_;show wpAny _ X.A.in1 (Builtin.Builtins.bindParams "min" ["key","default"] 0 ⟨[],[(Str.ofString "key",.ref f)]⟩ >>= _) _ _ s;refine wpAny_bind (wpAny_of_eq (show Builtin.Builtins.bindParams "min" ["key","default"] 0 ⟨[],[(Str.ofString "key",.ref f)]⟩=pure [some (.ref f),none]from rfl) ?_);refine wpAny_bind (wpAny_pure ?_);refine wpAny_bind (wpAny_pyIter_tuple hls ?_);refine wpAny_bind (wpAny_newList ?_ (zero_le _));rw[hname];have hS:(s.heap.push { cls:=.type "tuple_iterator",data:=.fields #[.ref l,.int 0 0] }).objs.size=s.heap.objs.size+1:=size_push' ..;rw[hS];have gI:((s.heap.push { cls:=.type "tuple_iterator",data:=.fields #[.ref l,.int 0 0] }).push (seqObj "list" #[] 0)).get? s.heap.objs.size=some { cls:=.type "tuple_iterator",data:=.fields #[.ref l,.int 0 0] }:=
  Heap.get?_push_of_some _ (Heap.get?_push_size _ rfl)
 have gS:((s.heap.push { cls:=.type "tuple_iterator",data:=.fields #[.ref l,.int 0 0] }).push (seqObj "list" #[] 0)).get? (s.heap.objs.size+1)=some (seqObj "list" #[] 0):=by rw[<- hS];exact Heap.get?_push_size _ rfl
 have kp:∀b o,s.heap.get? b=some o->((s.heap.push { cls:=.type "tuple_iterator",data:=.fields #[.ref l,.int 0 0] }).push (seqObj "list" #[] 0)).get? b=some o:=λb o e=>Heap.get?_push_of_some _ (Heap.get?_push_of_some _ e);have I1:Inv X pins σ H { s with heap:=(s.heap.push { cls:=.type "tuple_iterator",data:=.fields #[.ref l,.int 0 0] }).push (seqObj "list" #[] 0),toks:=s.toks }:=I.kept (t':=s.toks) kp;have hSI:s.heap.objs.size+1≠s.heap.objs.size:=ne_of_gt (Nat.lt_succ_self _);have hI0:∀H',H' s.heap.objs.size=none->FpOk X pins H' s.heap.objs.size:=λH' hn=>I.fpOk (le_refl _) hn;have hS0:∀H',H' (s.heap.objs.size+1)=none->FpOk X pins H' (s.heap.objs.size+1):=λH' hn=>I.fpOk (le_succ _) hn;have nI:H s.heap.objs.size=none:=I.hok.fresh (le_refl _);have nS:H (s.heap.objs.size+1)=none:=I.hok.fresh (le_succ _);generalize (s.heap.push { cls:=.type "tuple_iterator",data:=.fields #[.ref l,.int 0 0] }).push (seqObj "list" #[] 0)=h1 at gI gS I1 ⊢;refine wpAny_pure ⟨plainId_quiet PySem.F.plain_min_loop _,?_⟩;refine codeAny_builtin PySem.F.entry_min_loop ?_;rw[Around.under_plainId PySem.F.plain_min_loop _];show wpAny _ X.A.in1 (seqItems? (.ref (s.heap.objs.size+1)) >>= _) _ _ _;refine wpAny_bind (wpAny_seqItems gS rfl ?_);show wpAny _ X.A.in1 (tryCatch (pyNext (.ref s.heap.objs.size)) _ >>= _) _ _ _;obtain⟨its,hv,hil⟩:=hsrc _ _ _ _ I1 hsr;obtain⟨u,hu,ru⟩:=hv.get hx0;refine wpAny_bind (wpAny_tryCatch (wpAny_pyNext_tuple_item (i:=0) ⟨_,gI,rfl,rfl⟩ hil (x:=u) (by simpa using hu) λh' hit' hs'=>?_));obtain⟨oI',hoI',hoc,hod⟩:=id hit';have dI:∀v,oI'.data≠.cell v:=λv z=>by rw[hod]at z;cases z
 have hSh':h'.get? (s.heap.objs.size+1)=some (seqObj "list" #[] 0):=(hs'.2 _ hSI).trans gS;have J2:Inv X pins σ H { s with heap:=h',toks:=s.toks }:=(I1.repin (hI0 H nI) gI (λv z=>by cases z)).turnE (hI0 H nI) λc u n e=>(hs'.2 c n).trans e;have J3:=(J2.repin (hI0 H nI) hoI' dI).repin ((hS0 H nS).more hSI.symm) hSh' (λv z=>by cases z);show wpAny _ X.A.in1 (tryCatch (holding [u] (call (.ref f) [u])) _ >>= _) _ _ _;refine wpAny_bind (wpAny_tryCatch (wpAny_holding (wpAny_mono (turn _ H _ x u _ (λp hp=>mem_cons_of_mem _ (mem_cons_of_mem _ hp)) J3 ru hG hgo) (λv s2 he=>?_) λ_ _ hF=>hF.elim)));obtain⟨k,H2,J4,rk,n,rfl,hgo2⟩:=he;obtain⟨t2,rfl⟩:=rk;have nS2:=J4.pin (s.heap.objs.size+1,seqObj "list" #[] 0) (mem_append_right _ mem_cons_self);have nI2:=J4.pin (s.heap.objs.size,oI') (mem_append_right _ (mem_cons_of_mem _ mem_cons_self));have s1:=Heap.SameBut.update s2.heap (s.heap.objs.size+1) (Obj.mapSeq λ_=>#[u,.int n t2]);obtain⟨c2,hc2⟩:∃c2,(s2.heap.update (s.heap.objs.size+1) (Obj.mapSeq λ_=>#[u,.int n t2])).get? (s.heap.objs.size+1)=some (seqObj "list" #[u,.int n t2] c2):=⟨_,get?_update_seq nS2.1 λ_=>#[u,.int n t2]⟩
 show wpAny _ X.A.in1 (updateSeq (s.heap.objs.size+1) (λ_=>#[u,.int n t2]) >>= _) _ _ _;refine wpAny_bind ?_;refine wpAny_updateSeq nS2.1 rfl ?_;rw[hname];have J5:Inv X ((s.heap.objs.size+1,seqObj "list" #[] 0)::pins) σ H2 s2:=J4.pins_of λp hp=>by
  rcases mem_cons.mp hp with rfl|hp
  .exact nS2
  .exact J4.pin p (mem_append_right _ (mem_cons_of_mem _ (mem_cons_of_mem _ hp)))
 have J6:Inv X pins σ H2 { s2 with heap:=s2.heap.update (s.heap.objs.size+1) (Obj.mapSeq λ_=>#[u,.int n t2]),toks:=s2.toks }:=J5.turnE (hS0 H2 nS2.2.1) λc u n e=>(s1.2 c n).trans e;have gI2:(s2.heap.update (s.heap.objs.size+1) (Obj.mapSeq λ_=>#[u,.int n t2])).get? s.heap.objs.size=some oI':=(s1.2 _ hSI.symm).trans nI2.1;have J7:=(J6.repin (hI0 H2 nI2.2.1) gI2 dI).repin ((hS0 H2 nS2.2.1).more hSI.symm) hc2 (λv z=>by cases z);exact wpAny_pure ⟨plainId_quiet PySem.F.plain_min_loop _,Rm hh hsrc hSI 0 hI0 hS0 turn m 1 x u n t2 c2 oI' H2 _ J7 ⟨oI',gI2,hoc,hod⟩ ru hgo2⟩
end
def Iz(K:PySem.W.Frag)(P:Addr)(q:Str)(pos:Pos)(ix:List Nat)(te tb:TE):TE:=λσ H Q=>te σ H λv H1=>∃(a:Addr) (m:Nat) (ps:Array Value),v=.ref a/\H1 P=some (.tbl ps)/\DU H1 q pos ps /\
 ∀H2 c,TabStep P q pos H1 H2->H2 c=some (.ext (cdF c q))->FV (λn m=>decide (n<m)) (λH xs=>SqT K H a xs) (λH=>H c=some (.ext (cdF c q))) tb (ix.map λi=>(σ[i]?).join) m H2 Q
section
variable{X:Cx}{c P:Addr}{scope:Scope}{fr:List Str}{ix:List Nat}{prm:Str}{params:Arguments}{body e:Expr}{p pos lpos kpos:Pos}{te tb:TE}
def UF(LA:LamAt X c P)(S:CSc X scope fr ix)(L:LSc scope prm)(hr:Room 3 X.A)(hcm:X.calm=true)(hg:Gl X "min")(hm:X.mg "min"=none)
 (hbind:∀(cl:List (Str×Addr)) (pm cd ctv us:Value),bindArgs (kla_fn "<lambda>" (X.env.qual++"<lambda>") params body scope cl pm cd ctv) ⟨[us],[]⟩=pure [(prm,us)])
 (he:PE X e te) (hb:∀(f:Addr) (cd:Value) (s:Shared) (H:Hp),PE (lCx X X.A.in1 (prm::fr) (X.env.qual++"<lambda>") scope f cd (AU X.env.cells scope.names []) s H) body tb)
 (hdef:defaultsOf params X.env=([],[]):=by rfl) (hs:starEach [e] X.env=[(false,eval e X.env)]:=by rfl):
 PE X (.Call (.Name "min" p) [e] [⟨some "key",.Lambda params body scope lpos,kpos⟩] pos) (Iz X.K P (X.env.qual++"<lambda>") lpos ix te tb):=by
 intro pins s σ H Q I h;have PAe:PA X [e] (BH te BR):=Bi he Bw hs;refine wpAny_Call_Name_kw (DL (u:=.builtin "min") I hg hm bt_min ?_);have pl:(backTo pos (starEach [e] X.env)).any (·.1)=false:=by rw[hs];rfl
 refine callWith_builtin_kwB pl rfl (evalArgs_kw2 (env:=X.env) (e:=e) (rest:=[]) (kws:=[⟨some "key",.Lambda params body scope lpos,kpos⟩]) rfl (thn (PAe pos pins s σ H (λvs H1=>match vs with
  |[v]=>∃(a:Addr) (m:Nat) (ps:Array Value),v=.ref a/\H1 P=some (.tbl ps)/\DU H1 (X.env.qual++"<lambda>") lpos ps /\
   ∀H2 c,TabStep P (X.env.qual++"<lambda>") lpos H1 H2->H2 c=some (.ext (cdF c (X.env.qual++"<lambda>")))->FV (λn m=>decide (n<m)) (λH xs=>SqT X.K H a xs) (λH=>H c=some (.ext (cdF c (X.env.qual++"<lambda>")))) tb (ix.map λi=>(σ[i]?).join) m H2 Q
  | _=>False) I h) λus s1 hq=>?_) hs)
 obtain⟨vs,H1,I1,r,q⟩:=hq
 match vs,q with
 |[v],q=>
 obtain⟨a,m,ps,rfl,hP,hg1,go⟩:=q;obtain⟨u,rfl,ru⟩:=BX r;cases ru;show wpAny _ _ (evalAll [(do let v <- eval (.Lambda params body scope lpos) X.env;standAt pos;pure v)]) _ _ s1;refine wpAny_evalAll_cons (wpAny_bind (IY S LA I1 hdef hP hg1 λf cd ctv H2 s2 I2 M=>wpAny_bind (wpAny_standAt (wpAny_pure (wpAny_evalAll_nil ?_)))));show wpAny _ _ (call (.builtin "min") [.ref a] [(Str.ofString "key",.ref f)]) _ _ s2;obtain⟨c',rfl,hc'⟩:=M.cdc;have go':=go H2 c' M.step hc';have ff:FpOk X pins H2 f:=I1.fpOk M.new M.fre;have I3:=I2.repin ff M.fn (λv z=>by cases z);refine wpAny_mono (UW (pins:=(f,_)::pins) (I3.ok.hd hcm) I3 (λpins' H' s' xs J hG=>?_) (λpins' H' s' x u Q1 sub J ru hG hq=>?_) go') (λv s' hv=>?_) λ_ _ z=>z
 .obtain⟨its,rv,pl2,hz⟩:=J.tuple hG;exact⟨its,rv,pl2⟩
 .have pf:=J.pin (f,_) (mem_append_right _ (sub _ mem_cons_self));exact IZ (A:=X.A.in1) (f:=f) S L J rfl (hr.in1.mono (by decide)) pf.1 (J.hok c' _ hG).1 (λus=>hbind _ _ _ _ us) (λs H=>hb f _ s H) ru hq
 .obtain⟨y,H',J,ry,qy⟩:=hv;exact⟨y,H',J.pins_of λp hp=>J.pin p (mem_append_right _ (mem_cons_of_mem _ hp)),ry,qy⟩
end
section
variable{K:PySem.W.Frag}{hd:Hd}
def Te{te tb:TE}{mi mb:ME}{P:Addr}{q:Str}{pos:Pos}{ix:List Nat}(hi:RE K te mi)(hb:RE K tb mb)(TI:Ey K P q pos):RE K (Iz K P q pos ix te tb) (Db (λn m=>decide (n<m)) mi ix mb):=by
 and_intros;obtain⟨⟨d1,h1⟩,e1,hm⟩:=fW hm;obtain⟨ds,e2,hm⟩:=fW hm;obtain⟨kz,e3,hm⟩:=fW hm;dsimp only at hm e2 e3;split at hm
 .next x r n ns _=>
  cases hm;refine hi ρ σ H hd ls _ d1 _ hR hL e1 λρ1 H1 v1 x1 R1 r1=>?_;obtain⟨a,xs,rfl,sq,rs⟩:=RD.tup r1 e2;obtain⟨p',et,_,l1,l2⟩:=id TI;obtain⟨ps,hP,hG⟩:=R1.tabs (P,q,p') et;have hG':DU H1 q pos ps:=by
   rcases hG with g|⟨c,g1,g2⟩
   .exact .inl g
   .refine .inr ⟨c,?_,g2⟩;rw[g1];show #[rawInt p'.line,rawInt p'.col,Value.ref c]=_;rw[l1,l2]
  refine⟨a,r.length,ps,rfl,hP,hG',λH2 c step hc=>?_⟩;obtain⟨R2,x2⟩:=IC R1 hP step TI;have x12:=x1.trans R1 x2;have L2':=hL.ext hR x12;have r2:=r1.ext R1 x2;obtain⟨a',xs,ea,sq,rs⟩:=RD.tup r2 e2;cases ea;obtain⟨v,hv,rv⟩:=rs.get (i:=0) (d:=x) rfl;unfold Ce at e3;split at e3
  .next n' h e4=>
   split at e3
   .next ks e5=>
    split at e3
    .next eh=>
     cases e3;rw[eh]at e4;refine⟨xs,v,sq,hv,hc,hb ρ1 _ H2 _ _ _ (.im (.int n)) _ R2 (JG L2' rv) e4 λρ3 H3 v3 x3 R3 rk=>?_⟩;simp only[RD,RI]at rk;subst rk;have oc:c∉ρ1:=λm=>by rcases R2.mut m with⟨y,w⟩|⟨y,w⟩<;>(rw[hc]at w;cases w)
     refine⟨n,rfl,Io hb e2 r ns 1 x v n ρ3 H3 Q rfl (by simp) e5 R3 (L2'.ext R2 x3) (x3.keep c _ hc oc nt) (r2.ext R2 x3) (rv.ext R2 x3) λρ4 H4 w x4 R4 r4=>hQ ρ4 H4 w ((x12.trans R2 x3).trans R3 x4) R4 r4⟩
    .cases e3
   .cases e3
  .cases e3
 .cases hm
end
def U1(K:PySem.W.Frag){X:Cx}{c P:Addr}{scope:Scope}{fr:List Str}{ix:List Nat}{prm:Str}{params:Arguments}{body e:Expr}{p pos lpos kpos:Pos}{te tb:TE}{mi mb:ME}{k:Nat}(LA:LamAt X c P)(TI:Ey K P (X.env.qual++"<lambda>") lpos)(S:CSc X scope fr ix)(L:LSc scope prm)(hr:Room k X.A)(h3:3<=k)(hm:X.mg "min"=none)
 (he:QE K X e te mi) (hb:∀(f:Addr) (cd:Value) (s:Shared) (H:Hp),QE K (lCx X X.A.in1 (prm::fr) (X.env.qual++"<lambda>") scope f cd (AU X.env.cells scope.names []) s H) body tb mb)
 (hbind:∀(cl:List (Str×Addr)) (pm cd ctv us:Value),bindArgs (kla_fn "<lambda>" (X.env.qual++"<lambda>") params body scope cl pm cd ctv) ⟨[us],[]⟩=pure [(prm,us)])
 (hcm:X.calm=true:=by rfl) (hg:Gl X "min":=by rfl) (hdef:defaultsOf params X.env=([],[]):=by rfl) (hs:starEach [e] X.env=[(false,eval e X.env)]:=by rfl) (hK:X.K=K:=by rfl):
 QE K X (.Call (.Name "min" p) [e] [⟨some "key",.Lambda params body scope lpos,kpos⟩] pos) (Iz K P (X.env.qual++"<lambda>") lpos ix te tb) (Db (λn m=>decide (n<m)) mi ix mb):=by
 subst hK;exact⟨UF LA S L (hr.mono h3) hcm hg hm hbind he.p (λf cd s H=>(hb f cd s H).p) hdef hs,Te he.r (hb 0 .none X.s₀ X.H₀).r TI⟩
def QJ{op:Int->Int->Bool}{mi mb:ME}{ix:List Nat}{ls:Ls}{hd:Hd}{QE:D->Hd->Prop}(h:WE mi ls hd λd x=>∃(e:D) (es:List D) (kf:D->Int),AX d=some (e::es)/\(∀y∈e::es,mb (some y::ix.map λi=>(ls[i]?).join) x=some (.im (.int (kf y)),x))/\QE (Ba op es (es.map kf) e (kf e)) x):WE (Db op mi ix mb) ls hd QE:=by
 obtain⟨d,x,e1,e,es,kf,e2,ek,q⟩:=h;have go:∀ys:List D,(∀y∈ys,mb (some y::ix.map λi=>(ls[i]?).join) x=some (.im (.int (kf y)),x))->Ce mb (ix.map λi=>(ls[i]?).join) x ys=some (ys.map kf):=by
  intro ys
  induction ys with
  |nil=>intro _;rfl
  |cons y r ih=>
   intro h;unfold Ce;rw[h y mem_cons_self,ih λz hz=>h z (mem_cons_of_mem _ hz)];simp
 refine⟨_,x,?_,q⟩;simp only[Db,e1,bind_some,e2,go _ ek,map_cons]
def Il(kf:D->Int):∀(es:List D) (b:D),Ba (λn m=>decide (n<m)) es (es.map kf) b (kf b)∈b::es/\∀y∈b::es,kf (Ba (λn m=>decide (n<m)) es (es.map kf) b (kf b))<=kf y
 |[],b=>by simp[Ba]
 |x::r,b=>by
  rw[map_cons,Ba];by_cases h:decide (kf x<kf b)=true
  .rw[if_pos h];have h:=of_decide_eq_true h;obtain⟨h1,h2⟩:=Il kf r x;refine⟨mem_cons_of_mem _ h1,λy hy=>?_⟩;rcases mem_cons.mp hy with rfl|hy
   .have:=h2 x mem_cons_self;omega
   .exact h2 y hy
  .rw[if_neg h];have h:¬ kf x<kf b:=λz=>h (decide_eq_true z);obtain⟨h1,h2⟩:=Il kf r b;refine⟨?_,λy hy=>?_⟩
   .rcases mem_cons.mp h1 with e|e
    .rw[e];exact mem_cons_self
    .exact mem_cons_of_mem _ (mem_cons_of_mem _ e)
   .rcases mem_cons.mp hy with rfl|hy
    .exact h2 y mem_cons_self
    .rcases mem_cons.mp hy with rfl|hy
     .have:=h2 b mem_cons_self;omega
     .exact h2 y (mem_cons_of_mem _ hy)
end L2
namespace L2
open PySem PySem.Spec PyProof.Rows
def LK:seqSlot? (.type "list") (dunderI "add")=pure (some (.builtin "list.__iadd__")):=PySem.seqSlot_of F.slot_list_iadd.lookup (by decide +kernel)
def Sf{M:Model}{A:Around}{E:Value->Shared->Prop}{s:Shared}{a b:Value}{Q:Value->Shared->Prop}(ha:s.TypeIs a "list")(hb:s.TypeIs b "list")
 (hc:wpAny M A (call (.builtin "list.__iadd__") [a,b]) Q E s):wpAny M A (inplaceOp .Add a b) Q E s:=by
 unfold inplaceOp;refine wpAny_holding ?_;have hfi:fillsInplaceSlot (.type "list") "add" (Operator.Add==.Add)=pure false:=by
  unfold fillsInplaceSlot;show(typeLookup (.type "list") (dunderI "add") >>= λfi=>pure (fi.isSome&&!isSeqSlot fi))=pure false;rw[F.slot_list_iadd.lookup,pure_bind];have:isSeqSlot (some (.builtin "list.__iadd__"))=true:=by decide +kernel
  rw[this];rfl
 refine wpAny_bind (wpAny_typeOf ha (wpAny_bind (wpAny_of_eq hfi ?_)));show wpAny M A (if false=true then _ else _) Q E s;rw[if_neg Bool.false_ne_true];refine wpAny_bind (wpAny_binaryOp1_none (nm:="add") ha hb noFill_list_add ?_);refine wpAny_bind (wpAny_of_eq LK ?_);exact wpAny_bind (wpAny_rule hc)
def ipL:TIp:=λx y H Q=>∃l b xs zs,x=.ref l/\y=.ref b/\H l=some (.lst xs)/\H b=some (.lst zs)/\xs.length+zs.length<=sizeLine/\Q (.ref l) (upd H l (.lst (xs++zs)))
def Y4{X:Cx}:PIp X .Add ipL:=by
 intro pins s σ H x y v u Q I rx ry h;obtain⟨l,b,xs,zs,rfl,rfl,hH,hB,hz,q⟩:=h;cases rx;cases ry;obtain⟨z,its,n,r,hl,e⟩:=I.lstM hH;obtain⟨z2,its2,n2,r2,hl2,e2⟩:=I.lstM hB;have hsz:its.toArray.size+its2.toArray.size<=sizeLine:=by rw[size_toArray,size_toArray];omega
 have hlong:¬ (!its.toArray.isEmpty&&Builtin.List.listTooLong (its.toArray.size+its2.toArray.size))=true:=by
  rw[IT hsz,Bool.and_false];exact Bool.false_ne_true
 refine Sf ⟨_,e,rfl⟩ ⟨_,e2,rfl⟩ (call_meets F.slot_list_iadd ⟨_,e,rfl⟩ F.entry_list_iadd (F.args_list_iadd_2 _ _)
  (AutoSeq1.list___iadd___list_list_0 l its.toArray n b its2.toArray n2 hlong (by rw[size_toArray];omega) (by omega)) ⟨e,e2,?_⟩)
 refine⟨.ref l,_,I.lset (its':=its++its2) hH e (by simp) (r.append r2) ?_,rfl,q⟩;rw[length_append];omega
section
variable{K:PySem.W.Frag}
open Classical in
def fC:D->List D->Hd->Option (D×Hd)
 |.mu n,[d],hd=>match hd[n]?,AX d with
  |some (.lst ds),some es=>if BT (ds.length+es.length)then some (.im .non,hd.set n (.lst (ds++es)))else none
  |_,_=>none
 |_,_,_=>none
open Classical in
def Er(i:Nat)(m:ME):MS:=λls hd=>match ls[i]? with
 |some (some (.mu n))=>(m ls hd).bind λp=>match p.1 with
  |.mu k=>match p.2[n]?,p.2[k]? with
   |some (.lst ds),some (.lst es)=>if BT (ds.length+es.length)then some (.nx (ls.set i (some (.mu n))),p.2.set n (.lst (ds++es)))else none
   |_,_=>none
  |_=>none
 |_=>none
def WC{i:Nat}{t:TE}{m:ME}(h:RE K t m):RS K (T6 i t ipL) (Er i m):=by
 intro ρ σ H hd0 ls E f hd' hR hL hm hQ;unfold Er at hm;split at hm
 .next n e0=>
  obtain⟨⟨d1,h1⟩,e1,hm⟩:=fW hm;dsimp only at hm;split at hm
  .next k=>
   split at hm
   .next ds es q1 q2=>
    split at hm
    .next c=>
     cases hm;obtain⟨v,v1,v2⟩:=hL.ob i _ e0;refine⟨_,v1,h ρ σ H hd0 ls _ _ _ hR hL e1 λρ1 H1 w x1 R1 r1=>?_⟩;have v3:=v2.ext hR x1;simp only[RD]at v3 r1;obtain⟨a,hn,rfl⟩:=v3;obtain⟨b,hm,rfl⟩:=r1;obtain⟨xs,f1,f2⟩:=R1.lst hn q1;obtain⟨ys,g1,g2⟩:=R1.lst hm q2;have l1:=f2.len;have l2:=g2.len;obtain⟨R2,x2⟩:=R1.put hn (o:=.lst (ds++es)) (ho:=.lst (xs++ys)) ⟨_,rfl,f2.app g2⟩;refine⟨a,b,xs,ys,rfl,rfl,f1,g1,by rw[l1,l2];exact c,hQ ρ1 _ (x1.trans R1 x2) R2 _ ((hL.ext hR (x1.trans R1 x2)).set i ?_)⟩;simp only[RD];exact⟨a,hn,rfl⟩
    .cases hm
   .cases hm
  .cases hm
 .cases hm
def Wv{X:Cx}{i:Nat}{x:Str}{e:Expr}{te:TE}{me:ME}{pos pos':Pos}(hN:X.N.Nodup)(hi:X.N[i]?=some x)(hx:Loc X.env.scope x)(he:QE K X e te me)(hf:X.fn x=true∨X.env.scope.names.lookup x=some .local:=by first|exact .inl rfl|exact .inr rfl|assumption):
 QS K X (.AugAssign (.Name x pos') .Add e pos) (T6 i te ipL) (Er i me):=⟨aC hN hi hx he.p Y4 hf,WC he.r⟩
def Dy(f g:D->D->Hd->Option (D×Hd))(ma mb mc:ME):ME:=λls hd=>(ma ls hd).bind λp=>(mb ls p.2).bind λq=>(f p.1 q.1 q.2).bind λr=>match r.1 with
 |.im (.bl k)=>if k=true then(mc ls r.2).bind λu=>g q.1 u.1 u.2 else some (.im (.bl false),r.2)
 |_=>none
def Tf{r r':R2}{f g:D->D->Hd->Option (D×Hd)}{ta tb tc:TE}{ma mb mc:ME}(hr:RB K r f)(hr':RB K r' g)(ha:RE K ta ma)(hb:RE K tb mb)(hc:RE K tc mc):RE K (M5 r r' ta tb tc) (Dy f g ma mb mc):=by
 and_intros;obtain⟨⟨d1,h1⟩,e1,hm⟩:=fW hm;obtain⟨⟨d2,h2⟩,e2,hm⟩:=fW hm;obtain⟨⟨d3,h3⟩,e3,hm⟩:=fW hm;dsimp only at hm;refine ha ρ σ H hd ls _ d1 h1 hR hL e1 λρ1 H1 v1 x1 R1 r1=>?_;refine hb ρ1 σ H1 h1 ls _ d2 h2 R1 (hL.ext hR x1) e2 λρ2 H2 v2 x2 R2 r2=>?_;refine hr ρ2 H2 h2 d1 d2 v1 v2 _ d3 h3 R2 (r1.ext R1 x2) r2 e3 λρ3 H3 w x3 R3 r3=>?_;have X3:=(x1.trans R1 x2).trans R2 x3;split at hm
 .next k=>
  simp only[RD,RI]at r3;refine⟨k,r3,?_⟩;cases k with
  |false=>
   simp only[Bool.false_eq_true,if_false]at hm ⊢;cases hm;exact hQ ρ3 H3 _ X3 R3 (by simp[RD,RI])
  |true=>
   simp only[if_true]at hm ⊢;obtain⟨⟨d4,h4⟩,e4,hm⟩:=fW hm;refine hc ρ3 σ H3 h3 ls _ d4 h4 R3 (hL.ext hR X3) e4 λρ4 H4 v4 x4 R4 r4=>?_;exact hr' ρ4 H4 h4 d2 d4 v2 v4 Q d hd' R4 ((r2.ext R2 x3).ext R3 x4) r4 hm λρ' H' w x5 R5 r5=>hQ ρ' H' w ((X3.trans R3 x4).trans R4 x5) R5 r5
 .cases hm
def Tr{X:Cx}{a b c:Expr}{ta tb tc:TE}{ma mb mc:ME}{pos:Pos}{op op':CmpOp}{r r':R2}{f g:D->D->Hd->Option (D×Hd)}(ho:OpR X (compareOp op) r)(hr:RB K r f)(ho':OpR X (compareOp op') r')(hr':RB K r' g)(ha:QE K X a ta ma)(hb:QE K X b tb mb)(hc:QE K X c tc mc)
 (hm:lastMarks [op,op'] [b,c]=false:=by with_unfolding_all rfl):QT K X (.Compare a [op,op'] [b,c] pos) (Ei (M5 r r' ta tb tc)) (A6 (Dy f g ma mb mc)):=⟨U8 ho ho' ha.p hb.p hc.p hm,D7 (Tf hr hr' ha.r hb.r hc.r)⟩
def Sj{f g:D->D->Hd->Option (D×Hd)}{ma mb mc:ME}{ls:Ls}{hd:Hd}{Q:D->Hd->Prop}(h:WE ma ls hd λd x=>WE mb ls x λe y=>WP (f d e y) λr z=>∃k,r=.im (.bl k)/\(k=true->WE mc ls z λu w=>WP (g e u w) Q)/\(k=false->Q (.im (.bl false)) z)):WE (Dy f g ma mb mc) ls hd Q:=by
 obtain⟨d,x,e1,e,y,e2,r,z,e3,k,rfl,h1,h2⟩:=h;cases k with
 |false=>exact⟨_,_,by simp only[Dy,e1,e2,e3,bind_some,Bool.false_eq_true,if_false],h2 rfl⟩
 |true=>
  obtain⟨u,w,e4,v,t,e5,q⟩:=h1 rfl;exact⟨v,t,by simp only[Dy,e1,e2,e3,bind_some,if_true,e4,e5],q⟩
def Nm{i n:Nat}{m:ME}{ls:Ls}{hd:Hd}{Q:Fl->Hd->Prop}(e:ls[i]?=some (some (.mu n)))(h:WE m ls hd λd y=>∃k ds es,d=.mu k/\y[n]?=some (.lst ds)/\y[k]?=some (.lst es)/\BT (ds.length+es.length)/\Q (.nx (ls.set i (some (.mu n)))) (y.set n (.lst (ds++es)))):WS (Er i m) ls hd Q:=by
 obtain⟨d,y,e1,k,ds,es,rfl,q1,q2,c,q⟩:=h;exact⟨_,_,by unfold Er;rw[e];simp only[e1,bind_some,q1,q2,c,if_true],q⟩
end
end L2
namespace L2
open PySem PySem.W
def tg1:Expr->List Str
 |.Name x _=>[x]
 |_=>[]
def tg2:Expr->List Str
 |.Tuple es _ _=>es.flatMap tg1
 |e=>tg1 e
def tgN:Expr->List Str
 |.Tuple es _ _=>es.flatMap tg2
 |e=>tg1 e
def frN(X:Cx)(ix:List Nat):List Str:=ix.filterMap λi=>X.N[i]?
def ndB:List Str->Bool
 |[]=>true
 |x::xs=>!xs.elem x&&ndB xs
def FM:∀{l:List Str},ndB l=true->l.Nodup
 |[],_=>List.nodup_nil
 |x::xs,h=>by
  obtain⟨h1,h2⟩:=Bool.and_eq_true_iff.mp h;refine nodup_cons.mpr ⟨λhm=>?_,FM h2⟩;rw[List.elem_eq_true_of_mem hm]at h1;cases h1
section
variable{K:PySem.W.Frag}{X:Cx}{elt tg iter tg' iter' e:Expr}{ifs ifs':List Expr}{scope:Scope}{pos spos py:Pos}{ix:List Nat}{wi wi':TI}{g g':TG}{tf tf':TT}{te tk tv:TE}{mi mi':MI}{n n':MG}{mf mf':MT}{me mk mv:ME}{k i:Nat}{x y:Str}
def qgA(hN:ndB X.N=true:=by kernel_rfl)(hi:X.N[i]?=some x:=by rfl)(hx:Loc X.env.scope x:=by first|exact Or.inl rfl|exact Or.inr rfl)(hf:X.fn x=true∨X.env.scope.names.lookup x=some .local:=by first|exact .inl rfl|exact .inr rfl):QG K X (.Name x pos) (Dj i) (AA i):=X6 K (FM hN) hi hx hf
def qnA(hi:QI K X tg iter wi mi)(hg:∀s H ex,QG K (cCx X (tgN tg++frN X ix) scope s H ex) tg g n)(hf:∀s H ex,QF K (cCx X (tgN tg++frN X ix) scope s H ex) ifs tf mf)(he:∀s H ex,QE K (cCx X (tgN tg++frN X ix) scope s H ex) elt te me)
 (hc:X.calm=true:=by rfl) (S:CSc X scope (frN X ix) ix:=by exact⟨rfl,by decide +kernel,rfl,rfl,rfl,by decide +kernel⟩) (hs:∀x,foldedSetIterable iter X.env x=pure x:=by intro _;rfl) (hk:(tgN tg).length=k:=by rfl):
 QN K X (.ListComp elt [⟨tg,iter,ifs,0⟩] scope pos) (Fa k ix wi g tf te) (Ab k ix mi n mf me):=by
 subst hk;exact X0 K hc S hi hg hf he hs
def dG(hi:QI K X tg iter wi mi)(hg:∀s H ex,QG K (cCx X (tgN tg++frN X ix) scope s H ex) tg g n)(hf:∀s H ex,QF K (cCx X (tgN tg++frN X ix) scope s H ex) ifs tf mf)(he:∀s H ex,QE K (cCx X (tgN tg++frN X ix) scope s H ex) elt te me)
 (hsw:swapsWith (.ListComp elt [⟨tg,iter,ifs,0⟩] scope pos) (some (.Name y py)) spos.line X.env=pure true:=by rfl) (hN:ndB X.N=true:=by kernel_rfl) (hiN:X.N[i]?=some y:=by rfl) (hy:X.env.scope.names.lookup y=some .local:=by rfl)
 (hc:X.calm=true:=by rfl) (S:CSc X scope (frN X ix) ix:=by exact⟨rfl,by decide +kernel,rfl,rfl,rfl,by decide +kernel⟩) (hs:∀x,foldedSetIterable iter X.env x=pure x:=by intro _;rfl) (hk:(tgN tg).length=k:=by rfl):
 QS K X (.Assign [.Name y py] (.ListComp elt [⟨tg,iter,ifs,0⟩] scope pos) spos) (EQ (Fa k ix wi g tf te) (Dj i)) (AF i (Aa (Ab k ix mi n mf me))):=by
 subst hk;exact Wq K (FM hN) hiN hy hc S hi hg hf he hsw hs
def qdA{k' v:Expr}(hi:QI K X tg iter wi mi)(hg:∀s H ex,QG K (cCx X (tgN tg++frN X ix) scope s H ex) tg g n)(hf:∀s H ex,QF K (cCx X (tgN tg++frN X ix) scope s H ex) ifs tf mf)(hkk:∀s H ex,QE K (cCx X (tgN tg++frN X ix) scope s H ex) k' tk mk)(hv:∀s H ex,QE K (cCx X (tgN tg++frN X ix) scope s H ex) v tv mv)
 (hc:X.calm=true:=by rfl) (S:CSc X scope (frN X ix) ix:=by exact⟨rfl,by decide +kernel,rfl,rfl,rfl,by decide +kernel⟩) (hs:∀x,foldedSetIterable iter X.env x=pure x:=by intro _;rfl) (hk:(tgN tg).length=k:=by rfl):
 QE K X (.DictComp k' v [⟨tg,iter,ifs,0⟩] scope pos) (GR (.dK []) k ix wi g tf (JV tk tv)) (JW (Gj k ix mi n mf [] (HM mk mv))):=by
 subst hk;exact U3 K hc S hi hg hf hkk hv hs
def qsA{pos':Pos}(he:QE K X e te me)(hs:swapsWith e (some (.Name x pos')) pos.line X.env=pure false:=by rfl)(hN:ndB X.N=true:=by kernel_rfl)(hi:X.N[i]?=some x:=by rfl)(hx:Loc X.env.scope x:=by first|exact Or.inl rfl|exact Or.inr rfl)(hf:X.fn x=true∨X.env.scope.names.lookup x=some .local:=by first|exact .inl rfl|exact .inr rfl):
 QS K X (.Assign [.Name x pos'] e pos) (EQ te (Dj i)) (AF i me):=ZV K (FM hN) hi hx he hs hf
end
end L2
namespace L2
open PySem PySem.Spec PyProof.Rows PySem.W
abbrev Tb:=Addr×Str×Nat×Nat
def Xj(ts:List Tb):Obj:={ cls:=.str "tables" 0,data:=.fields (ts.flatMap λt=>[.ref t.1,.str t.2.1 0,.int t.2.2.1 0,.int t.2.2.2 0]).toArray }
def BU(K:PySem.W.Frag)(ts:List Tb):PySem.W.Frag:=(K.filter λp=>!(ts.map (·.1)).contains p.1)++[(mainGlobals,Xj ts)]
def QQ:∀ts:List Tb,LV (ts.flatMap λt=>[Value.ref t.1,.str t.2.1 0,.int t.2.2.1 0,.int t.2.2.2 0])=ts.map λt=>(t.1,t.2.1,⟨t.2.2.1,t.2.2.2,0,0⟩)
 |[]=>rfl
 |t::r=>by
  rw[List.flatMap_cons,map_cons,<- QQ r];rfl
def GQ(K:PySem.W.Frag)(ts:List Tb):CS (BU K ts)=ts.map λt=>(t.1,t.2.1,⟨t.2.2.1,t.2.2.2,0,0⟩):=by
 unfold CS BU;rw[List.getLast?_concat];show LV _=_;rw[<- QQ ts]
def F4{L:List Addr}{a:Addr}(ha:a∉L):∀K:PySem.W.Frag,(K.filter λp=>!L.contains p.1).lookup a=K.lookup a
 |[]=>rfl
 |(b,o)::r=>by
   have ih:=F4 ha r;rw[filter_cons];by_cases hb:b∈L
   .have h1:(!L.contains (b,o).1)=false:=by simp[hb]
    have h2:(a==b)=false:=beq_eq_false_iff_ne.mpr λz=>ha (z ▸ hb);rw[if_neg (by rw[h1];decide),lookup_cons,h2,ih]
   .have h1:(!L.contains (b,o).1)=true:=by simp[hb]
    rw[if_pos h1,lookup_cons,lookup_cons,ih]
def Gn{L:List Addr}{P:Addr}(hP:P∈L):∀K:PySem.W.Frag,(K.filter λp=>!L.contains p.1).lookup P=none
 |[]=>rfl
 |(b,o)::r=>by
   have ih:=Gn hP r;rw[filter_cons];by_cases hb:b∈L
   .rw[if_neg (by simp[hb])];exact ih
   .have h2:(P==b)=false:=beq_eq_false_iff_ne.mpr λz=>hb (z ▸ hP);rw[if_pos (by simp[hb]),lookup_cons,h2];exact ih
section
variable{K:PySem.W.Frag}{ts:List Tb}
def Gb{a:Addr}{o:Obj}(ha:a∉ts.map (·.1))(e:K.lookup a=some o):(BU K ts).lookup a=some o:=by
 unfold BU;rw[lookup_append,F4 ha,e];rfl
def Xi{h:Heap}(X:K.In h){g:Obj}(hg:K.lookup mainGlobals=some g)(hP:mainGlobals∉ts.map (·.1)):(BU K ts).In h:=λa o e=>by
 unfold BU at e;rw[lookup_append]at e;by_cases ha:a∈ts.map (·.1)
 .rw[Gn ha,none_or]at e;have h2:(a==mainGlobals)=false:=beq_eq_false_iff_ne.mpr λz=>hP (z ▸ ha);rw[lookup_cons,h2]at e;cases e
 .rw[F4 ha]at e;cases k:K.lookup a with
  |some o'=>rw[k]at e;cases e;exact X _ _ k
  |none=>
   rw[k,none_or,lookup_cons]at e;by_cases hm:a=mainGlobals
   .subst hm;rw[hg]at k;cases k
   .rw[beq_eq_false_iff_ne.mpr hm]at e;cases e
def Xh(hM:mainGlobals∉ts.map (·.1)){P:Addr}(hP:P∈ts.map (·.1)):(BU K ts).lookup P=none:=by
 unfold BU;have h2:(P==mainGlobals)=false:=beq_eq_false_iff_ne.mpr λz=>hM (z ▸ hP);rw[lookup_append,Gn hP,none_or,lookup_cons,h2];rfl
def Fun.mark{x qual:Str}{st:Stmt}{f:Addr}{fd:FuncData}(D:Fun K x qual st f fd){h:Heap}(X:K.In h)(hP:∀P∈ts.map (·.1),h.get? P=some (tabObj #[])):Fun (BU K ts) x qual st f fd:=by
 have neP:∀a o,K.lookup a=some o->o≠tabObj #[]->a∉ts.map (·.1):=λa o e n z=>by
  have:=X _ _ e;rw[hP a z]at this;exact n (Option.some.inj this).symm
 obtain⟨⟨oc,od,kV,doc,pm,an,cdv,ct,osl,rfl,lk,hcd⟩,kp⟩:=D;have hf:f∉ts.map (·.1):=neP f _ lk (λz=>by cases z);refine⟨⟨oc,od,kV,doc,pm,an,cdv,ct,osl,rfl,Gb hf lk,?_⟩,?_⟩
 .unfold codeIn at hcd ⊢;split at hcd
  .next c0=>
   split at hcd
   .next vs sl k=>
    have hc:c0∉ts.map (·.1):=neP c0 _ k (λz=>by
     have:vs=#[]:=by injection z with _ _ z _;injection z
     rw[this]at hcd;cases hcd)
    simp only[Gb hc k];exact hcd
   .cases hcd
  .cases hcd
 .unfold keepIn;simp only[Gb hf lk]
end
def bx{K:PySem.W.Frag}{H:Hp}{a:Addr}{xs:List V}(hS:SqL K H a xs)(hO:∀ys,H a≠some (.lst ys)):RoL K H a xs:=by
 rcases hS with(h|h)|h
 .exact absurd h (hO xs)
 .exact .inl h
 .exact .inr h
def Rs{Pg:Program}{w:World}{K:PySem.W.Frag}{mg mb:Str->Option Value}{k:Nat}{fa a:Addr}{fd:FuncData}{x:Str}{ts:List Tb}{s₁:Shared}{vs:List Value}{ns:List Int}{F:List D->Hd->Option (D×Hd)}
 (KX:K.In s₁.heap) (hns:s₁.heap.Ns mainGlobals mg) (hb:s₁.heap.Ns builtinsNs mb) (hbb:∀x:Str,x≠"__name__"->mb x=bootBuiltins x) (hlim:s₁.heap.NoLimit) (hg:s₁.gens=#[])
 (ha:s₁.heap.get? a=some { cls:=.type "list",data:=.seq vs.toArray }) (hi:IntsAre vs ns) (hl:ns.length<=sizeLine) (hr:Room k callerA)
 (hT:∀P∈ts.map (·.1),∃cc,s₁.heap.TableAt cc P #[]) (hPK:∀P∈ts.map (·.1),K.lookup P=none) (htab:CS K=ts.map λt=>(t.1,t.2.1,⟨t.2.2.1,t.2.2.2,0,0⟩))
 (Fn:∀base:Heap,K.In base->base.Ns mainGlobals mg->(∀b o,b∉ts.map (·.1)->b≠a->s₁.heap.get? b=some o->base.get? b=some o)->FnOk Pg w K mg base CX0 k fa fd [x] (spF K 1 F)) (hbind:∀(s:Shared) (u:Value),BindsTo s fd ⟨[u],[]⟩ [(x,u)])
 (hF:∃hd',F [.ro ns] []=some (.im (.bl true),hd')):
 codeAny (model Pg w) callerA (.call (.ref fa) ⟨[.ref a],[]⟩) (λr s'=>r=.ok (.ret (.bool true))/\OldK s₁.heap s'.heap/\s'.os=s₁.os/\AllBare s'.gens) s₁:=by
 have rv:=Ka hi;have lenV:=hi.length;have hP:∀P∈ts.map (·.1),s₁.heap.get? P=some (tabObj #[]):=λP h=>let ⟨cc,t⟩:=hT P h;t.2
 have haP:a∉ts.map (·.1):=λz=>by rw[hP a z]at ha;cases ha
 have core:∀H:Hp,(∀b,b∉ts.map (·.1)->H b=none∨∃o xs,H b=some (.frz o (.lst xs)))->(∀P∈ts.map (·.1),H P=some (.tbl #[]))->SqL K H a (ns.map V.int)->HOk Pg w H s₁.heap->(∀b,H b≠none->b=a∨b∈ts.map (·.1))->(H a≠none->K.lookup a=none) ->
  codeAny (model Pg w) callerA (.call (.ref fa) ⟨[.ref a],[]⟩) (λr s'=>r=.ok (.ret (.bool true))/\OldK s₁.heap s'.heap/\s'.os=s₁.os/\AllBare s'.gens) s₁:=by
  intro H hO hHP hS hok hA hK;have base_of:∀{b:Addr} {o:Obj},s₁.heap.get? b=some o->H b=none->(Fx s₁.heap H).get? b=some o:=λe n=>Uj e n;have noA:∀{b:Addr} {o:Obj} {es:Array DictEntry} {ep:Nat},s₁.heap.get? b=some o->o.data=.dict es ep->H b=none:=λ{b o es ep} e d=>by
   cases q:H b with
   |none=>rfl
   |some u=>
    rcases hA b (by rw[q];simp)with e'|e'
    .subst e';rw[ha]at e;cases e;have d':Data.seq vs.toArray _=Data.dict es ep:=d;cases d'
    .rw[hP b e']at e;cases e;cases d
  have nsK:∀{b:Addr} {m:Str->Option Value},s₁.heap.Ns b m->(Fx s₁.heap H).Ns b m:=λ{b m} ⟨o,es,ep,e,d,r⟩=>⟨o,es,ep,base_of e (noA e d),d,r⟩
  have hKb:K.In (Fx s₁.heap H):=λb o e=>base_of (KX b o e) (by
   cases q:H b with
   |none=>rfl
   |some u=>
    rcases hA b (by rw[q];simp)with e'|e'
    .subst e';rw[hK (by rw[q];simp)]at e;cases e
    .rw[hPK b e']at e;cases e)
  have hM:Mod K mg (Fx s₁.heap H):=⟨hKb,nsK hns,⟨mb,nsK hb,hbb⟩,let ⟨mc,h1,h2⟩:=hlim;⟨mc,nsK h1,h2⟩⟩
  have e0:Env0 Pg w K mg (Fx s₁.heap H) callerA [] s₁ H:=⟨rfl,hM,λb o e=>Xd e,Nat.le_of_eq (S2 _ _),trivial,λb hb=>absurd (show b∈([]:List Addr)from hb) (by simp),hok,.of_eq hg⟩
  have hsp:spF K 1 F [.ref a] H (λv _=>v=.bl true) λ_ _ _=>False:=by
   obtain⟨hd',e⟩:=hF;refine⟨rfl,[],[],[.ro ns],.im (.bl true),hd',⟨rfl,List.nodup_nil,λy hy=>?_,λn o a h=>by simp at h⟩,?_,e,λρ' H' v _ _ r=>?_⟩
   .rw[htab]at hy;obtain⟨t,ht,rfl⟩:=mem_map.mp hy;exact⟨#[],hHP t.1 (mem_map.mpr ⟨t,ht,rfl⟩),.inl rfl⟩
   .simp only[RDs,RD];refine⟨_,_,rfl,⟨a,rfl,bx hS λys z=>?_⟩,rfl⟩;rcases hO a haP with q|⟨o,ys,q⟩<;>(rw[q]at z;cases z)
   .simpa only[RD,RI]using r
  refine codeAny_mono ((Fn _ hKb (nsK hns) λb o n1 n2 e=>base_of e (by
   cases q:H b with
   |none=>rfl
   |some u=>
    rcases hA b (by rw[q];simp)with e'|e'
    .exact absurd e' n2
    .exact absurd e' n1)).run callerA [] s₁ H ⟨[.ref a],[]⟩ [.ref a] [.ref a] _ _ hr e0 (hbind s₁ (.ref a)) (.cons rfl .nil) hsp) λr s' h=>?_
  cases r with
  |error e=>exact h.elim
  |ok fl=>
   cases fl with
   |next=>exact False.elim h
   |brk=>exact False.elim h
   |cont=>exact False.elim h
   |ret u=>
    obtain⟨v,H',os,bare,un,hok',r',q⟩:=h;have q':v=.bl true:=q;subst q';obtain rfl:u=Value.bool true:=r';have keep:∀b o,b∉ts.map (·.1)->s₁.heap.get? b=some o->s'.heap.get? b=some o:=λb o nb e=>by
     cases q:H b with
     |none=>exact un.keep b o e q (by intro z;exact absurd (show b∈([]:List Addr)from z) (by simp)) (by simp)
     |some u=>
      rcases hO b nb with z|⟨ob,xs,z⟩
      .rw[q]at z;cases z
      .have z2:=un.frzs b ob _ z;obtain⟨e1,_⟩:=hok b _ z;obtain⟨e2,_⟩:=hok' b _ z2;rw[e]at e1;cases e1;exact e2
    refine⟨rfl,⟨λb o e=>?_,λb o e=>?_⟩,os,bare⟩
    .by_cases nb:b∈ts.map (·.1)
     .obtain⟨cc,tb⟩:=hT b nb;obtain⟨more,hm⟩:=un.tbls b #[] (hHP b nb);have hb':s'.heap.get? b=some (tabObj (#[]++more)):=hok' b _ hm;rw[hP b nb]at e;cases e;exact .inr (.inl ⟨tb.isCodeTable,rfl,#[],more,rfl,hb'⟩)
     .exact .inl (keep b o nb e)
    .by_cases nb:b∈ts.map (·.1)
     .obtain⟨more,hm⟩:=un.tbls b #[] (hHP b nb);exact⟨_,hok' b _ hm⟩
     .exact⟨o,keep b o nb e⟩
 cases hk:K.lookup a with
 |some o=>
  have e:=KX a o hk;rw[ha]at e;cases e;refine core (λb=>if b∈ts.map (·.1)then some (.tbl #[])else none) (λb nb=>.inl (if_neg nb)) (λP hp=>if_pos hp) (.inr ⟨_,vs.toArray,_,hk,rfl,rfl,rfl,by rw[size_toArray,lenV];exact hl,by simpa using rv⟩) (λb u z=>?_) (λb z=>?_) λz=>absurd (if_neg haP) z
  .by_cases hb:b∈ts.map (·.1)
   .have z':=(if_pos hb).symm.trans z;cases z';exact hP b hb
   .have z':=(if_neg hb).symm.trans z;cases z'
  .by_cases hb:b∈ts.map (·.1)
   .exact .inr hb
   .exact absurd (if_neg hb) z
 |none=>
  refine core (λb=>if b∈ts.map (·.1)then some (.tbl #[])else if b=a then some (.frz { cls:=.type "list",data:=.seq vs.toArray } (.lst (ns.map V.int)))else none) (λb nb=>?_) (λP hp=>if_pos hp) (.inl (.inr ⟨{ cls:=.type "list",data:=.seq vs.toArray },(if_neg haP).trans (if_pos rfl)⟩)) (λb u z=>?_) (λb z=>?_) λ_=>hk
  .rw[if_neg nb];by_cases hb:b=a
   .exact .inr ⟨_,_,if_pos hb⟩
   .exact .inl (if_neg hb)
  .by_cases hp:b∈ts.map (·.1)
   .have z':=(if_pos hp).symm.trans z;cases z';exact hP b hp
   .have z:=(if_neg hp).symm.trans z;by_cases hb:b=a
    .have z':=(if_pos hb).symm.trans z;cases z';subst hb;exact⟨ha,by rw[length_map];exact hl,vs,_,rv,ha⟩
    .have z':=(if_neg hb).symm.trans z;cases z'
  .by_cases hp:b∈ts.map (·.1)
   .exact .inr hp
   .by_cases hb:b=a
    .exact .inl hb
    .exact absurd ((if_neg hp).trans (if_neg hb)) z
def walkL{l:PySem.W.OpenLaw}{n k:Nat}{q:Program}{loose:List Str}{XP:(Str->Option Value)->Heap->Prop}{YP:World->Heap->Prop}{d:DefRec}{K:Params->PySem.W.Frag}{F:List D->Hd->Option (D×Hd)}(xs:List (Str×Str×Nat×Nat))
 (hn:l.most=some n) (hn2:n<=sizeLine) (hdf:d.params.defaults=[]) (hr:Room k callerA) (hdr:∀x∈xs,∃dr,(recsOf q).find? (λe=>e.name==x.1)=some dr)
 (hF:∀ns:List Int,∃hd',F [.ro ns] []=some (.im (.bl true),hd'))
 (hY:∀(w:World) (h:Heap),YP w h->(K w.params).In h)
 (G:∀(w:World) (mg:Str->Option Value) (fa:Addr) (h:Heap) (c P:Str->Addr),(K w.params).In h->h.Ns mainGlobals mg->mg d.name=some (.ref fa) ->
  (∀x∈xs,h.get? (P x.1)=some (tabObj #[])/\CodeHd h (c x.1) (P x.1)/\∃a o fd,mg x.1=some (.ref a)/\h.get? a=some o/\o.data=.func fd/\fd.code=.ref (c x.1)) ->
  (∃g,(K w.params).lookup mainGlobals=some g)/\∃fd:FuncData,(∀(s:Shared) (u:Value),BindsTo s fd ⟨[u],[]⟩ [("_law_script",u)])/\
   ∀base:Heap,(BU (K w.params) (xs.map λx=>(P x.1,x.2))).In base->base.Ns mainGlobals mg->(∀x∈xs,CodeHd base (c x.1) (P x.1))->(∀x∈xs,base.BuiltinsAt mg (P x.1))->FnOk l.prog w (BU (K w.params) (xs.map λx=>(P x.1,x.2))) mg base CX0 k fa fd ["_law_script"] (spF (BU (K w.params) (xs.map λx=>(P x.1,x.2))) 1 F)):
 PySem.W.WalkO q loose XP YP l.row.toRowW d [] (λf vs=>PySem.call f vs):=by
 refine Att.attach_call hn hdf λw s₀ s₁ mg mb fa o pm cd doc a vs ns Gr Y ho hd hcd hmg hobj hints hlen hg=>?_;have KX:=hY w _ Y;have each:∀x:Str,∃cp:Addr×Addr,(∃y∈xs,y.1=x)->(∃cc,s₁.heap.TableAt cc cp.2 #[])/\CodeHd s₁.heap cp.1 cp.2/\∃a o fd,mg x=some (.ref a)/\s₁.heap.get? a=some o/\o.data=.func fd/\fd.code=.ref cp.1:=by
  intro x;by_cases hx:∃y∈xs,y.1=x
  .obtain⟨y,hy,rfl⟩:=hx;obtain⟨dr,hdr⟩:=hdr y hy;have hnm:dr.name=y.1:=beq_iff_eq.mp (List.find?_some (p:=λe:DefRec=>e.name==y.1) hdr);obtain⟨a',o',fd',c,P,h1,h2,h3,h4,h5,h6⟩:=Gr.T.tab dr (List.mem_of_find?_eq_some hdr);rw[hnm]at h1;exact⟨(c,P),λ_=>⟨⟨_,h6⟩,CodeHd.of h5 h6,a',o',fd',h1,h2,h3,h4⟩⟩
  .exact⟨(0,0),λh=>absurd h hx⟩
 obtain⟨cp,hcp⟩:=Classical.skolem.mp each;have hcp:∀x∈xs,(∃cc,s₁.heap.TableAt cc (cp x.1).2 #[])/\CodeHd s₁.heap (cp x.1).1 (cp x.1).2/\∃a o fd,mg x.1=some (.ref a)/\s₁.heap.get? a=some o/\o.data=.func fd/\fd.code=.ref (cp x.1).1:=λx hx=>hcp x.1 ⟨x,hx,rfl⟩;have hts:∀P∈(xs.map λx=>((cp x.1).2,x.2)).map (·.1),∃x∈xs,P=(cp x.1).2:=λP hP=>by
  obtain⟨t,ht,rfl⟩:=mem_map.mp hP;obtain⟨x,hx,rfl⟩:=mem_map.mp ht;exact⟨x,hx,rfl⟩
 have hP:∀x∈xs,s₁.heap.get? (cp x.1).2=some (tabObj #[]):=λx hx=>by
  obtain⟨⟨cc,t⟩,_⟩:=hcp x hx;exact t.2
 have hmP:mainGlobals∉(xs.map λx=>((cp x.1).2,x.2)).map (·.1):=λz=>by
  obtain⟨x,hx,ez⟩:=hts _ z;obtain⟨o,es,ep,e,dd,_⟩:=Gr.T.g;rw[ez,hP x hx]at e;cases e;cases dd
 obtain⟨⟨g,hgl⟩,fd,hb,hFn⟩:=G w mg fa _ (λx=>(cp x).1) (λx=>(cp x).2) KX Gr.T.g hmg λx hx=>⟨hP x hx,(hcp x hx).2⟩
 refine Rs (ts:=xs.map λx=>((cp x.1).2,x.2)) (K:=BU (K w.params) (xs.map λx=>((cp x.1).2,x.2))) (Xi KX hgl hmP) Gr.T.g Gr.T.b Gr.T.builtins Gr.T.nolimit hg hobj hints (le_trans hlen hn2) hr (λP hp=>by obtain⟨x,hx,rfl⟩:=hts P hp;exact(hcp x hx).1) (λP hp=>Xh hmP hp) (GQ _ _) (λbase kb nb keep=>hFn base kb nb (λx hx=>?_) λx hx=>?_) hb (hF ns)
 .obtain⟨oc,vs',file,tf,flags,tg,inF,text,tt,e1,r1,r2,r3,r4,r5,r6,r7,r8,hne⟩:=(hcp x hx).2.1;have hn:(cp x.1).1∉(xs.map λx=>((cp x.1).2,x.2)).map (·.1):=λz=>by
   obtain⟨y,hy,ez⟩:=hts _ z;rw[ez,hP y hy]at e1;cases e1;cases r1
  exact⟨oc,vs',file,tf,flags,tg,inF,text,tt,keep (cp x.1).1 oc hn (λz=>by rw[z,hobj]at e1;cases e1;exact absurd (show Value.type "list"=Value.type "code" from r1) (by decide)) e1,r1,r2,r3,r4,r5,r6,r7,r8,hne⟩
 .obtain⟨bm,ob,b1,b2,b3,b4,b5,b6⟩:=Gr.T.bmain;have nP:∀y∈xs,bm≠(cp y.1).2:=λy hy z=>by rw[z,hP y hy]at b3;cases b3;cases b4
  have hn:bm∉(xs.map λx=>((cp x.1).2,x.2)).map (·.1):=λz=>by
   obtain⟨y,hy,ez⟩:=hts _ z;exact nP y hy ez
  refine⟨bm,ob,b1,b2,λz=>?_,nP x hx,keep bm ob hn (λz=>by rw[z,hobj]at b3;cases b3;exact absurd (show Value.type "list"=Value.type "module" from b4) (by decide)) b3,b4,b5,b6⟩;obtain⟨o,es,ep,e,dd,_⟩:=Gr.T.g;rw[<- z,b3]at e;cases e;rw[b6]at dd;cases dd
def Sq(o:Obj):Option Addr:=match o.data with
 | .fields vs=>(match (vs[11]?:Option Value)with
  |some (Value.ref P)=>some P
  | _=>none)
 |_=>none
def Yd{K:PySem.W.Frag}{h:Heap}{c P p:Addr}{o:Obj}(X:K.In h)(hc:CodeHd h c P)(k:K.lookup c=some o)(e:Sq o=some p):P=p:=by
 obtain⟨o',vs,file,tf,flags,tg,inF,text,tt,e1,e2,e3,e4,_⟩:=hc;have:=X _ _ k;rw[e1]at this;cases this;simp only[Sq,e3,e4]at e;exact Option.some.inj e
end L2
namespace L2
open PySem PySem.W PyProof.Rows
abbrev FD:=List D->Hd->Option (D×Hd)
structure En where
 P:Program
 w:World
 K:PySem.W.Frag
 mg:Str->Option Value
 base:Heap
structure Df where
 x:Str
 st:Stmt
 ps:List Str
 k:Nat
 F:FD
def Dn(E:En)(e:Df):Prop:=∃f fd,DefAt E.K E.mg e.x e.st f fd e.ps
def Dl(E:En)(e:Df)(ps:Pos):Prop:=∃f fd c P,DefAt E.K E.mg e.x e.st f fd e.ps/\LamC E.K E.mg E.base fd c P ((e.x++".<locals>.")++"<lambda>") ps
def Kn(E:En)(e:Df):Prop:=∃f fd,DefAt E.K E.mg e.x e.st f fd e.ps/\FnOk E.P E.w E.K E.mg E.base CX0 e.k f fd e.ps (spF E.K e.ps.length e.F)/\∀ds hd z,e.F ds hd=some z->ds.length=e.ps.length
def okK{E:En}{x:Str}{st:Stmt}{ps N:List Str}{j k:Nat}{m:MS}{F:FD}(D:Dn E ⟨x,st,ps,k,F⟩)(S:FnScope N ps (A9 st))(hF:F=mkF ps.length N.length m)(hk:k=j+1)
 (h:∀(f:Addr) (cdv:Value) (A:Around) (outer:List Env) (s:Shared) (H:Hp) (Ek:XK),Room j (A.deeper (envOfC x (A9 st) s.heap.objs.size f cdv))->∃t,QSs E.K (F9 CX0 E.P E.w E.K E.mg E.base N x (A9 st) f cdv A outer s H Ek).nox (BP st) t m):Kn E ⟨x,st,ps,k,F⟩:=by
 obtain⟨f,fd,D⟩:=D;subst hF;subst hk;exact⟨f,fd,D,Xc D S (h f),OC⟩
def okL{E:En}{x:Str}{st:Stmt}{ps N:List Str}{j k:Nat}{m:MS}{F:FD}{pos:Pos}(D:Dl E ⟨x,st,ps,k,F⟩ pos)(S:FnScope N ps (A9 st))(hF:F=mkF ps.length N.length m)(hk:k=j+1)
 (h:∀(f c P:Addr) (fd:FuncData) (LC:LamC E.K E.mg E.base fd c P ((x++".<locals>.")++"<lambda>") pos) (cdv:Value) (A:Around) (outer:List Env) (s:Shared) (H:Hp) (Ek:XK),fd.code=cdv->Room j (A.deeper (envOfC x (A9 st) s.heap.objs.size f cdv))->∃t,QSs E.K (F9 CX0 E.P E.w E.K E.mg E.base N x (A9 st) f cdv A outer s H Ek).nox (BP st) t m):Kn E ⟨x,st,ps,k,F⟩:=by
 obtain⟨f,fd,c,P,D,LC⟩:=D;subst hF;subst hk;exact⟨f,fd,D,UP D S (h f c P fd LC),OC⟩
def ok0{E:En}{x:Str}{st:Stmt}{ps:List Str}{k k':Nat}{F:FD}(D:Dn E ⟨x,st,ps,k',F⟩):Kn E ⟨x,st,ps,k,λ_ _=>none⟩:=by
 obtain⟨f,fd,D⟩:=D;refine⟨f,fd,D,⟨λvs H Q E h=>h.1,λA outer s H args us vs Q E hr e0 hb hv h=>?_⟩,λ_ _ _ h=>nomatch h⟩;obtain⟨_,_,_,_,_,_,_,_,e,_⟩:=h;cases e
section
variable{K:PySem.W.Frag}{X:Cx}{e:Expr}{es:List Expr}{t:TA}{m:MA}{x:Str}{j k:Nat}{ps:List Str}{F:FD}{st:Stmt}{p pos:Pos}
def qcW(w:Nat)(G:Kn ⟨X.prog,X.w,X.K,X.mg,X.base⟩ ⟨x,st,ps,j,F⟩)(hr:Room k X.A)(ha:QA K X (e::es) t m)
 (hjk:j<=k:=by first|decide|omega) (hg:Gl X x:=by rfl) (hdb:(x==("__debug__":Str))=false:=by decide) (he:starEach (e::es) X.env=(false,eval e X.env)::starEach es X.env:=by rfl) (hpl:(backTo pos (starEach es X.env)).any (·.1)=false:=by rfl) (hK:X.K=K:=by rfl):
 QE K X (.Call (.Name x p) (e::es) [] pos) (C2 (spF K ps.length F) [] E0 t) (AC w F m):=by
 subst hK;obtain⟨f,fd,D,G,l⟩:=G;exact U4 _ w G hr D ha l hjk hg hdb he hpl
def qcG(G:Kn ⟨X.prog,X.w,X.K,X.mg,X.base⟩ ⟨x,st,ps,j,F⟩)(hr:Room k X.A)(ha:QA K X (e::es) t m)
 (hjk:j<=k:=by first|decide|omega) (hg:Gl X x:=by rfl) (hdb:(x==("__debug__":Str))=false:=by decide) (he:starEach (e::es) X.env=(false,eval e X.env)::starEach es X.env:=by rfl) (hpl:(backTo pos (starEach es X.env)).any (·.1)=false:=by rfl) (hK:X.K=K:=by rfl):
 QE K X (.Call (.Name x p) (e::es) [] pos) (C2 (spF K ps.length F) [] E0 t) (CA F m):=by
 subst hK;obtain⟨f,fd,D,G,l⟩:=G;exact U6 _ G hr D ha l hjk hg hdb he hpl
def qcS(G:Kn ⟨X.prog,X.w,X.K,X.mg,X.base⟩ ⟨x,st,ps,j,F⟩)(hr:Room k X.A)(ha:QA K X (e::es) t m)
 (hjk:j<=k:=by first|decide|omega) (hg:Gl X x:=by rfl) (hdb:(x==("__debug__":Str))=false:=by decide) (he:starEach (e::es) X.env=(false,eval e X.env)::starEach es X.env:=by rfl) (hpl:(backTo pos (starEach es X.env)).any (·.1)=false:=by rfl) (hK:X.K=K:=by rfl):
 QE K X (.Call (.Name x p) (e::es) [] pos) (C2 (spF K ps.length F) [] E0 t) (DK F m):=by
 subst hK;obtain⟨f,fd,D,G,l⟩:=G;exact U5 _ G hr D ha l hjk hg hdb he hpl
def qc0(w:Nat)(G:Kn ⟨X.prog,X.w,X.K,X.mg,X.base⟩ ⟨x,st,ps,j,F⟩)(hr:Room k X.A)
 (hjk:j<=k:=by first|decide|omega) (hg:Gl X x:=by rfl) (hdb:(x==("__debug__":Str))=false:=by decide) (hK:X.K=K:=by rfl) (h0:ps.length=0:=by rfl):QE K X (.Call (.Name x p) [] [] pos) (C2 (spF K ps.length F) [] E0 BR) (AC w F A4):=by
 subst hK;obtain⟨f,fd,D,G,l⟩:=G;exact RP _ w G hr D l hjk hg hdb
variable{c P:Addr}{scope:Scope}{ix:List Nat}{params:Arguments}{body:Expr}{lpos kpos:Pos}{te tb:TE}{mi mb:ME}{fd:FuncData}{cdv:Value}{q:Str}
def Fj(a:Arguments):Str:=match a.args with
 |x::_=>x.arg
 |[]=>""
def cC(LC:LamC X.K X.mg X.base fd c P q lpos)(hcd:fd.code=cdv)(hr:Room k X.A)(hm:X.mg "max"=none)(he:QE K X e te mi)
 (hb:∀(f:Addr) (cd:Value) (s:Shared) (H:Hp),QE K (lCx X X.A.in1 (Fj params::frN X ix) (X.env.qual++"<lambda>") scope f cd (AU X.env.cells scope.names []) s H) body tb mb)
 (hcv:X.env.code=cdv:=by rfl) (hq:q=X.env.qual++"<lambda>":=by rfl) (S:CSc X scope (frN X ix) ix:=by exact⟨rfl,by decide +kernel,rfl,rfl,rfl,by decide +kernel⟩) (L:LSc scope (Fj params):=by exact⟨rfl,rfl,rfl,rfl⟩) (h3:3<=k:=by decide)
 (hbind:∀(cl:List (Str×Addr)) (pm cd ctv us:Value),bindArgs (kla_fn "<lambda>" (X.env.qual++"<lambda>") params body scope cl pm cd ctv) ⟨[us],[]⟩=pure [(Fj params,us)]:=by exact λ_ _ _ _ _=>rfl)
 (hcm:X.calm=true:=by rfl) (hg:Gl X "max":=by rfl) (hdef:defaultsOf params X.env=([],[]):=by rfl) (hs:starEach [e] X.env=[(false,eval e X.env)]:=by rfl) (hK:X.K=K:=by rfl):
 QE K X (.Call (.Name "max" p) [e] [⟨some "key",.Lambda params body scope lpos,kpos⟩] pos) (LW K P (X.env.qual++"<lambda>") lpos ix te tb) (EZ (λn m=>decide (n>m)) mi ix mb):=by
 subst hq;exact X8 K ⟨hcv.trans (hcd.symm.trans LC.code),LC.hd,LC.bl⟩ (hK ▸ LC.ti) S L hr h3 hm he hb hbind hcm hg hdef hs hK
def Zd(LC:LamC X.K X.mg X.base fd c P q lpos)(hcd:fd.code=cdv)(hr:Room k X.A)(hm:X.mg "min"=none)(he:QE K X e te mi)
 (hb:∀(f:Addr) (cd:Value) (s:Shared) (H:Hp),QE K (lCx X X.A.in1 (Fj params::frN X ix) (X.env.qual++"<lambda>") scope f cd (AU X.env.cells scope.names []) s H) body tb mb)
 (hcv:X.env.code=cdv:=by rfl) (hq:q=X.env.qual++"<lambda>":=by rfl) (S:CSc X scope (frN X ix) ix:=by exact⟨rfl,by decide +kernel,rfl,rfl,rfl,by decide +kernel⟩) (L:LSc scope (Fj params):=by exact⟨rfl,rfl,rfl,rfl⟩) (h3:3<=k:=by decide)
 (hbind:∀(cl:List (Str×Addr)) (pm cd ctv us:Value),bindArgs (kla_fn "<lambda>" (X.env.qual++"<lambda>") params body scope cl pm cd ctv) ⟨[us],[]⟩=pure [(Fj params,us)]:=by exact λ_ _ _ _ _=>rfl)
 (hcm:X.calm=true:=by rfl) (hg:Gl X "min":=by rfl) (hdef:defaultsOf params X.env=([],[]):=by rfl) (hs:starEach [e] X.env=[(false,eval e X.env)]:=by rfl) (hK:X.K=K:=by rfl):
 QE K X (.Call (.Name "min" p) [e] [⟨some "key",.Lambda params body scope lpos,kpos⟩] pos) (Iz K P (X.env.qual++"<lambda>") lpos ix te tb) (Db (λn m=>decide (n<m)) mi ix mb):=by
 subst hq;exact U1 K ⟨hcv.trans (hcd.symm.trans LC.code),LC.hd,LC.bl⟩ (hK ▸ LC.ti) S L hr h3 hm he hb hbind hcm hg hdef hs hK
def ZU{src:Ls->Hd->Option (List Int×Hd)}(LC:LamC X.K X.mg X.base fd c P q lpos)(hcd:fd.code=cdv)(hr:Room k X.A)(hm:X.mg "sorted"=none)(he:QSrc K X e te src)
 (hb:∀(f:Addr) (cd:Value) (s:Shared) (H:Hp),QE K (lCx X X.A.in1.in1 (Fj params::frN X ix) (X.env.qual++"<lambda>") scope f cd (AU X.env.cells scope.names []) s H) body tb mb)
 (hcv:X.env.code=cdv:=by rfl) (hq:q=X.env.qual++"<lambda>":=by rfl) (S:CSc X scope (frN X ix) ix:=by exact⟨rfl,by decide +kernel,rfl,rfl,rfl,by decide +kernel⟩) (L:LSc scope (Fj params):=by exact⟨rfl,rfl,rfl,rfl⟩) (h3:3<=k:=by decide)
 (hbind:∀(cl:List (Str×Addr)) (pm cd ctv us:Value),bindArgs (kla_fn "<lambda>" (X.env.qual++"<lambda>") params body scope cl pm cd ctv) ⟨[us],[]⟩=pure [(Fj params,us)]:=by exact λ_ _ _ _ _=>rfl)
 (hcm:X.calm=true:=by rfl) (hg:Gl X "sorted":=by rfl) (hdef:defaultsOf params X.env=([],[]):=by rfl) (hs:starEach [e] X.env=[(false,eval e X.env)]:=by rfl) (hK:X.K=K:=by rfl):
 QN K X (.Call (.Name "sorted" p) [e] [⟨some "key",.Lambda params body scope lpos,kpos⟩] pos) (Ix K P (X.env.qual++"<lambda>") lpos ix te tb) (Dx src ix mb):=by
 subst hq;exact Tw K ⟨hcv.trans (hcd.symm.trans LC.code),LC.hd,LC.bl⟩ (hK ▸ LC.ti) S L hr h3 hm he hb hbind hcm hg hdef hs hK
end
def FnAt(K:PySem.W.Frag)(n:Str)(s:Stmt)(f:Addr)(cd:Value):Prop:=∃oc kV dc pm ct od an sl,PySem.W.nsIn K mainGlobals n=some (some (.ref f))/\K.lookup f=some ⟨oc,od,.func (PySem.W.fnOf n n (By s) (BP s) (A9 s) .none kV dc pm an cd ct),sl⟩/\PySem.W.codeIn K cd n=true/\PySem.W.keepIn K (.ref f)=true
def Fe(K:PySem.W.Frag)(e:Df):Prop:=∃f cd,FnAt K e.x e.st f cd
def Fla(K:PySem.W.Frag)(e:Df)(p:Addr):Prop:=∃f ca ob,FnAt K e.x e.st f (.ref ca)/\K.lookup ca=some ob/\Sq ob=some p
abbrev Xs:=List (Str×Str×Nat×Nat)
def HX(xs:Xs)(mg:Str->Option Value)(h:Heap)(c P:Str->Addr):Prop:=∀x∈xs,h.get? (P x.1)=some (tabObj #[])/\CodeHd h (c x.1) (P x.1)/\∃a o fd,mg x.1=some (.ref a)/\h.get? a=some o/\o.data=.func fd/\fd.code=.ref (c x.1)
abbrev tbs(xs:Xs)(P:Str->Addr):List Tb:=xs.map λx=>(P x.1,x.2)
abbrev enM(l:PySem.W.OpenLaw)(w:World)(K:PySem.W.Frag)(xs:Xs)(P:Str->Addr)(mg:Str->Option Value)(base:Heap):En:=⟨l.prog,w,BU K (tbs xs P),mg,base⟩
def Bd(e:Df):Prop:=∀(kV doc pm:Value) (an:Option Addr) (cdv ct:Value) (us:List Value),us.length=e.ps.length->bindArgs (PySem.W.fnOf e.x e.x (By e.st) (BP e.st) (A9 e.st) .none kV doc pm an cdv ct) ⟨us,[]⟩=pure (e.ps.zip us)
section
variable{K:PySem.W.Frag}{h:Heap}{mg:Str->Option Value}{xs:Xs}{c P:Str->Addr}(X:K.In h)(G:h.Ns mainGlobals mg)(hx:HX xs mg h c P)
include hx in
theorem dO:∀P'∈(tbs xs P).map (·.1),h.get? P'=some (tabObj #[]):=λP' hp=>by
 obtain⟨t,ht,rfl⟩:=mem_map.mp hp;obtain⟨x,hxx,rfl⟩:=mem_map.mp ht;exact(hx x hxx).1
include X G hx in
theorem FnAt.def{e:Df}{f:Addr}{cd:Value}(H:FnAt K e.x e.st f cd)(b:Bd e):∃fd,DefAt (BU K (tbs xs P)) mg e.x e.st f fd e.ps/\fd.code=cd:=by
 obtain⟨oc,kV,dc,pm,ct,od,an,sl,a,l,cc,k⟩:=H;have F:=Fun.mark (ts:=tbs xs P) (bE (st:=e.st) l cc k) X (dO hx);exact⟨_,⟨F,PySem.W.mg_of X G a,F.binds b⟩,rfl⟩
include X G hx in
theorem Fe.dn{e:Df}(H:Fe K e)(b:Bd e)(l:PySem.W.OpenLaw)(w:World)(base:Heap):Dn (enM l w K xs P mg base) e:=by
 obtain⟨f,cd,H⟩:=H;obtain⟨fd,D,_⟩:=H.def X G hx b;exact⟨f,fd,D⟩
include X G hx in
theorem Fla.code{e:Df}{p:Addr}(H:Fla K e p){q:Str}{i j:Nat}(hm:(e.x,q,i,j)∈xs):P e.x=p/\∃f,FnAt K e.x e.st f (.ref (c e.x)):=by
 obtain⟨f,ca,ob,⟨oc,kV,dc,pm,ct,od,an,sl,a,l,cc,k⟩,t,v⟩:=H;obtain⟨_,hh,a',ob',fd,h1,h2,h3,h4⟩:=hx _ hm;have e1:=h1.symm.trans (PySem.W.mg_of X G a);cases e1;have e2:=h2.symm.trans (X _ _ l);cases e2;cases h3;have e3:Value.ref ca=.ref (c e.x):=h4;cases e3;exact⟨Yd X hh t v,f,⟨_,_,_,_,_,_,_,_,a,l,cc,k⟩⟩
include X G hx in
theorem Fla.dl{e:Df}{p:Addr}(H:Fla K e p)(b:Bd e){q:Str}{i j:Nat}(hm:(e.x,q,i,j)∈xs){i' j':Nat}(l:PySem.W.OpenLaw)(w:World){base:Heap}(hd:∀x∈xs,CodeHd base (c x.1) (P x.1))(bl:∀x∈xs,base.BuiltinsAt mg (P x.1))(nd:((CS (BU K (tbs xs P))).map (·.1)).Nodup)(hq:q=(e.x++".<locals>.")++"<lambda>"):
 Dl (enM l w K xs P mg base) e ⟨i,j,i',j'⟩:=by
 obtain⟨_,f,H⟩:=H.code X G hx hm;obtain⟨fd,D,e1⟩:=H.def X G hx b;subst hq;exact⟨f,fd,_,_,D,⟨e1,hd _ hm,bl _ hm,⟨i,j,0,0⟩,by rw[GQ];exact mem_map.mpr ⟨(P e.x,_,i,j),mem_map.mpr ⟨_,hm,rfl⟩,rfl⟩,nd,rfl,rfl⟩⟩
def cS{ps:List Addr}(h:(xs.map λx=>P x.1)=ps)(n:ps.Nodup):((CS (BU K (tbs xs P))).map (·.1)).Nodup:=by
 rw[GQ,map_map,map_map];subst h;exact n
end
def Zs(K:PySem.W.Frag):Prop:=∀n∈(["list","tuple","len","range","repr","sum","min","max","abs","all","any","sorted","zip","isinstance","int","bool","str","set","enumerate","reversed","dict"]:List Str),PySem.W.nsIn K mainGlobals n=some none
def Zs.blt{K:PySem.W.Frag}(Z:Zs K){h:Heap}{mg:Str->Option Value}(X:K.In h)(G:h.Ns mainGlobals mg):BltA mg:=by
 constructor<;>exact PySem.W.mg_none_of X G (Z _ (by simp))
def bd0{e:Df}(hl:e.ps.length=0:=by rfl)(h:∀(kV doc pm:Value) (an:Option Addr) (cdv ct:Value),bindArgs (PySem.W.fnOf e.x e.x (By e.st) (BP e.st) (A9 e.st) .none kV doc pm an cdv ct) ⟨[],[]⟩=pure (e.ps.zip []):=by intros;rfl):Bd e:=λ_ _ _ _ _ _ us hu=>match us,hu.trans hl with|[],_=>h ..
def bd1{e:Df}(hl:e.ps.length=1:=by rfl)(h:∀(kV doc pm:Value) (an:Option Addr) (cdv ct:Value) a,bindArgs (PySem.W.fnOf e.x e.x (By e.st) (BP e.st) (A9 e.st) .none kV doc pm an cdv ct) ⟨[a],[]⟩=pure (e.ps.zip [a]):=by intros;rfl):Bd e:=λ_ _ _ _ _ _ us hu=>match us,hu.trans hl with|[_],_=>h ..
def bd2{e:Df}(hl:e.ps.length=2:=by rfl)(h:∀(kV doc pm:Value) (an:Option Addr) (cdv ct:Value) a b,bindArgs (PySem.W.fnOf e.x e.x (By e.st) (BP e.st) (A9 e.st) .none kV doc pm an cdv ct) ⟨[a,b],[]⟩=pure (e.ps.zip [a,b]):=by intros;rfl):Bd e:=λ_ _ _ _ _ _ us hu=>match us,hu.trans hl with|[_,_],_=>h ..
def bd3{e:Df}(hl:e.ps.length=3:=by rfl)(h:∀(kV doc pm:Value) (an:Option Addr) (cdv ct:Value) a b c,bindArgs (PySem.W.fnOf e.x e.x (By e.st) (BP e.st) (A9 e.st) .none kV doc pm an cdv ct) ⟨[a,b,c],[]⟩=pure (e.ps.zip [a,b,c]):=by intros;rfl):Bd e:=λ_ _ _ _ _ _ us hu=>match us,hu.trans hl with|[_,_,_],_=>h ..
def bd4{e:Df}(hl:e.ps.length=4:=by rfl)(h:∀(kV doc pm:Value) (an:Option Addr) (cdv ct:Value) a b c d,bindArgs (PySem.W.fnOf e.x e.x (By e.st) (BP e.st) (A9 e.st) .none kV doc pm an cdv ct) ⟨[a,b,c,d],[]⟩=pure (e.ps.zip [a,b,c,d]):=by intros;rfl):Bd e:=λ_ _ _ _ _ _ us hu=>match us,hu.trans hl with|[_,_,_,_],_=>h ..
def B3{N ps:List Str}{sc:Scope}(h:(decide (sc.kind=.function)&&!sc.isCoroutine&&!sc.isGenerator&&ndB N&&(N.take ps.length==ps)&&(ps.all λx=>sc.names.lookup x==some .local||sc.names.lookup x==some .cell)&&sc.names.all λy=>y.2 != .free)=true):FnScope N ps sc:=by
 simp only[Bool.and_eq_true,all_eq_true,Bool.or_eq_true,beq_iff_eq,decide_eq_true_eq,Bool.not_eq_true',bne_iff_ne]at h;obtain⟨⟨⟨⟨⟨⟨h1,h2⟩,h3⟩,h4⟩,h5⟩,h6⟩,h7⟩:=h;exact⟨h1,h2,h3,FM h4,h5,h6,h7⟩
abbrev HG(l:PySem.W.OpenLaw)(w:World)(K:PySem.W.Frag)(xs:Xs)(mg:Str->Option Value)(c P:Str->Addr)(fa:Addr)(e:Df):Prop:=(∃g,K.lookup mainGlobals=some g)/\∃fd:FuncData,(∀(s:Shared) (v:Value),BindsTo s fd ⟨[v],[]⟩ [("_law_script",v)])/\∀base:Heap,(BU K (tbs xs P)).In base->base.Ns mainGlobals mg->(∀x∈xs,CodeHd base (c x.1) (P x.1))->(∀x∈xs,base.BuiltinsAt mg (P x.1))->FnOk l.prog w (BU K (tbs xs P)) mg base CX0 e.k fa fd ["_law_script"] (spF (BU K (tbs xs P)) 1 e.F)
def Uk{l:PySem.W.OpenLaw}{w:World}{K:PySem.W.Frag}{h:Heap}{mg:Str->Option Value}{fa:Addr}{xs:Xs}{c P:Str->Addr}{e:Df}(X:K.In h)(G:h.Ns mainGlobals mg)(hfa:mg e.x=some (.ref fa))(hx:HX xs mg h c P)(H:Fe K e)(b:Bd e)(hps:e.ps=(["_law_script"]:List Str))
 (ok:∀base:Heap,(∀x∈xs,CodeHd base (c x.1) (P x.1))->(∀x∈xs,base.BuiltinsAt mg (P x.1))->Kn (enM l w K xs P mg base) e):
 HG l w K xs mg c P fa e:=by
 obtain⟨f,cd,H⟩:=H;obtain⟨fd,D,_⟩:=H.def X G hx b;obtain⟨oc,kV,dc,pm,ct,od,an,sl,a,lk,cc,k⟩:=H;have hg:∃g,K.lookup mainGlobals=some g:=by
  cases e:K.lookup mainGlobals with
  |some g=>exact⟨g,rfl⟩
  |none=>unfold PySem.W.nsIn at a;rw[e]at a;cases a
 have e1:=hfa.symm.trans D.mg;cases e1;refine⟨hg,fd,λs v=>?_,λbase _ _ hd bl=>?_⟩
 .obtain⟨⟨oc',od',kV',dc',pm',an',cd',ct',sl',rfl,_,_⟩,_⟩:=D.fn;have:=b kV' dc' pm' an' cd' ct' [v] (by rw[hps];rfl);rw[hps]at this;exact .of_eq this
 .obtain⟨f',fd',D',F',_⟩:=ok base hd bl;have e2:=D.mg.symm.trans D'.mg;cases e2;obtain⟨⟨oc',od',kV',dc',pm',an',cd',ct',sl',h1,h2,_⟩,_⟩:=D.fn;obtain⟨⟨oc2,od2,kV2,dc2,pm2,an2,cd2,ct2,sl2,h3,h4,_⟩,_⟩:=D'.fn;have e3:=h2.symm.trans h4;cases e3;rw[hps]at F';exact F'
end L2
namespace Hds
open PySem L2 Bd
structure IsHead(S:Nat->Prop)(c l:Nat->Int)(W:List (Nat×Nat))(h:Nat->Int):Prop where
 lo:∀k,S k->c k<=h k
 up:∀p∈W,S p.2->h p.1+l p.1<=h p.2
 eq:∀k,S k->h k=c k∨∃p∈W,p.2=k/\h k=h p.1+l p.1
structure Rk(S:Nat->Prop)(W:List (Nat×Nat))(rk:Nat->Nat):Prop where
 ins:∀p∈W,S p.1/\S p.2
 lt:∀p∈W,rk p.1<rk p.2
def IsHead.bound{S:Nat->Prop}{c l:Nat->Int}{W:List (Nat×Nat)}{rk:Nat->Nat}(R:Rk S W rk){h:Nat->Int}(a:IsHead S c l W h){B m:Int}(hc:∀k,S k->c k<=B)(hl:∀k,S k->l k<=m)(hm:0<=m):∀n k,rk k=n->S k->h k<=B+m*n:=by
 intro n
 induction n using Nat.strongRecOn with
 |ind n ih=>
  intro k hk hS;have hn:0<=m*(n:Int):=Int.mul_nonneg hm (by omega);rcases a.eq k hS with e|⟨p,hp,e1,e2⟩
  .rw[e];have:=hc k hS;omega
  .have lt:=R.lt p hp;rw[e1,hk]at lt;have q:=ih (rk p.1) lt p.1 rfl (R.ins p hp).1;have:=hl p.1 (R.ins p hp).1;have g:m*(rk p.1:Int)+m<=m*(n:Int):=by
    have:m*((rk p.1:Int)+1)<=m*(n:Int):=Int.mul_le_mul_of_nonneg_left (by omega) hm;rw[Int.mul_add,Int.mul_one]at this;exact this
   omega
def V5{seq:List Nat}{n:Nat}(pm:seq.Perm (List.range n)){ps:List (Int×Int)}(h:Along seq ps):∃W:List (Nat×Nat),ps=(W.map λp=>((p.1:Int),(p.2:Int)))/\Rk (λk=>k<n) W (λk=>seq.idxOf k)/\∀k,k<n->seq.idxOf k<n:=by
 have nd:seq.Nodup:=pm.nodup_iff.mpr nodup_range;have sl:seq.length=n:=by simpa using pm.length_eq
 have ix:∀{i a:Nat},seq[i]?=some a->seq.idxOf a=i:=λ{i a} e=>by
  obtain⟨hi,e⟩:=List.getElem?_eq_some_iff.mp e;subst e;exact nd.idxOf_getElem i hi
 refine⟨ps.map λp=>(p.1.toNat,p.2.toNat),?_,⟨?_,?_⟩,?_⟩
 .rw[map_map];refine(List.map_id' ps).symm.trans (map_congr_left λp hp=>?_);obtain⟨i,j,a,b,_,_,_,rfl⟩:=h p hp;simp
 .intro q hq;obtain⟨p,hp,rfl⟩:=mem_map.mp hq;obtain⟨i,j,a,b,_,ea,eb,rfl⟩:=h p hp;exact⟨by simpa using pm.mem_iff.mp (mem_of_getElem? ea),by simpa using pm.mem_iff.mp (mem_of_getElem? eb)⟩
 .intro q hq;obtain⟨p,hp,rfl⟩:=mem_map.mp hq;obtain⟨i,j,a,b,hij,ea,eb,rfl⟩:=h p hp;show seq.idxOf (a:Int).toNat<seq.idxOf (b:Int).toNat
  simp only[toNat_natCast];rw[ix ea,ix eb];exact hij
 .intro k hk;have:k∈seq:=pm.mem_iff.mpr (by simpa using hk);have:=List.idxOf_lt_length_iff.mpr this;omega
end Hds
namespace Bd
open PySem L2
inductive Rc(ps:List (Int×Int)):Int->Int->Prop
 |one {x y:Int}:(x,y)∈ps->Rc ps x y
 |step {x y z:Int}:Rc ps x y->(y,z)∈ps->Rc ps x z
def Kk:∀{l m:List Int},l.Nodup->(∀x∈l,x∈m)->l.length<=m.length
 |[],m,_,_=>by simp
 |x::r,m,nd,h=>by
  obtain⟨n1,n2⟩:=nodup_cons.mp nd;have hx:=h x mem_cons_self;have:=Kk (l:=r) (m:=m.erase x) n2 λy hy=>(List.mem_erase_of_ne (λe=>n1 (by rw[<- e];exact hy))).mpr (h y (mem_cons_of_mem _ hy));rw[List.length_erase_of_mem hx]at this;have:=List.length_pos_of_mem hx;simp only[length_cons];omega
structure Found(ps:List (Int×Int))(a:Int)(found fresh:List Int):Prop where
 nd:found.Nodup
 rc:∀x∈found,Rc ps a x
 fr:∀x∈fresh,x=a∨x∈found
 cl:∀x,(x=a∨x∈found)->x∈fresh∨∀y,(x,y)∈ps->y∈found
def Rc.snd{ps:List (Int×Int)}{x y:Int}(h:Rc ps x y):y∈ps.map (·.2):=by
 cases h with
 |one h=>exact mem_map.mpr ⟨_,h,rfl⟩
 |step _ h=>exact mem_map.mpr ⟨_,h,rfl⟩
def Found.len{ps:List (Int×Int)}{a:Int}{found fresh:List Int}(h:Found ps a found fresh):found.length<=ps.length:=by
 have:=Kk h.nd λx hx=>(h.rc x hx).snd;simpa using this
def Found.iff{ps:List (Int×Int)}{a:Int}{found:List Int}(h:Found ps a found [])(x:Int):x∈found↔Rc ps a x:=by
 refine⟨h.rc x,λr=>?_⟩
 induction r with
 |one e=>exact(h.cl a (.inl rfl)).elim (λz=>by cases z) λz=>z _ e
 |step _ e ih=>exact(h.cl _ (.inr ih)).elim (λz=>by cases z) λz=>z _ e
def Um(P:D)(hd:Hd)(g:Gd)(G:GOk hd g)(ps:List (Int×Int))(hp:ps.length<=500)(a:Int)
 (hP:∀(z1 z2 z3 z4 z5 z6:Option D) (r:Hd),DZ (A0 0) [some P,z1,z2,z3,z4,z5,z6] (hd++r)=some ((ps.map AQ,g),hd++r)):∀(N:Nat) (found fresh:List Int) (z4 z5 z6:Option D),fresh.length+(ps.length-found.length)<=N->fresh.length<=1+found.length->Found ps a found fresh->∃(k:Nat) (found':List Int) (y4 y5 y6:Option D),
 B2 (E3 (A0 3)) N2 k [some P,some (.im (.int a)),some (.mu hd.length),some (.mu (hd.length+1)),z4,z5,z6] (hd++[.lst (intD found),.lst (intD fresh)]) =
  some (.nx [some P,some (.im (.int a)),some (.mu hd.length),some (.mu (hd.length+1)),y4,y5,y6],hd++[.lst (intD found'),.lst []])/\Found ps a found' []:=by
 intro N
 induction N with
 |zero=>
  intro found fresh z4 z5 z6 hN _ F;have:fresh=[]:=List.length_eq_zero_iff.mp (by omega);subst this;refine⟨1,found,z4,z5,z6,?_,F⟩;simp only[B2,Jb,DP,List.getElem?_cons_zero,List.getElem?_cons_succ,bind_some,Cz,g1,map_nil,List.isEmpty_nil,Bool.not_true,map_some,Bool.false_eq_true,if_false]
 |succ N ih=>
  intro found fresh z4 z5 z6 hN hfr F;rcases List.eq_nil_or_concat fresh with rfl|⟨fr,x,rfl⟩
  .refine⟨1,found,z4,z5,z6,?_,F⟩;simp only[B2,Jb,DP,List.getElem?_cons_zero,List.getElem?_cons_succ,bind_some,Cz,g1,map_nil,List.isEmpty_nil,Bool.not_true,map_some,Bool.false_eq_true,if_false]
  .rw[List.concat_eq_append]at *;have fl:=F.len;simp only[length_append,length_cons,length_nil]at hN hfr;obtain⟨new,y5,y6,q,l,nd,frh,al⟩:=GT P hd g G a x ps found fr z5 z6 (by omega) (by omega);have F2:Found ps a (found++new) (fr++new):=by
    have rx:∀y∈new,Rc ps a y:=λy hy=>by
     rcases F.fr x (by simp)with rfl|h
     .exact .one (frh y hy).2
     .exact .step (F.rc x h) (frh y hy).2
    refine⟨nodup_append.mpr ⟨F.nd,nd,λu hu w hw e=>(frh w hw).1 (e ▸ hu)⟩,λy hy=>?_,λy hy=>?_,λw hw=>?_⟩
    .rcases mem_append.mp hy with h|h
     .exact F.rc y h
     .exact rx y h
    .rcases mem_append.mp hy with h|h
     .rcases F.fr y (by simp[h])with h|h
      .exact .inl h
      .exact .inr (mem_append_left _ h)
     .exact .inr (mem_append_right _ h)
    .by_cases hn:w∈new
     .exact .inl (mem_append_right _ hn)
     .have hw':w=a∨w∈found:=by
       rcases hw with h|h
       .exact .inl h
       .rcases mem_append.mp h with h|h
        .exact .inr h
        .exact absurd h hn
      rcases F.cl w hw' with h|h
      .rcases mem_append.mp h with h|h
       .exact .inl (mem_append_left _ h)
       .have:w=x:=by simpa using h
        subst this;exact .inr al
      .exact .inr λy hy=>mem_append_left _ (h y hy)
   have fl2:=F2.len;simp only[length_append]at fl2;obtain⟨k,found',y4,w5,w6,e,F3⟩:=ih (found++new) (fr++new) (some (.im (.int x))) y5 y6 (by simp only[length_append];omega) (by simp only[length_append];omega) F2;refine⟨k+1,found',y4,w5,w6,?_,F3⟩;have pop:Gv (.mu (hd.length+1)) [] (hd++[.lst (intD found),.lst (intD (fr++[x]))])=some (.im (.int x),hd++[.lst (intD found),.lst (intD fr)]):=by
    simp only[Gv,g1,map_append,map_cons,map_nil,length_append,length_cons,length_nil,length_map];simp
   have ne:(intD (fr++[x])).isEmpty=false:=by simp
   unfold B2;simp only[Jb,DP,List.getElem?_cons_zero,List.getElem?_cons_succ,bind_some,Cz,g1,ne,Bool.not_false,map_some,if_true,N2,Jc,Je,Pp,Es,Jd,pop,KM,set_cons_succ,set_cons_zero,bT,hP,q,e]
def P6(P:D)(hd:Hd)(g:Gd)(G:GOk hd g)(ps:List (Int×Int))(hp:ps.length<64)(a:Int)
 (hP:∀(z1 z2 z3 z4 z5 z6:Option D) (r:Hd),DZ (A0 0) [some P,z1,z2,z3,z4,z5,z6] (hd++r)=some ((ps.map AQ,g),hd++r)):∃(found:List Int) (r:Hd),F_reached [P,.im (.int a)] hd=some (.im (.tup ((AW found).map I.int)),hd++r)/\found.Nodup/\(∀x,x∈found↔Rc ps a x)/\found.length<=ps.length:=by
 obtain⟨k,found,y4,y5,y6,e,F⟩:=Um P hd g G ps (by omega) a hP (1+ps.length) [] [a] none none none (by simp) (by simp) ⟨.nil,(λx h=>by cases h),(λx h=>Or.inl (by simpa using h)),(λx h=>Or.inl (by simpa using h))⟩;have e:=Kp e;have fl:=F.len;refine⟨found,[.lst (intD found),.lst []],?_,F.nd,F.iff,fl⟩;have mk:B4 ((AW found).map λi=>D.im (.int i))=.im (.tup ((AW found).map I.int)):=by
  have:((AW found).map λi=>D.im (.int i))=((AW found).map I.int).map D.im:=by rw[map_map];rfl
  rw[this,BJ]
 simp only[map_nil,map_cons]at e;have lt:found.length<64:=by omega
 simp only[F_reached,mkF,fR,Jc,Je,bM,bO,KO,Jd,DP,map_cons,map_nil,length_cons,length_nil,cons_append,nil_append,List.replicate,Nat.reduceAdd,Nat.reduceSub,if_true,List.getElem?_cons_zero,List.getElem?_cons_succ,bind_some,DN,Eb,KM,map_some,set_cons_succ,set_cons_zero,length_append,append_assoc,e,SE,SG,SD,SF,g0,S0,lt,BK,mk]
end Bd
namespace Rw
open PySem L2 Bd
@[reducible] def fR:MS:=(A5 (AF 2 (Aa (Aj A4)))
 (A5 (AF 3 (Aa (Aj (A1 (A0 1) A4))))
 (A5 (Cs (E3 (A0 3))
  (A5 (AF 4 (mMt Gv (A0 3) A4))
 (BS (DZ (A0 0)) (Bb 2 (AO (AA 5) (AO (AA 6) Bc)))
  (Af (D3 (A6 (mOp gEq (A0 5) (A0 4))) (A6 (mOp (gIn true) (A0 6) (A0 2))))
  (A5 (B8 (mMt Ae (A0 2) (A1 (A0 6) A4)))
 (B8 (mMt Ae (A0 3) (A1 (A0 6) A4))))
  AY))))
 (AL (B7 BK (Bm (Bu (A0 2))))))))
def F_reached:List D->Hd->Option (D×Hd):=mkF 2 7 fR
@[reducible] def fT:MS:=(AL (AC 0 F_reached (A1 (A0 1) (A1 (A0 2) A4))))
def F_behind:List D->Hd->Option (D×Hd):=mkF 3 3 fT
def _root_.Bd.Rc.trans{ps:List (Int×Int)}{x y z:Int}(a:Rc ps x y)(b:Rc ps y z):Rc ps x z:=by
 induction b with
 |one h=>exact .step a h
 |step _ h ih=>exact .step ih h
def UL(ps:List (Int×Int)):(ps.map FK).map D.im=ps.map AQ:=by rw[map_map];rfl
abbrev wI(ps:List (Int×Int)):I:=.tup (ps.map FK)
def SC:F_reached=Bd.F_reached:=rfl
def behind_eq{ps:List (Int×Int)}(hp:ps.length<64)(n a:Int):∃(found:List Int) (g:Hd),F_behind [.im (.int n),.im (wI ps),.im (.int a)] []=some (.im (.tup ((AW found).map I.int)),g)/\found.Nodup/\∀x,x∈found↔Rc ps a x:=by
 obtain⟨found,r,e,nd,mem,_⟩:=P6 (.im (wI ps)) [] [] (AE _) ps hp a λz1 z2 z3 z4 z5 z6 r=>by
  have:=OI (m:=A0 0) (ls:=[some (.im (wI ps)),z1,z2,z3,z4,z5,z6]) (hd:=[]++r) (hd':=[]++r) (is:=ps.map FK) rfl;rw[this,UL]
 refine⟨found,[],?_,nd,mem⟩;have c:=HD (m:=A1 (A0 1) (A1 (A0 2) A4)) (F:=Bd.F_reached) (ls:=[some (.im (.int n)),some (.im (wI ps)),some (.im (.int a))]) (hd:=[]) (ds:=[.im (wI ps),.im (.int a)]) (hd1:=[]) (by simp) (by simp) e;simp only[F_behind,mkF,fT,SC,SE,map_cons,map_nil,length_cons,length_nil,cons_append,nil_append,List.replicate,Nat.reduceAdd,Nat.reduceSub,if_true,c,bind_some]
end Rw
namespace Sx
open L2
def S(l:Nat->Int)(C:List Nat):Int:=(C.map l).sum
def cst(C:List Nat):List Int:=C.map λk:Nat=>(k:Int)
abbrev Blk:=Int×Int×List Int
def Ah(h l:Nat->Int)(e:Int):List Nat->List Nat×List Nat
 |[]=>([],[])
 |m::r=>if e<=h m then([],m::r)else(m::(Ah h l (e+l m) r).1,(Ah h l (e+l m) r).2)
def spl(h l:Nat->Int)(b e:Int)(C:List Nat):List Nat->List Blk
 |[]=>[(b,e,AW (cst C))]
 |m::r=>if e<=h m then(b,e,AW (cst C))::spl h l (h m) (h m+l m) [m] r else spl h l b (e+l m) (C++[m]) r
def Fb(h l:Nat->Int):List Nat->List Blk
 |[]=>[]
 |m::r=>spl h l (h m) (h m+l m) [m] r
def Vg(l:Nat->Int)(C D:List Nat):S l (C++D)=S l C+S l D:=by simp[S]
def Bf(l:Nat->Int)(m:Nat)(D:List Nat):S l (m::D)=l m+S l D:=by simp[S]
def NT{l:Nat->Int}{C D:List Nat}(p:C.Perm D):S l C=S l D:=by
 induction p with
 |nil=>rfl
 |cons x _ ih=>rw[Bf,Bf,ih]
 |swap x y r=>simp only[Bf];omega
 |trans _ _ a b=>exact a.trans b
def Ke{h l:Nat->Int}:∀(r:List Nat) (b e:Int) (C:List Nat),spl h l b e C r=(b,e+S l (Ah h l e r).1,AW (cst (C++(Ah h l e r).1)))::Fb h l (Ah h l e r).2
 |[],b,e,C=>by simp[spl,Ah,Fb,S]
 |m::r,b,e,C=>by
  unfold spl Ah;by_cases q:e<=h m
  .rw[if_pos q,if_pos q];simp[Fb,S]
  .rw[if_neg q,if_neg q,Ke r b (e+l m) (C++[m])];simp only[Bf,append_assoc,cons_append,nil_append];rw[show e+l m+S l (Ah h l (e+l m) r).1=e+(l m+S l (Ah h l (e+l m) r).1) by omega]
structure ChOk(h l:Nat->Int)(b:Int)(C R:List Nat):Prop where
 fst:∃c C',C=c::C'/\h c=b
 lo:∀x∈C,b<=h x
 step:∀(D:List Nat) (x:Nat) (E:List Nat),C=D++x::E->D≠[]->h x<b+S l D
 rest:∀x∈R,b+S l C<=h x
def HC{h l:Nat->Int}:∀(r:List Nat) (e:Int),(Ah h l e r).1++(Ah h l e r).2=r
 |[],e=>rfl
 |m::r,e=>by
  unfold Ah;split
  .rfl
  .simp[HC r (e+l m)]
def Jj{h l:Nat->Int}:∀(r:List Nat) (e:Int) (D:List Nat) (x:Nat) (E:List Nat),(Ah h l e r).1=D++x::E->h x<e+S l D
 |[],e,D,x,E,q=>by simp[Ah]at q
 |m::r,e,D,x,E,q=>by
  unfold Ah at q;split at q
  .simp at q
  .next c=>
   cases D with
   |nil=>
    simp at q;obtain⟨rfl,_⟩:=q;simp[S];omega
   |cons d D=>
    simp at q;obtain⟨rfl,q⟩:=q;have:=Jj r (e+l m) D x E q;rw[Bf];omega
def Jk{h l:Nat->Int}:∀(r:List Nat) (e:Int),r.Pairwise (λa b=>h a<=h b)->∀x∈(Ah h l e r).2,e+S l (Ah h l e r).1<=h x
 |[],e,_,x,hx=>by simp[Ah]at hx
 |m::r,e,pw,x,hx=>by
  rw[pairwise_cons]at pw;unfold Ah at hx ⊢;split at hx
  .next c=>
   rw[if_pos c];simp only[S,map_nil,List.sum_nil,Int.add_zero];rcases mem_cons.mp hx with rfl|hx
   .exact c
   .have:=pw.1 x hx;omega
  .next c=>
   rw[if_neg c];have:=Jk r (e+l m) pw.2 x hx;simp only[Bf];omega
def Uz{h l:Nat->Int}{m:Nat}{r:List Nat}(pw:(m::r).Pairwise λa b=>h a<=h b):ChOk h l (h m) (m::(Ah h l (h m+l m) r).1) (Ah h l (h m+l m) r).2:=by
 rw[pairwise_cons]at pw;refine⟨⟨m,_,rfl,rfl⟩,λx hx=>?_,λD x E e ne=>?_,λx hx=>?_⟩
 .rcases mem_cons.mp hx with rfl|hx
  .exact Int.le_refl _
  .exact pw.1 x (by rw[<- HC r (h m+l m)];exact mem_append_left _ hx)
 .cases D with
  |nil=>exact absurd rfl ne
  |cons d D=>
   simp at e;obtain⟨rfl,e⟩:=e;have:=Jj r (h m+l m) D x E e;rw[Bf];omega
 .have:=Jk r (h m+l m) pw.2 x hx;rw[Bf];omega
def it(h l:Nat->Int)(b:Int)(left:List Nat):Nat->List Nat×Int
 |0=>([],b+1)
 |i+1=>(left.filter λk=>decide (h k<(it h l b left i).2),b+S l (left.filter λk=>decide (h k<(it h l b left i).2)))
def Jp{l:Nat->Int}(hl:∀k,0<=l k):∀{C T:List Nat},C.Nodup->(∀x∈C,x∈T)->S l C<=S l T
 |[],T,_,_=>by
  have:∀T:List Nat,0<=S l T:=λT=>by
   induction T with
   |nil=>simp[S]
   |cons x r ih=>rw[Bf];have:=hl x;omega
  simpa [S]using this T
 |c::C,T,nd,hs=>by
  rw[nodup_cons]at nd;have hc:c∈T:=hs c (by simp);have:=Jp hl (C:=C) (T:=T.erase c) nd.2 λx hx=>(List.mem_erase_of_ne (λz=>nd.1 (by rw[<- z];exact hx))).mpr (hs x (by simp[hx]));rw[Bf,NT (List.perm_cons_erase hc),Bf];omega
inductive Rows(h l:Nat->Int):List Nat->List Blk->Prop
 |nil:Rows h l [] []
 |cons {left C R:List Nat} {b:Int} {bs:List Blk}:left.Perm (C++R)->ChOk h l b C R->Rows h l (left.filter λk=>!decide (k∈C)) bs->Rows h l left ((b,b+S l C,cst (left.filter λk=>decide (k∈C)))::bs)
def Rz{C left:List Nat}(hs:left.Pairwise (·<·))(pf:(left.filter λk=>decide (k∈C)).Perm C):AW (cst C)=cst (left.filter λk=>decide (k∈C)):=by
 refine Cc ((Bq _).trans (pf.symm.map _)) (CT _) ?_;unfold cst;rw[pairwise_map];exact(hs.sublist filter_sublist).imp λq=>by omega
def rows_stret{h l:Nat->Int}(hl:∀k,1<=l k):∀(n:Nat) (ms left:List Nat),ms.length=n->left.Pairwise (·<·)->ms.Perm left->ms.Pairwise (λa b=>h a<=h b)->Rows h l left (Fb h l ms):=by
 intro n
 induction n using Nat.strongRecOn with
 |_ n ih=>
  intro ms left hn hs pm pw;cases ms with
  |nil=>
   have:left=[]:=by simpa using pm.symm
   subst this;exact .nil
  |cons m r=>
   have ca:=HC (h:=h) (l:=l) r (h m+l m);have K:=Uz (h:=h) (l:=l) pw;have nd:left.Nodup:=hs.imp λq=>by omega
   have ep:left.Perm ((m::(Ah h l (h m+l m) r).1)++(Ah h l (h m+l m) r).2):=by
    have:(m::(Ah h l (h m+l m) r).1)++(Ah h l (h m+l m) r).2=m::r:=by rw[cons_append,ca]
    rw[this];exact pm.symm
   have ndC:=ep.nodup_iff.mp nd;have pf:(left.filter λk=>decide (k∈m::(Ah h l (h m+l m) r).1)).Perm (m::(Ah h l (h m+l m) r).1):=by
    refine(List.perm_ext_iff_of_nodup (nd.sublist filter_sublist) (ndC.sublist (List.sublist_append_left _ _))).mpr λx=>?_;rw[mem_filter];constructor
    .intro q;simpa using q.2
    .intro q;exact⟨ep.mem_iff.mpr (mem_append_left _ q),by simpa using q⟩
   have pr:(Ah h l (h m+l m) r).2.Perm (left.filter λk=>!decide (k∈m::(Ah h l (h m+l m) r).1)):=by
    refine(List.perm_ext_iff_of_nodup (ndC.sublist (List.sublist_append_right _ _)) (nd.sublist filter_sublist)).mpr λx=>?_;rw[mem_filter];constructor
    .intro q;refine⟨ep.mem_iff.mpr (mem_append_right _ q),?_⟩;have:x∉m::(Ah h l (h m+l m) r).1:=λz=>(nodup_append.mp ndC).2.2 x z x q rfl;simpa using this
    .intro q;rcases mem_append.mp (ep.mem_iff.mp q.1)with z|z
     .have:=q.2;simp at this z;exact absurd z (by simpa using this)
     .exact z
   have lt:(Ah h l (h m+l m) r).2.length<n:=by
    have:=congrArg List.length ca;simp at this hn;omega
   have pw2:(Ah h l (h m+l m) r).2.Pairwise λa b=>h a<=h b:=by
    rw[pairwise_cons]at pw;have:=pw.2;rw[<- ca]at this;exact this.sublist (List.sublist_append_right _ _)
   have R:=ih _ lt _ _ rfl (hs.sublist filter_sublist) pr pw2;show Rows h l left (spl h l (h m) (h m+l m) [m] r);rw[Ke,cons_append,nil_append,Rz hs pf,show h m+l m+S l (Ah h l (h m+l m) r).1=h m+S l (m::(Ah h l (h m+l m) r).1) by rw[Bf];omega];exact .cons ep K R
end Sx
namespace Bk
open L2 Sx
def upd(f:Nat->Int)(k:Nat)(v:Int):Nat->Int:=λj=>if j=k then v else f j
def upd_self(f:Nat->Int)(k:Nat)(v:Int):upd f k v k=v:=by simp[upd]
def upd_ne{f:Nat->Int}{k j:Nat}{v:Int}(h:j≠k):upd f k v j=f j:=by simp[upd,h]
structure Hs(n:Nat)(c l:Nat->Int)(W:List (Nat×Nat))(h:Nat->Int):Prop where
 pos:∀k,k<n->1<=l k
 ins:∀p∈W,p.1<n/\p.2<n
 lo:∀k,k<n->c k<=h k
 st:∀p∈W,h p.1+l p.1<=h p.2
 eq:∀k,k<n->h k=c k∨∃p∈W,p.2=k/\h k=h p.1+l p.1
def dn(l left:Nat->Int)(ks:List Nat):Int:=(ks.map λk=>l k-left k).sum
structure Inv(n:Nat)(l h:Nat->Int)(W:List (Nat×Nat))(left en:Nat->Int)(t:Int):Prop where
 lo:∀k,k<n->0<=left k/\left k<=l k
 et:∀k,k<n->left k<l k->en k<=t
 bd:∀ks:List Nat,ks.Nodup->(∀k∈ks,k<n)->∀b:Int,(∀k∈ks,b<=h k)->(∀k∈ks,left k=l k)∨∃u∈ks,left u<l u/\b+dn l left ks<=en u
 wi:∀p∈W,left p.2<l p.2->left p.1=0/\en p.1<en p.2
def Inv.start{n:Nat}{l h:Nat->Int}{W:List (Nat×Nat)}(ins:∀p∈W,p.1<n/\p.2<n){left en:Nat->Int}{t:Int}(pos:∀k,k<n->1<=l k)(hl:∀k,k<n->left k=l k):Inv n l h W left en t where
 lo k hk:=by have:=pos k hk;rw[hl k hk];omega
 et k hk q:=by rw[hl k hk]at q;omega
 bd ks _ hk b _:=.inl λk hk'=>hl k (hk k hk')
 wi p hp q:=by rw[hl p.2 (ins p hp).2]at q;omega
def SJ{l left:Nat->Int}{k:Nat}{v:Int}:∀{ks:List Nat},ks.Nodup->dn l (upd left k v) ks=dn l left ks+if k∈ks then left k-v else 0
 |[],_=>by simp[dn]
 |x::r,nd=>by
  obtain⟨h1,h2⟩:=nodup_cons.mp nd;have ih:=SJ (l:=l) (left:=left) (k:=k) (v:=v) h2;unfold dn at ih ⊢;simp only[map_cons,sum_cons,ih];by_cases e:x=k
  .subst e;rw[upd_self,if_neg h1,if_pos (by simp)];omega
  .rw[upd_ne e];by_cases q:k∈r
   .rw[if_pos q,if_pos (by simp[q])];omega
   .rw[if_neg q,if_neg (by simp[q];exact λz=>e z.symm)];omega
def OO{l left:Nat->Int}:∀{ks:List Nat},(∀k∈ks,left k=l k)->dn l left ks=0
 |[],_=>rfl
 |x::r,h=>by
  have ih:=OO (l:=l) (left:=left) (ks:=r) λk hk=>h k (by simp[hk]);have h0:=h x (by simp);unfold dn at ih ⊢;simp only[map_cons,sum_cons,ih];omega
def Inv.head{n:Nat}{c l h:Nat->Int}{W:List (Nat×Nat)}(H:Hs n c l W h){left en:Nat->Int}{t:Int}(I:Inv n l h W left en t){k:Nat}(hk:k<n){x:Int}(tx:t<=x)(cx:c k<=x)(hf:∀p∈W,p.2=k->left p.1=0):h k<=x:=by
 rcases H.eq k hk with e|⟨p,hp,e1,e2⟩
 .omega
 .have l0:=hf p hp e1;have pn:=(H.ins p hp).1;have lp:=H.pos p.1 pn;rcases I.bd [p.1] (by simp) (by simpa using pn) (h p.1) (by simp)with q|⟨u,hu,_,q⟩
  .have:=q p.1 (by simp);omega
  .rw[mem_singleton]at hu;subst hu;have:=I.et p.1 pn (by omega);simp[dn]at q;omega
def Inv.step{n:Nat}{c l h:Nat->Int}{W:List (Nat×Nat)}(H:Hs n c l W h){left en:Nat->Int}{t:Int}(I:Inv n l h W left en t){k:Nat}(hk:k<n){x m:Int}(tx:t<=x)(cx:c k<=x)(hf:∀p∈W,p.2=k->left p.1=0)(m1:1<=m)(m2:m<=left k):
 Inv n l h W (upd left k (left k-m)) (upd en k (x+m)) (x+m):=by
 have hx:=I.head H hk tx cx hf;have lk:=I.lo k hk;refine⟨λj hj=>?_,λj hj q=>?_,λks nd hn b hb=>?_,λp hp q=>?_⟩
 .by_cases e:j=k
  .subst e;rw[upd_self];omega
  .rw[upd_ne e];exact I.lo j hj
 .by_cases e:j=k
  .subst e;rw[upd_self];exact Int.le_refl _
  .rw[upd_ne e]at q ⊢;have:=I.et j hj q;omega
 .rw[SJ nd];have ob:=I.bd ks nd hn b hb;by_cases e:k∈ks
  .refine .inr ⟨k,e,by rw[upd_self];omega,?_⟩;rw[upd_self,if_pos e];have bk:=hb k e;rcases ob with q|⟨u,hu,q1,q2⟩
   .rw[OO q];omega
   .have:=I.et u (hn u hu) q1;omega
  .rw[if_neg e];rcases ob with q|⟨u,hu,q1,q2⟩
   .refine .inl λj hj=>?_;rw[upd_ne (λz:j=k=>e (z ▸ hj))];exact q j hj
   .have ne:u≠k:=λz=>e (z ▸ hu);exact .inr ⟨u,hu,by rw[upd_ne ne];exact q1,by rw[upd_ne ne];omega⟩
 .by_cases e:p.2=k
  .have l0:=hf p hp e;have ne:p.1≠k:=λz=>by rw[z]at l0;omega
   rw[upd_ne ne,upd_ne ne,e,upd_self];refine⟨l0,?_⟩;have pn:=(H.ins p hp).1;have:=H.pos p.1 pn;have:=I.et p.1 pn (by omega);omega
  .rw[upd_ne e]at q;obtain⟨q1,q2⟩:=I.wi p hp q;have ne:p.1≠k:=λz=>by rw[z]at q1;omega
   rw[upd_ne ne,upd_ne ne,upd_ne e];exact⟨q1,q2⟩
def OP{l left:Nat->Int}:∀{ks:List Nat},(∀k∈ks,left k=0)->dn l left ks=S l ks
 |[],_=>rfl
 |x::r,h=>by
  have ih:=OP (l:=l) (left:=left) (ks:=r) λk hk=>h k (by simp[hk]);have h0:=h x (by simp);rw[Bf];unfold dn at ih ⊢;simp only[map_cons,sum_cons,ih];omega
def V3(f:Nat->Int):∀ks:List Nat,ks≠[]->∃u∈ks,∀v∈ks,f v<=f u:=by
 intro ks
 induction ks with
 |nil=>intro h;exact absurd rfl h
 |cons x r ih=>
  intro _;by_cases hr:r=[]
  .subst hr;exact⟨x,by simp,by simp⟩
  .obtain⟨u,hu,hm⟩:=ih hr;by_cases q:f u<=f x
   .refine⟨x,by simp,λv hv=>?_⟩;rcases mem_cons.mp hv with rfl|hv
    .exact Int.le_refl _
    .exact Int.le_trans (hm v hv) q
   .refine⟨u,by simp[hu],λv hv=>?_⟩;rcases mem_cons.mp hv with rfl|hv
    .omega
    .exact hm v hv
def Inv.low{n:Nat}{c l h:Nat->Int}{W:List (Nat×Nat)}(H:Hs n c l W h){left en:Nat->Int}{t:Int}(I:Inv n l h W left en t)(h0:∀k,k<n->left k=0){ks:List Nat}(hne:ks≠[])(nd:ks.Nodup)(hn:∀k∈ks,k<n){b:Int}(hb:∀k∈ks,b<=h k):
 ∃u∈ks,b+S l ks<=en u/\∀v∈ks,en v<=en u:=by
 obtain⟨u,hu,hm⟩:=V3 en ks hne;refine⟨u,hu,?_,hm⟩;rcases I.bd ks nd hn b hb with q|⟨v,hv,_,q⟩
 .have:=q u hu;have:=h0 u (hn u hu);have:=H.pos u (hn u hu);omega
 .rw[OP λk hk=>h0 k (hn k hk)]at q;exact Int.le_trans q (hm v hv)
abbrev Pc:=Nat×Int×Int
def tot(k:Nat):List Pc->Int
 |[]=>0
 |p::r=>(if p.1=k then p.2.2-p.2.1 else 0)+tot k r
def Dc:List Pc->Int
 |[]=>0
 |p::r=>(p.2.2-p.2.1)+Dc r
def gf(u:Nat)(at_ e:Int):List Pc->List Pc
 |[]=>[(u,at_,e)]
 |q::r=>(if at_<q.2.1 then [(u,at_,q.2.1)]else [])++q::gf u q.2.2 e r
def tot_app(k:Nat):∀a b:List Pc,tot k (a++b)=tot k a+tot k b
 |[],b=>by simp[tot]
 |p::r,b=>by simp only[cons_append,tot,tot_app k r b];omega
def tot_none{k:Nat}:∀{a:List Pc},(∀p∈a,p.1≠k)->tot k a=0
 |[],_=>rfl
 |p::r,h=>by
  rw[tot,if_neg (h p (by simp)),tot_none λq hq=>h q (by simp[hq])];rfl
def tot_nn{k:Nat}:∀{a:List Pc},(∀p∈a,p.2.1<p.2.2)->0<=tot k a
 |[],_=>Int.le_refl _
 |p::r,h=>by
  have h1:=h p (by simp);have h2:=tot_nn (k:=k) (a:=r) λq hq=>h q (by simp[hq]);rw[tot];split<;>omega
def Row(b:Int):List Pc->Prop
 |[]=>True
 |p::r=>b<=p.2.1/\p.2.1<p.2.2/\Row p.2.2 r
def Row.mono{b b':Int}(h:b'<=b):∀{ps:List Pc},Row b ps->Row b' ps
 |[],_=>trivial
 |p::r,q=>⟨by have:=q.1;omega,q.2.1,q.2.2⟩
def Row.ge{b:Int}:∀{ps:List Pc},Row b ps->∀p∈ps,b<=p.2.1/\p.2.1<p.2.2
 |[],_,p,hp=>by cases hp
 |q::r,h,p,hp=>by
  rcases mem_cons.mp hp with rfl|hp
  .exact⟨h.1,h.2.1⟩
  .have:=h.2.2.ge p hp;have:=h.1;have:=h.2.1;exact⟨by omega,by omega⟩
def Row.app{e:Int}:∀{ps qs:List Pc} {b:Int},Row b ps->b<=e->(∀p∈ps,p.2.2<=e)->Row e qs->Row b (ps++qs)
 |[],qs,b,_,h1,_,h=>h.mono h1
 |p::r,qs,b,h,h1,h2,h3=>⟨h.1,h.2.1,Row.app h.2.2 (h2 p (by simp)) (λq hq=>h2 q (by simp[hq])) h3⟩
def IJ{P:Pc->Prop}[DecidablePred P]{g:Int}:∀{ps:List Pc} {b:Int},Row b ps->b<=g->(∀p∈ps,P p->p.2.2<=g)->Dc (ps.filter λp=>decide (P p))<=g-b
 |[],b,_,h,_=>by simp[Dc];omega
 |p::r,b,h,hb,hp=>by
  have h1:=h.1;have h2:=h.2.1;by_cases q:P p
  .have e:=hp p (by simp) q;have ih:=IJ (P:=P) h.2.2 e λx hx=>hp x (by simp[hx]);rw[filter_cons_of_pos (by simpa using q),Dc];omega
  .rw[filter_cons_of_neg (by simpa using q)];exact IJ (P:=P) (h.2.2.mono (by omega)) hb λx hx=>hp x (by simp[hx])
def Ko{d:Nat}{D:List Nat}(hd:d∉D):∀ps:List Pc,Dc (ps.filter λp=>decide (p.1∈d::D))=tot d ps+Dc (ps.filter λp=>decide (p.1∈D))
 |[]=>rfl
 |p::r=>by
  have ih:=Ko hd r;rw[tot];by_cases e:p.1=d
  .rw[filter_cons_of_pos (by simp[e]),filter_cons_of_neg (by simpa [e]using hd),Dc,ih,if_pos e];omega
  .by_cases q:p.1∈D
   .rw[filter_cons_of_pos (by simp[q]),filter_cons_of_pos (by simp[q]),Dc,Dc,ih,if_neg e];omega
   .rw[filter_cons_of_neg (by simp[q,e]),filter_cons_of_neg (by simp[q]),ih,if_neg e];omega
def Mp{l:Nat->Int}{ps:List Pc}:∀{D:List Nat},D.Nodup->(∀d∈D,tot d ps=l d)->Dc (ps.filter λp=>decide (p.1∈D))=S l D
 |[],_,_=>by
  have:(ps.filter λp=>decide (p.1∈([]:List Nat)))=[]:=by simp
  rw[this];rfl
 |d::D,nd,h=>by
  obtain⟨h1,h2⟩:=nodup_cons.mp nd;rw[Ko h1,Mp h2 λx hx=>h x (by simp[hx]),Bf,h d (by simp)]
def UX{ps:List Pc}{D:List Nat}(h:∀p∈ps,p.1∈D):(ps.filter λp=>decide (p.1∈D))=ps:=
 List.filter_eq_self.mpr λp hp=>by simpa using h p hp
def S5{u:Nat}{e:Int}:∀{qs:List Pc} {a:Int},Row a qs->(∀q∈qs,q.2.2<e)->a<e->∀p∈gf u a e qs,p∈qs∨(p.1=u/\a<=p.2.1/\p.2.1<p.2.2/\p.2.2<=e/\∀q∈qs,q.2.2<=p.2.1∨p.2.2<=q.2.1)
 |[],a,_,_,h,p,hp=>by
  rw[gf,mem_singleton]at hp;subst hp;exact .inr ⟨rfl,Int.le_refl _,h,Int.le_refl _,by simp⟩
 |q::r,a,hr,he,h,p,hp=>by
  have h1:=hr.1;have h2:=hr.2.1;have he1:=he q (by simp);have rg:=hr.2.2.ge;rw[gf]at hp;rcases mem_append.mp hp with hp|hp
  .by_cases c:a<q.2.1
   .rw[if_pos c,mem_singleton]at hp;subst hp;refine .inr ⟨rfl,Int.le_refl _,c,by show q.2.1<=e;omega,λx hx=>.inr ?_⟩;show q.2.1<=x.2.1;rcases mem_cons.mp hx with rfl|hx
    .exact Int.le_refl _
    .have:=rg x hx;omega
   .rw[if_neg c]at hp;cases hp
  .rcases mem_cons.mp hp with rfl|hp
   .exact .inl (by simp)
   .rcases S5 hr.2.2 (λx hx=>he x (by simp[hx])) he1 p hp with z|⟨z1,z2,z3,z4,z5⟩
    .exact .inl (by simp[z])
    .refine .inr ⟨z1,by omega,z3,z4,λx hx=>?_⟩;rcases mem_cons.mp hx with rfl|hx
     .exact .inl z2
     .exact z5 x hx
def S4{u:Nat}{e:Int}:∀{qs:List Pc} {a:Int},Row a qs->(∀q∈qs,q.2.2<e)->a<e->Row a (gf u a e qs)
 |[],a,_,_,h=>⟨Int.le_refl _,h,trivial⟩
 |q::r,a,hr,he,h=>by
  have ih:=S4 (u:=u) hr.2.2 (λx hx=>he x (by simp[hx])) (he q (by simp));rw[gf];by_cases c:a<q.2.1
  .rw[if_pos c];exact⟨Int.le_refl _,c,Int.le_refl _,hr.2.1,ih⟩
  .rw[if_neg c];exact⟨hr.1,hr.2.1,ih⟩
def N4{u:Nat}{e:Int}:∀{qs:List Pc} {a:Int},Row a qs->(∀q∈qs,q.2.2<e)->∀y,a<=y->y<e->∃p∈gf u a e qs,p.2.1<=y/\y<p.2.2
 |[],a,_,_,y,h1,h2=>⟨(u,a,e),by simp[gf],h1,h2⟩
 |q::r,a,hr,he,y,h1,h2=>by
  rw[gf];by_cases c:y<q.2.1
  .exact⟨(u,a,q.2.1),mem_append_left _ (by rw[if_pos (by omega)];simp),h1,c⟩
  .by_cases c2:y<q.2.2
   .exact⟨q,by simp,by omega,c2⟩
   .obtain⟨p,hp,z⟩:=N4 (u:=u) hr.2.2 (λx hx=>he x (by simp[hx])) y (by omega) h2;exact⟨p,mem_append_right _ (mem_cons_of_mem _ hp),z⟩
def S3{u:Nat}{e:Int}:∀{qs:List Pc} {a:Int},Row a qs->(∀q∈qs,q.1≠u)->tot u (gf u a e qs)=e-a-Dc qs
 |[],a,_,_=>by simp[gf,tot,Dc]
 |q::r,a,hr,hu=>by
  have ih:=S3 (e:=e) hr.2.2 λx hx=>hu x (by simp[hx]);have h1:=hr.1;rw[gf,tot_app,tot,if_neg (hu q (by simp)),ih,Dc];by_cases c:a<q.2.1
  .rw[if_pos c];simp[tot];omega
  .rw[if_neg c];simp[tot];omega
def Kw{u k:Nat}(h:k≠u){e:Int}:∀{qs:List Pc} {a:Int},tot k (gf u a e qs)=tot k qs
 |[],a=>by simp only[gf,tot];rw[if_neg λz:u=k=>h z.symm];rfl
 |q::r,a=>by
  have ih:=Kw h (e:=e) (qs:=r) (a:=q.2.2);rw[gf,tot_app,tot,tot,ih];by_cases c:a<q.2.1
  .rw[if_pos c];simp only[tot];rw[if_neg λz:u=k=>h z.symm];omega
  .rw[if_neg c];simp[tot]
def F0{P:Nat->Prop}[DecidablePred P]:∀{C:List Nat},(∃c∈C,¬ P c)->∃D x E,C=D++x::E/\(∀d∈D,P d)/\¬ P x
 |[],h=>by obtain⟨c,hc,_⟩:=h;cases hc
 |c::r,h=>by
  by_cases q:P c
  .obtain⟨D,x,E,e,h1,h2⟩:=F0 (C:=r) (P:=P) (by
    obtain⟨d,hd,z⟩:=h;rcases mem_cons.mp hd with rfl|hd
    .exact absurd q z
    .exact⟨d,hd,z⟩)
   refine⟨c::D,x,E,by rw[e];rfl,λd hd=>?_,h2⟩;rcases mem_cons.mp hd with rfl|hd
   .exact q
   .exact h1 d hd
  .exact⟨[],c,r,rfl,by simp,q⟩
def Wd(h l:Nat->Int)(M:List Nat)(e:Int):Prop:=(∃c∈M,e=h c+S l M)/\∀c∈M,e<=h c+S l M
inductive Brk(h l:Nat->Int)(ch:List Nat->Int->Nat->Prop):List Nat->List Pc->List (List Nat)->Prop
 |nil:Brk h l ch [] [] []
 |cons {left C R:List Nat} {b:Int} {u:Nat} {qs ps:List Pc} {ts ss:List (List Nat)} (pm:left.Perm (C++R)) (K:ChOk h l b C R) (hc:ch (left.filter λk=>decide (k∈C)) (b+S l C) u) (hu:u∈C) (inn:Brk h l ch ((left.filter λk=>decide (k∈C)).filter λk=>decide (k≠u)) qs ts) (rst:Brk h l ch (left.filter λk=>!decide (k∈C)) ps ss):
  Brk h l ch left (gf u b (b+S l C) qs++ps) (((left.filter λk=>decide (k∈C))::ts)++ss)
structure Ok(h l:Nat->Int)(W:List (Nat×Nat))(ch:List Nat->Int->Nat->Prop)(left:List Nat)(ps:List Pc)(ss:List (List Nat)):Prop where
 mem:∀p∈ps,p.1∈left/\h p.1<=p.2.1
 row:∀b,(∀k∈left,b<=h k)->Row b ps
 tot:∀k∈left,tot k ps=l k
 wis:∀w∈W,w.1∈left->w.2∈left->∀q∈ps,∀r∈ps,q.1=w.1->r.1=w.2->q.2.2<=r.2.1
 fre:∀x,(∀q∈ps,q.2.2<=x∨x<q.2.1)->∀q∈ps,h q.1<=x->q.2.2<=x
 blk:∀q∈ps,∃(b':Int) (D:List Nat),D.Nodup/\(∀d∈D,d∈left)/\(∀d∈D,b'<=h d)/\(∃d∈D,h d=b')/\q.2.2<=b'+S l D
 cst:∀k∈left,∃M∈ss,∃e,ch M e k/\Wd h l M e/\∀q∈ps,q.1=k->q.2.2<=e
 set:∀M∈ss,M≠[]/\M.Sublist left
def cv{h l:Nat->Int}(hl:∀k,1<=l k){b:Int}{C R:List Nat}(K:ChOk h l b C R){x:Nat}(hx:x∈C):h x<b+S l C:=by
 obtain⟨D,E,e⟩:=List.append_of_mem hx;have h0:0<=S l E:=by have:=Jp (l:=l) (λk=>by have:=hl k;omega) (C:=[]) (T:=E) .nil (by simp);simpa [S]using this
 have hx1:=hl x;rw[e,Vg,Bf];by_cases q:D=[]
 .subst q;obtain⟨c,C',e1,e2⟩:=K.fst;rw[e]at e1;have:x=c:=(List.cons.inj e1).1;subst this;simp[S]at *;omega
 .have:=K.step D x E e q;omega
def Brk.ok{h l:Nat->Int}(hl:∀k,1<=l k){W:List (Nat×Nat)}(hW:∀w∈W,h w.1+l w.1<=h w.2){ch:List Nat->Int->Nat->Prop}(hch:∀M e u,ch M e u->∀w∈W,w.1=u->w.2∉M){left:List Nat}{ps:List Pc}{ss:List (List Nat)}(B:Brk h l ch left ps ss):left.Nodup->Ok h l W ch left ps ss:=by
 have hl0:∀k,0<=l k:=λk=>by have:=hl k;omega
 induction B with
 |nil=>intro _;exact⟨by simp,λ_ _=>trivial,by simp,by simp,by simp,by simp,by simp,by simp⟩
 |@cons left C R b u qs ps ts ss pm K hc hu inn rst ihI ihR=>
  intro nd;have ndC:(C++R).Nodup:=pm.nodup_iff.mp nd;have nC:C.Nodup:=ndC.sublist (List.sublist_append_left _ _);have cl:∀k∈C,k∈left:=λk hk=>pm.mem_iff.mpr (mem_append_left _ hk);have mM:∀k,k∈left.filter (λk=>decide (k∈C))↔k∈C:=λk=>by
   rw[mem_filter];exact⟨λz=>by simpa using z.2,λz=>⟨cl k z,by simpa using z⟩⟩
  have mN:∀k,k∈(left.filter λk=>decide (k∈C)).filter (λk=>decide (k≠u))↔k∈C/\k≠u:=λk=>by
   rw[mem_filter,mM];simp
  have mR:∀k,k∈left.filter (λk=>!decide (k∈C))->k∈left/\k∉C/\b+S l C<=h k:=λk z=>by
   obtain⟨z1,z2⟩:=mem_filter.mp z;have z2:k∉C:=by simpa using z2
   refine⟨z1,z2,K.rest k ?_⟩;rcases mem_append.mp (pm.mem_iff.mp z1)with q|q
   .exact absurd q z2
   .exact q
  have inR:∀k,k∈left->k∉C->k∈left.filter (λk=>!decide (k∈C)):=λk z1 z2=>mem_filter.mpr ⟨z1,by simpa using z2⟩;have ndM:(left.filter λk=>decide (k∈C)).Nodup:=nd.sublist filter_sublist;have ndN:=ndM.sublist (filter_sublist (p:=λk=>decide (k≠u)));have I:=ihI ndN;have Rt:=ihR (nd.sublist filter_sublist);clear ihI ihR;have sM:S l (left.filter λk=>decide (k∈C))=S l C:=NT ((List.perm_ext_iff_of_nodup ndM nC).mpr mM);have sN:S l ((left.filter λk=>decide (k∈C)).filter λk=>decide (k≠u))+l u=S l C:=by
   have:(u::(left.filter λk=>decide (k∈C)).filter λk=>decide (k≠u)).Perm C:=by
    refine(List.perm_ext_iff_of_nodup (nodup_cons.mpr ⟨λz=>((mN u).mp z).2 rfl,ndN⟩) nC).mpr λk=>?_;rw[mem_cons,mN];constructor
    .rintro(rfl|z)
     .exact hu
     .exact z.1
    .intro z;by_cases q:k=u
     .exact .inl q
     .exact .inr ⟨z,q⟩
   rw[<- NT this,Bf];omega
  have lu:=hl u;have rq:Row b qs:=I.row b λk hk=>K.lo k ((mN k).mp hk).1;have frst:∀{D:List Nat} {x:Nat} {E:List Nat},C=D++x::E->b<h x->D≠[]:=by
   intro D x E e q z;subst z;obtain⟨c,C',e1,e2⟩:=K.fst;rw[e]at e1;have:x=c:=(List.cons.inj e1).1;subst this;omega
  have g2:∀q∈qs,q.2.2<b+S l C:=by
   intro q hq;obtain⟨b',D,ndD,subD,loD,⟨d0,hd0,e0⟩,hqe⟩:=I.blk q hq;have dC:∀d∈D,d∈C:=λd hd=>((mN d).mp (subD d hd)).1;have bb:b<=b':=by rw[<- e0];exact K.lo d0 (dC d0 hd0)
   by_cases eb:b'=b
   .have:=Jp hl0 ndD subD;omega
   .obtain⟨D0,x,E,e,h1,h2⟩:=F0 (P:=λc=>h c<b') (C:=C) ⟨d0,dC d0 hd0,by omega⟩;have st:=K.step D0 x E e (frst e (by omega));have nd0:D0.Nodup:=nC.sublist (by rw[e];exact List.sublist_append_left _ _);have:=Jp hl0 (C:=D0++D) (T:=C) (nodup_append.mpr ⟨nd0,ndD,λa ha c hc z=>by
     subst z;have:=h1 a ha;have:=loD a hc;omega⟩) λy hy=>by
     rcases mem_append.mp hy with q|q
     .rw[e];simp[q]
     .exact dC y q
    rw[Vg]at this;omega
  have snn:0<=S l ((left.filter λk=>decide (k∈C)).filter λk=>decide (k≠u)):=by
   have:=Jp hl0 (C:=[]) (T:=(left.filter λk=>decide (k∈C)).filter λk=>decide (k≠u)) .nil (by simp);simpa [S]using this
  have be:b<b+S l C:=by omega
  have gm:=S5 (u:=u) rq g2 be;have nq:∀q∈qs,q.1∈C/\q.1≠u:=λq hq=>(mN _).mp (I.mem q hq).1;have gC:∀p∈gf u b (b+S l C) qs,p.1∈C/\p.2.2<=b+S l C:=λp hp=>by
   rcases gm p hp with z|z
   .exact⟨(nq p z).1,Int.le_of_lt (g2 p z)⟩
   .exact⟨z.1 ▸ hu,z.2.2.2.1⟩
  have pR:∀p∈ps,p.1∈left/\p.1∉C/\b+S l C<=h p.1:=λp hp=>mR _ (Rt.mem p hp).1;have g3:∀p∈gf u b (b+S l C) qs,p.1=u->h u<=p.2.1/\∀q∈qs,q.2.2<=p.2.1∨p.2.1<q.2.1:=by
   intro p hp eu;rcases gm p hp with z|⟨_,z2,z3,z4,z5⟩
   .exact absurd eu (nq p z).2
   have free:∀q∈qs,q.2.2<=p.2.1∨p.2.1<q.2.1:=λq hq=>by
    rcases z5 q hq with y|y
    .exact .inl y
    .exact .inr (by omega)
   refine⟨Classical.byContradiction λhn=>?_,free⟩;obtain⟨D0,x,E,e,h1,h2⟩:=F0 (P:=λc=>h c<=p.2.1) (C:=C) ⟨u,hu,hn⟩;have st:=K.step D0 x E e (frst e (by omega));have nd0:D0.Nodup:=nC.sublist (by rw[e];exact List.sublist_append_left _ _);have d0N:∀d∈D0,d∈(left.filter λk=>decide (k∈C)).filter (λk=>decide (k≠u)):=λd hd=>
    (mN d).mpr ⟨by rw[e];simp[hd],λy=>by subst y;exact hn (h1 d hd)⟩
   have m1:=IJ (P:=λq:Pc=>q.1∈D0) (g:=p.2.1) rq z2 λq hq hqD=>I.fre _ free q hq (h1 _ hqD);rw[Mp nd0 λd hd=>I.tot d (d0N d hd)]at m1;omega
  refine⟨λp hp=>?_,λb0 hb0=>?_,λk hk=>?_,λw hw h1 h2 q hq r hr eq er=>?_,λx hx q hq hqx=>?_,λq hq=>?_,λk hk=>?_,λM hM=>?_⟩
  .rcases mem_append.mp hp with z|z
   .refine⟨cl _ (gC p z).1,?_⟩;rcases gm p z with y|y
    .exact(I.mem p y).2
    .rw[y.1];exact(g3 p z y.1).1
   .exact⟨(pR p z).1,(Rt.mem p z).2⟩
  .obtain⟨c,C',e1,e2⟩:=K.fst;have bl:b0<=b:=by rw[<- e2];exact hb0 c (cl c (by rw[e1];simp))
   exact Row.app ((S4 (u:=u) rq g2 be).mono bl) (by omega) (λp hp=>(gC p hp).2) (Rt.row _ λk hk=>(mR k hk).2.2)
  .rw[tot_app];by_cases q:k∈C
   .rw[tot_none λp hp z=>(pR p hp).2.1 (z ▸ q),Int.add_zero];by_cases eu:k=u
    .subst eu;rw[S3 rq λx hx=>(nq x hx).2];have m1:=Mp (l:=l) ndN I.tot;rw[UX λp hp=>(I.mem p hp).1]at m1;omega
    .rw[Kw eu];exact I.tot k ((mN k).mpr ⟨q,eu⟩)
   .rw[tot_none λp hp (z:p.1=k)=>q (z ▸ (gC p hp).1),Int.zero_add];exact Rt.tot k (inR k hk q)
  .have hw':=hW w hw;have l1:=hl w.1;rcases mem_append.mp hq with zq|zq
   .have qC:=gC q zq;rcases mem_append.mp hr with zr|zr
    .have rC:=gC r zr;have nu:w.1≠u:=λz=>hch _ _ _ hc w hw z ((mM _).mpr (er ▸ rC.1));have qin:q∈qs:=by
      rcases gm q zq with y|y
      .exact y
      .exact absurd (eq ▸ y.1) nu
     rcases gm r zr with y|y
     .exact I.wis w hw (eq ▸ (I.mem q qin).1) (er ▸ (I.mem r y).1) q qin r y eq er
     .obtain⟨y1,y2⟩:=g3 r zr y.1;refine I.fre _ y2 q qin ?_;rw[eq];rw[<- er,y.1]at hw';omega
    .have:=(pR r zr).2.2;have:=(Rt.mem r zr).2;have:=qC.2;omega
   .have pq:=pR q zq;rcases mem_append.mp hr with zr|zr
    .have:=cv hl K (gC r zr).1;rw[er]at this;have p2:=pq.2.2;rw[eq]at p2;omega
    .exact Rt.wis w hw (eq ▸ (Rt.mem q zq).1) (er ▸ (Rt.mem r zr).1) q zq r zr eq er
  .rcases mem_append.mp hq with z|z
   .have qC:=gC q z;have lo:=K.lo _ qC.1;by_cases c:x<b+S l C
    .obtain⟨p,hp,y1,y2⟩:=N4 (u:=u) rq g2 x (by omega) c;rcases hx p (mem_append_left _ hp)with y|y<;>omega
    .have:=qC.2;omega
   .exact Rt.fre x (λy hy=>hx y (mem_append_right _ hy)) q z hqx
  .rcases mem_append.mp hq with z|z
   .obtain⟨c,C',e1,e2⟩:=K.fst;exact⟨b,C,nC,cl,K.lo,⟨c,by rw[e1];simp,e2⟩,(gC q z).2⟩
   .obtain⟨b',D,y1,y2,y3⟩:=Rt.blk q z;exact⟨b',D,y1,λd hd=>(mR d (y2 d hd)).1,y3⟩
  .by_cases q:k∈C
   .by_cases eu:k=u
    .subst eu;refine⟨_,by simp,_,hc,⟨?_,λc hc'=>?_⟩,λp hp e=>?_⟩
     .obtain⟨c,C',e1,e2⟩:=K.fst;exact⟨c,(mM c).mpr (by rw[e1];simp),by rw[e2,sM]⟩
     .rw[sM];have:=K.lo c ((mM c).mp hc');omega
     .rcases mem_append.mp hp with z|z
      .exact(gC p z).2
      .exact absurd (e ▸ q) (pR p z).2.1
    .obtain⟨M,hM,e,y1,y2,y3⟩:=I.cst k ((mN k).mpr ⟨q,eu⟩);refine⟨M,by simp[hM],e,y1,y2,λp hp z=>?_⟩;rcases mem_append.mp hp with y|y
     .rcases gm p y with x|x
      .exact y3 p x z
      .exact absurd (z ▸ x.1) eu
     .exact absurd (z ▸ q) (pR p y).2.1
   .obtain⟨M,hM,e,y1,y2,y3⟩:=Rt.cst k (inR k hk q);refine⟨M,by simp[hM],e,y1,y2,λp hp z=>?_⟩;rcases mem_append.mp hp with y|y
    .exact absurd (z ▸ (gC p y).1) q
    .exact y3 p y z
  .rcases mem_append.mp hM with z|z
   .rcases mem_cons.mp z with rfl|z
    .exact⟨ne_nil_of_mem ((mM u).mpr hu),filter_sublist⟩
    .exact⟨(I.set M z).1,(I.set M z).2.trans (filter_sublist.trans filter_sublist)⟩
   .exact⟨(Rt.set M z).1,(Rt.set M z).2.trans filter_sublist⟩
end Bk
namespace L2
open PySem PySem.W PyProof.Rows
def feE{K:PySem.W.Frag}{e:Df}{n:Str}{s:Stmt}(h:Ea.Fe K n s)(hn:e.x=n:=by rfl)(hs:e.st=s:=by rfl):Fe K e:=by subst hn;subst hs;exact h
def flE{K:PySem.W.Frag}{e:Df}{n:Str}{s:Stmt}{p:Addr}(h:Ea.Fl K n s p)(hn:e.x=n:=by rfl)(hs:e.st=s:=by rfl):Fla K e p:=by subst hn;subst hs;exact h
def zsE{K:PySem.W.Frag}(h:Ea.Zs K):Zs K:=h
end L2
namespace T25
open PySem L2
abbrev MQ:Stmt:=top 1
def Qe:FnScope ["works","wishes","some","t","told","within","turn","a","b"] ["works","wishes","some","t"] (A9 MQ):=B3 (by kernel_rfl)
@[reducible] def Ua:MS:=(A5 (AF 4 (JW (Gj 1 [0,3] (Az (A0 2)) (AA 0) Bt [] (HM (A0 0) (mCB Dm (A1 (mOp gIx (mOp gIx (A0 1) (A0 0)) (mC (.int 1))) (A1 (A0 2) A4)))))))
 (A5 (AF 5 (Aa (Ab 2 [4] (Az (A0 1)) (Bb 2 (AO (AA 0) (AO (AA 1) Bc))) (D3 (A6 (mOp (De false) (A0 0) (A0 2))) (A6 (mOp (De false) (A0 1) (A0 2)))) (BC (A1 (A0 0) (A1 (A0 1) A4))))))
 (A5 (BS (Az (A0 2)) (AA 6)
  (BS (Bu (A0 5)) (Bb 2 (AO (AA 7) (AO (AA 8) Bc)))
  (Fq (A0 4) (A0 8) (mCB Dm (A1 (mOp DM (A0 4) (A0 8)) (A1 (mOp An (mOp DM (A0 4) (A0 7)) (mOp gIx (mOp gIx (A0 0) (A0 7)) (mC (.int 0)))) A4))))))
 (AL (B7 BK (Ab 1 [4] (Az (A0 2)) (AA 0) Bt (mOp DM (A0 1) (A0 0))))))))
def GF:FD:=mkF 4 9 Ua
abbrev Ie:Df:=⟨"raised",MQ,["works","wishes","some","t"],1,GF⟩
abbrev Nx:Stmt:=top 2
def TH:FnScope ["works","wishes"] ["works","wishes"] (A9 Nx):=B3 (by kernel_rfl)
@[reducible] def Xn:MS:=(AL (AC 0 GF (A1 (A0 0) (A1 (A0 1) (A1 (JT (A1 (mCB (f1 true BF) (A1 (A0 0) A4)) A4)) (A1 (mC (.int 0)) A4))))))
def FY:FD:=mkF 2 2 Xn
abbrev Hb:Df:=⟨"heads",Nx,["works","wishes"],2,FY⟩
abbrev FG:Stmt:=top 4
def JB:FnScope ["works","wishes","some","begins","told","work","begin","end","members"] ["works","wishes","some"] (A9 FG):=B3 (by kernel_rfl)
@[reducible] def KC:MS:=(A5 (AF 3 (AC 0 FY (A1 (A0 0) (A1 (A0 1) A4))))
 (A5 (AF 4 (Aa (Aj A4)))
 (A5 (BS (IX (Rp (A0 2) [3] (BC (A1 (mOp gIx (A0 1) (A0 0)) (A1 (A0 0) A4))))) (AA 5)
  (Af (mOr (A6 (Cd false (A0 4) (Aj A4))) (A6 (mOp gGe (mOp gIx (A0 3) (A0 5)) (mOp gIx (mOp gIx (A0 4) (IW (mC (.int 1)))) (mC (.int 1))))))
  (B8 (mMt Ae (A0 4) (A1 (BC (A1 (mOp gIx (A0 3) (A0 5)) (A1 (mOp An (mOp gIx (A0 3) (A0 5)) (mOp gIx (mOp gIx (A0 0) (A0 5)) (mC (.int 0)))) (A1 (BC (A1 (A0 5) A4)) A4)))) A4)))
  (A5 (F1 (mOp gIx (A0 4) (IW (mC (.int 1)))) (Bb 3 (AO (AA 6) (AO (AA 7) (AO (AA 8) Bc)))))
 (DJ (A0 4) (IW (mC (.int 1))) (BC (A1 (A0 6) (A1 (mOp An (A0 7) (mOp gIx (mOp gIx (A0 0) (A0 5)) (mC (.int 0)))) (A1 (B7 BK (Bm (Az (mOp An (A0 8) (BC (A1 (A0 5) A4)))))) A4))))))))
 (AL (A0 4)))))
def Ck:FD:=mkF 3 9 KC
abbrev Ch:Df:=⟨"stretches_of",FG,["works","wishes","some"],4,Ck⟩
abbrev JD:Stmt:=top 9
def NX:FnScope ["rows","t","told","begin","amount"] ["rows","t"] (A9 JD):=B3 (by kernel_rfl)
@[reducible] def fS:MS:=(A5 (AF 2 (mC (.int 0)))
 (A5 (BS (Az (A0 0)) (Bb 2 (AO (AA 3) (AO (AA 4) Bc)))
  (A5 (Af (A6 (mOp gGt (A0 3) (A0 1)))
  (AL (A0 2))
  AY)
 (AF 2 (A0 4))))
 (AL (A0 2))))
def HR:FD:=mkF 2 5 fS
abbrev G5:Df:=⟨"steps_at",JD,["rows","t"],1,HR⟩
abbrev Ki:Stmt:=top 10
def Oz:FnScope ["cost","t","word","above"] ["cost","t"] (A9 Ki):=B3 (by kernel_rfl)
@[reducible] def fU:MS:=(A5 (AF 2 (mOp gIx (A0 0) (mC (.int 0))))
 (A5 (Af (A6 (mOp gEq (A0 2) (mC (.str "steps"))))
  (AL (AC 0 HR (A1 (mOp gIx (A0 0) (mC (.int 1))) (A1 (A0 1) A4))))
  AY)
 (A5 (Af (A6 (mOp gEq (A0 2) (mC (.str "ends"))))
  (AL (mOp Bg (mOp gIx (A0 0) (mC (.int 1))) (A0 1)))
  AY)
 (A5 (AF 3 (mOp Cf (A0 1) (mOp gIx (A0 0) (mC (.int 1)))))
 (A5 (Af (A6 (mOp gEq (A0 2) (mC (.str "late"))))
  (AL (A0 3))
  AY)
 (A5 (Af (A6 (mOp gLe (A0 3) (mC (.int 0))))
  (AL (mC (.int 0)))
  AY)
 (A5 (Af (A6 (mOp gEq (A0 2) (mC (.str "tardy"))))
  (AL (mOp Bg (mOp gIx (A0 0) (mC (.int 2))) (A0 3)))
  AY)
 (AL (mOp gIx (A0 0) (mC (.int 2)))))))))))
def F_cost_at:FD:=mkF 2 4 fU
abbrev Ew:Df:=⟨"cost_at",Ki,["cost","t"],2,F_cost_at⟩
abbrev Hl:Stmt:=top 11
def MK:FnScope ["cost","days"] ["cost","days"] (A9 Hl):=B3 (by kernel_rfl)
@[reducible] def Nf:MS:=(A5 (Af (mOr (A6 (mOp gEq (mOp gIx (A0 0) (mC (.int 0))) (mC (.str "ends")))) (A6 (mOp gEq (mOp gIx (A0 0) (mC (.int 0))) (mC (.str "steps")))))
 Gg
 AY)
 (AL (mOp An (BC (A1 (mOp gIx (A0 0) (mC (.int 0))) (A1 (mOp An (mOp gIx (A0 0) (mC (.int 1))) (A0 1)) A4))) (KD (A0 0) (Fo (mC (.int 2))) DY))))
def Dq:FD:=mkF 2 2 Nf
abbrev F7:Df:=⟨"later_due",Hl,["cost","days"],1,Dq⟩
abbrev GU:Stmt:=top 12
def LL:FnScope ["cost","days"] ["cost","days"] (A9 GU):=B3 (by kernel_rfl)
@[reducible] def Mr:MS:=(A5 (Af (A6 (mOp gEq (mOp gIx (A0 0) (mC (.int 0))) (mC (.str "ends"))))
 Gg
 AY)
 (A5 (Af (A6 (mOp gEq (mOp gIx (A0 0) (mC (.int 0))) (mC (.str "steps"))))
  (AL (BC (A1 (mC (.str "steps")) (A1 (B7 BK (Ab 2 [1] (Az (mOp gIx (A0 0) (mC (.int 1)))) (Bb 2 (AO (AA 0) (AO (AA 1) Bc))) Bt (BC (A1 (mOp An (A0 0) (A0 2)) (A1 (A0 1) A4))))) A4))))
  AY)
 (AL (AC 0 Dq (A1 (A0 0) (A1 (A0 1) A4))))))
def BM:FD:=mkF 2 2 Mr
abbrev Ec:Df:=⟨"moved_cost",GU,["cost","days"],2,BM⟩
abbrev Kh:Stmt:=top 14
def Oy:FnScope ["pairs","a","found","fresh","at","one","other"] ["pairs","a"] (A9 Kh):=B3 (by kernel_rfl)
@[reducible] def fR:MS:=(A5 (AF 2 (Aa (Aj A4)))
 (A5 (AF 3 (Aa (Aj (A1 (A0 1) A4))))
 (A5 (Cs (E3 (A0 3))
  (A5 (AF 4 (mMt Gv (A0 3) A4))
 (BS (DZ (A0 0)) (Bb 2 (AO (AA 5) (AO (AA 6) Bc)))
  (Af (D3 (A6 (mOp gEq (A0 5) (A0 4))) (A6 (mOp (gIn true) (A0 6) (A0 2))))
  (A5 (B8 (mMt Ae (A0 2) (A1 (A0 6) A4)))
 (B8 (mMt Ae (A0 3) (A1 (A0 6) A4))))
  AY))))
 (AL (B7 BK (Bm (Bu (A0 2))))))))
def F_reached:FD:=mkF 2 7 fR
abbrev Gx:Df:=⟨"reached",Kh,["pairs","a"],1,F_reached⟩
abbrev MV:Stmt:=top 15
def Qh:FnScope ["many","wishes","a"] ["many","wishes","a"] (A9 MV):=B3 (by kernel_rfl)
@[reducible] def fT:MS:=(AL (AC 0 F_reached (A1 (A0 1) (A1 (A0 2) A4))))
def F_behind:FD:=mkF 3 3 fT
abbrev Ii:Df:=⟨"behind",MV,["many","wishes","a"],2,F_behind⟩
abbrev Hm:Stmt:=top 16
def ML:FnScope ["many","wishes","some","told","u","later"] ["many","wishes","some"] (A9 Hm):=B3 (by kernel_rfl)
@[reducible] def Ng:MS:=(A5 (AF 3 (Aa (Aj A4)))
 (A5 (BS (Az (A0 2)) (AA 4)
  (A5 (AF 5 (AC 0 F_behind (A1 (A0 0) (A1 (A0 1) (A1 (A0 4) A4)))))
 (Af (Gf (E3 (B7 Mv (Ab 1 [5] (Az (A0 2)) (AA 0) Bt (mOp (gIn false) (A0 0) (A0 1))))))
  (B8 (mMt Ae (A0 3) (A1 (A0 4) A4)))
  AY)))
 (AL (mCB (f1 true BK) (A1 (A0 3) A4)))))
def Cv:FD:=mkF 3 6 Ng
abbrev Do:Df:=⟨"last_ones",Hm,["many","wishes","some"],3,Cv⟩
abbrev Hk:Stmt:=top 18
def MJ:FnScope ["works","some"] ["works","some"] (A9 Hk):=B3 (by kernel_rfl)
@[reducible] def Nd:MS:=(AL (B7 Gq (Ab 1 [0] (Az (A0 1)) (AA 0) Bt (mOp gIx (mOp gIx (A0 1) (A0 0)) (mC (.int 0))))))
def Dp:FD:=mkF 2 2 Nd
abbrev F6:Df:=⟨"length_of",Hk,["works","some"],1,Dp⟩
abbrev JF:Stmt:=top 20
def NZ:FnScope ["works","wishes","some","begins","end"] ["works","wishes","some"] (A9 JF):=B3 (by kernel_rfl)
@[reducible] def Pa:MS:=(A5 (AF 3 (AC 0 FY (A1 (A0 0) (A1 (A0 1) A4))))
 (A5 (AF 4 (mOp An (B7 Ft (Ab 1 [3] (Az (A0 2)) (AA 0) Bt (mOp gIx (A0 1) (A0 0)))) (AC 0 Dp (A1 (A0 0) (A1 (A0 2) A4)))))
 (AL (B7 Ft (Ab 1 [0,4] (Az (AC 0 Cv (A1 (mCB (f1 true BF) (A1 (A0 0) A4)) (A1 (A0 1) (A1 (A0 2) A4))))) (AA 0) Bt (AC 0 F_cost_at (A1 (mOp gIx (mOp gIx (A0 1) (A0 0)) (mC (.int 2))) (A1 (A0 2) A4))))))))
def Cm:FD:=mkF 3 5 Pa
abbrev G7:Df:=⟨"bound_of",JF,["works","wishes","some"],4,Cm⟩
abbrev Em:Stmt:=top 22
def II:FnScope ["works","wishes","some","end"] ["works","wishes","some","end"] (A9 Em):=B3 (by kernel_rfl)
@[reducible] def JS:MS:=(AL (Db (λn m=>decide (n<m)) (AC 0 Cv (A1 (mCB (f1 true BF) (A1 (A0 0) A4)) (A1 (A0 1) (A1 (A0 2) A4)))) [3,0] (AC 0 F_cost_at (A1 (mOp gIx (mOp gIx (A0 2) (A0 0)) (mC (.int 2))) (A1 (A0 1) A4)))))
def CL:FD:=mkF 4 4 JS
abbrev CJ:Df:=⟨"cheapest_last",Em,["works","wishes","some","end"],6,CL⟩
abbrev Kg:Stmt:=top 23
def Ox:FnScope ["some","u"] ["some","u"] (A9 Kg):=B3 (by kernel_rfl)
@[reducible] def Ro:MS:=(AL (B7 BK (Ab 1 [1] (Az (A0 0)) (AA 0) (A6 (mOp gNe (A0 0) (A0 1))) (A0 0))))
def Ez:FD:=mkF 2 2 Ro
abbrev Gw:Df:=⟨"without",Kg,["some","u"],1,Ez⟩
abbrev GI:Stmt:=top 24
def K1:FnScope ["u","begin","end","pieces","told","at","piece"] ["u","begin","end","pieces"] (A9 GI):=B3 (by kernel_rfl)
@[reducible] def LN:MS:=(A5 (AF 4 (Aa (Aj A4)))
 (A5 (AF 5 (A0 1))
 (A5 (BS (Bu (A0 3)) (AA 6)
  (A5 (Af (A6 (mOp gLt (A0 5) (mOp gIx (A0 6) (mC (.int 1)))))
  (B8 (mMt Ae (A0 4) (A1 (BC (A1 (A0 0) (A1 (A0 5) (A1 (mOp gIx (A0 6) (mC (.int 1))) A4)))) A4)))
  AY)
 (A5 (B8 (mMt Ae (A0 4) (A1 (A0 6) A4)))
 (AF 5 (mOp gIx (A0 6) (mC (.int 2)))))))
 (A5 (B8 (mMt Ae (A0 4) (A1 (BC (A1 (A0 0) (A1 (A0 5) (A1 (A0 2) A4)))) A4)))
 (AL (A0 4))))))
def Cy:FD:=mkF 4 7 LN
abbrev E7:Df:=⟨"gaps_filled",GI,["u","begin","end","pieces"],1,Cy⟩
abbrev ET:Stmt:=top 25
def LM:FnScope ["works","wishes","some","pieces","sets","begin","end","members","u","inner_pieces","inner_sets"] ["works","wishes","some"] (A9 ET):=B3 (by kernel_rfl)
@[reducible] def Gc(DV:FD):MS:=(A5 (AF 3 (Aa (Aj A4)))
 (A5 (AF 4 (Aa (Aj A4)))
 (A5 (BS (Bu (AC 0 Ck (A1 (A0 0) (A1 (A0 1) (A1 (A0 2) A4))))) (Bb 3 (AO (AA 5) (AO (AA 6) (AO (AA 7) Bc))))
  (A5 (AF 8 (AC 0 CL (A1 (A0 0) (A1 (A0 1) (A1 (A0 7) (A1 (A0 6) A4))))))
 (A5 (F1 (DK DV (A1 (A0 0) (A1 (A0 1) (A1 (AC 0 Ez (A1 (A0 7) (A1 (A0 8) A4))) A4)))) (Bb 2 (AO (AA 9) (AO (AA 10) Bc))))
 (A5 (Er 3 (CA Cy (A1 (A0 8) (A1 (A0 5) (A1 (A0 6) (A1 (A0 9) A4))))))
 (Er 4 (Aa (Gk (Aa (Aj (A1 (A0 7) A4))) (A0 10))))))))
 (AL (BC (A1 (A0 3) (A1 (A0 4) A4)))))))
def Cb:Nat->FD
 |0=>λ_ _=>none
 |n+1=>mkF 3 11 (Gc (Cb n))
abbrev DV:FD:=Cb 10
abbrev Ed:Df:=⟨"broken_off",ET,["works","wishes","some"],16,DV⟩
abbrev ES:Stmt:=top 26
def Hj:FnScope ["works","wishes","sets"] ["works","wishes","sets"] (A9 ES):=B3 (by kernel_rfl)
@[reducible] def IU:MS:=(AL (EZ (λn m=>decide (n>m)) (A0 2) [0,1] (AC 0 Cm (A1 (A0 1) (A1 (A0 2) (A1 (A0 0) A4))))))
def C8:FD:=mkF 3 3 IU
abbrev C6:Df:=⟨"greatest_bound",ES,["works","wishes","sets"],7,C8⟩
abbrev El:Stmt:=top 27
def IH:FnScope ["works","wishes","pieces","sets"] ["works","wishes"] (A9 El):=B3 (by kernel_rfl)
@[reducible] def JR:MS:=(A5 (F1 (DK DV (A1 (A0 0) (A1 (A0 1) (A1 (JT (A1 (mCB (f1 true BF) (A1 (A0 0) A4)) A4)) A4)))) (Bb 2 (AO (AA 2) (AO (AA 3) Bc))))
 (AL (BC (A1 (mCB (f1 true BK) (A1 (A0 2) A4)) (A1 (CA C8 (A1 (A0 0) (A1 (A0 1) (A1 (A0 3) A4)))) A4)))))
def CK:FD:=mkF 2 4 JR
abbrev DQ:Df:=⟨"greatest_plan",El,["works","wishes"],17,CK⟩
abbrev Qj:Stmt:=top 29
def W2:FnScope ["_law_script"] ["_law_script"] (A9 Qj):=B3 (by kernel_rfl)
@[reducible] def av:MS:=(AL (Aa (Aj (A1 (Aa (Gh (KF (A0 0) DY (Fo (mC (.int 63)))))) (A1 (mC (.int 0)) (A1 (mC (.int 0)) A4))))))
def Jr:FD:=mkF 1 1 av
abbrev NC:Df:=⟨"_law_feed",Qj,["_law_script"],1,Jr⟩
abbrev Qi:Stmt:=top 30
def W1:FnScope ["_law_feed_here","_law_many","_law_digit","_law_at","_law_cell","_law_first"] ["_law_feed_here","_law_many"] (A9 Qi):=B3 (by kernel_rfl)
@[reducible] def au:MS:=(A5 (Af (A6 (mOp gGt (mOp gIx (A0 0) (mC (.int 2))) (mC (.int 0))))
 (A5 (AF 2 (mOp Co (mOp gIx (A0 0) (mC (.int 2))) (A0 1)))
 (A5 (DJ (A0 0) (mC (.int 2)) (mOp Fz (mOp gIx (A0 0) (mC (.int 2))) (A0 1)))
 (AL (A0 2))))
  AY)
 (A5 (AF 3 (mOp gIx (A0 0) (mC (.int 1))))
 (A5 (DJ (A0 0) (mC (.int 1)) (mOp An (A0 3) (mC (.int 1))))
 (A5 (AF 4 (mIf (A6 (Cd true (mOp gIx (A0 0) (mC (.int 0))) (Aj A4))) (mOp gIx (mOp gIx (A0 0) (mC (.int 0))) (mOp Co (A0 3) (mCB (f1 true BF) (A1 (mOp gIx (A0 0) (mC (.int 0))) A4)))) (mC (.int 0))))
 (A5 (Af (D3 (A6 (mOp gGe (A0 4) (mOp Pn (mC (.int 10)) (mC (.int 18))))) (A6 (mOp gLt (A0 3) (mCB (f1 true BF) (A1 (mOp gIx (A0 0) (mC (.int 0))) A4)))))
  (A5 (DJ (A0 0) (mC (.int 2)) (mOp Fz (A0 4) (A0 1)))
 (AL (mOp Co (A0 4) (A0 1))))
  AY)
 (A5 (AF 5 (mOp Co (mOp Bg (mOp An (mOp An (mOp An (mOp Co (A0 4) (mC (.int 1000003))) (mOp Bg (mOp Bg (mC (.int 37)) (A0 3)) (A0 3))) (mOp Bg (mC (.int 13)) (A0 3))) (mC (.int 5))) (mC (.int 48271))) (mC (.int 999983))))
 (AL (mOp Co (mOp Fz (mOp Co (mOp Bg (mOp Co (mOp An (mOp An (mOp Bg (A0 5) (A0 5)) (mOp Bg (mC (.int 7919)) (A0 3))) (mC (.int 11))) (mC (.int 2097143))) (mC (.int 69621))) (mC (.int 2147483629))) (mC (.int 7))) (A0 1)))))))))
def Ai:FD:=mkF 2 6 au
abbrev FT:Df:=⟨"_law_next",Qi,["_law_feed_here","_law_many"],1,Ai⟩
abbrev Nv:Stmt:=top 31
def TD:FnScope [] [] (A9 Nv):=B3 (by kernel_rfl)
@[reducible] def Xl:MS:=(AL (Aa (Aj (A1 (mC (.str "late")) (A1 (mC (.str "tardy")) (A1 (mC (.str "miss")) (A1 (mC (.str "ends")) (A1 (mC (.str "steps")) A4))))))))
def FX:FD:=mkF 0 0 Xl
abbrev KQ:Df:=⟨"_law_words",Nv,[],1,FX⟩
abbrev Ql:Stmt:=top 32
def W4:FnScope ["_law_feed_here","_law_words_here","_law_word","_law_dues","_law_due","_law_weight","_law_rows","_law_start","_law_height","_law_k"] ["_law_feed_here","_law_words_here"] (A9 Ql):=B3 (by kernel_rfl)
@[reducible] def ax:MS:=(A5 (AF 2 (mOp gIx (A0 1) (AC 2 Ai (A1 (A0 0) (A1 (mCB (f1 true BF) (A1 (A0 1) A4)) A4)))))
 (A5 (AF 3 (Aa (Aj (A1 (AC 2 Ai (A1 (A0 0) (A1 (mC (.int 40)) A4))) (A1 (AC 2 Ai (A1 (A0 0) (A1 (mC (.int 160)) A4))) (A1 (mOp Cf (AC 2 Ai (A1 (A0 0) (A1 (mC (.int 500)) A4))) (mC (.int 99))) A4))))))
 (A5 (AF 4 (mOp gIx (A0 3) (AC 2 Ai (A1 (A0 0) (A1 (mC (.int 3)) A4)))))
 (A5 (AF 5 (AC 2 Ai (A1 (A0 0) (A1 (mC (.int 10)) A4))))
 (A5 (Af (A6 (mOp gEq (A0 2) (mC (.str "late"))))
  (AL (BC (A1 (A0 2) (A1 (A0 4) A4))))
  AY)
 (A5 (Af (A6 (mOp gEq (A0 2) (mC (.str "ends"))))
  (AL (BC (A1 (A0 2) (A1 (A0 5) A4))))
  AY)
 (A5 (Af (A6 (mOp gNe (A0 2) (mC (.str "steps"))))
  (AL (BC (A1 (A0 2) (A1 (A0 4) (A1 (A0 5) A4)))))
  AY)
 (A5 (AF 6 (Aa (Aj A4)))
 (A5 (AF 7 (mOp Cf (AC 2 Ai (A1 (A0 0) (A1 (mC (.int 140)) A4))) (mC (.int 100))))
 (A5 (AF 8 (mC (.int 0)))
 (A5 (BS (CH (A1 (mOp An (mC (.int 1)) (AC 2 Ai (A1 (A0 0) (A1 (mC (.int 5)) A4)))) A4)) (AA 9)
  (A5 (AF 7 (mOp An (mOp An (A0 7) (mC (.int 1))) (AC 2 Ai (A1 (A0 0) (A1 (mC (.int 60)) A4)))))
 (A5 (AF 8 (mCB HZ (A1 (mC (.int 99)) (A1 (mOp An (A0 8) (AC 2 Ai (A1 (A0 0) (A1 (mC (.int 30)) A4)))) A4))))
 (B8 (mMt Ae (A0 6) (A1 (BC (A1 (A0 7) (A1 (A0 8) A4))) A4))))))
 (AL (BC (A1 (A0 2) (A1 (mCB (f1 true BK) (A1 (A0 6) A4)) A4)))))))))))))))
def Jt:FD:=mkF 2 10 ax
abbrev NE:Df:=⟨"_law_cost",Ql,["_law_feed_here","_law_words_here"],2,Jt⟩
abbrev Nu:Stmt:=top 33
def TC:FnScope ["_law_feed_here","_law_most","_law_words_here","_law_ways","_law_many","_law_longest","_law_way","_law_first","_law_works_here","_law_k","_law_comings"] ["_law_feed_here","_law_most","_law_words_here","_law_ways"] (A9 Nu):=B3 (by kernel_rfl)
@[reducible] def Xk:MS:=(A5 (AF 4 (mOp An (mC (.int 1)) (AC 2 Ai (A1 (A0 0) (A1 (A0 1) A4)))))
 (A5 (AF 5 (Gi (Aj (A1 (mC (.int 3)) (A1 (mC (.int 20)) A4))) (AC 2 Ai (A1 (A0 0) (A1 (mC (.int 2)) A4)))))
 (A5 (AF 6 (mOp gIx (A0 3) (AC 2 Ai (A1 (A0 0) (A1 (mCB (f1 true BF) (A1 (A0 3) A4)) A4)))))
 (A5 (AF 7 (AC 2 Ai (A1 (A0 0) (A1 (mC (.int 61)) A4))))
 (A5 (AF 8 (Aa (Aj A4)))
 (A5 (BS (CH (A1 (A0 4) A4)) (AA 9)
  (Dw (A5 (AF 10 (Aa (Aj (A1 (A0 7) (A1 (AC 2 Ai (A1 (A0 0) (A1 (mC (.int 8)) A4))) (A1 (AC 2 Ai (A1 (A0 0) (A1 (mC (.int 25)) A4))) (A1 (AC 2 Ai (A1 (A0 0) (A1 (mC (.int 61)) A4))) A4)))))))
 (B8 (mMt Ae (A0 8) (A1 (BC (A1 (mOp An (mC (.int 1)) (AC 2 Ai (A1 (A0 0) (A1 (A0 5) A4)))) (A1 (mOp gIx (A0 10) (A0 6)) (A1 (AC 3 Jt (A1 (A0 0) (A1 (A0 2) A4))) A4)))) A4))))))
 (AL (mCB (f1 true BK) (A1 (A0 8) A4)))))))))
def Hg:FD:=mkF 4 11 Xk
abbrev KP:Df:=⟨"_law_works",Nu,["_law_feed_here","_law_most","_law_words_here","_law_ways"],3,Hg⟩
abbrev Hn:Stmt:=top 34
def MN:FnScope ["_law_feed_here","_law_works_here","_law_days","_law_found","_law_length","_law_coming","_law_cost_here"] ["_law_feed_here","_law_works_here"] (A9 Hn):=B3 (by kernel_rfl)
@[reducible] def Nh:MS:=(A5 (Af (A6 (mOp gGt (AC 2 Ai (A1 (A0 0) (A1 (mC (.int 5)) A4))) (mC (.int 0))))
 (AL (A0 1))
 AY)
 (A5 (AF 2 (mOp Cf (AC 2 Ai (A1 (A0 0) (A1 (mC (.int 1999)) A4))) (mC (.int 999))))
 (A5 (AF 3 (Aa (Aj A4)))
 (A5 (BS (Az (A0 1)) (Bb 3 (AO (AA 4) (AO (AA 5) (AO (AA 6) Bc))))
  (B8 (mMt Ae (A0 3) (A1 (BC (A1 (A0 4) (A1 (A0 5) (A1 (mIf (A6 (mOp gEq (mOp gIx (A0 6) (mC (.int 0))) (mC (.str "ends")))) (A0 6) (AC 0 BM (A1 (A0 6) (A1 (A0 2) A4)))) A4)))) A4))))
 (AL (mCB (f1 true BK) (A1 (A0 3) A4)))))))
def Dr:FD:=mkF 2 7 Nh
abbrev F8:Df:=⟨"_law_far_works",Hn,["_law_feed_here","_law_works_here"],3,Dr⟩
abbrev MP:Stmt:=top 35
def Qd:FnScope ["_law_feed_here","_law_many","_law_left","_law_seq","_law_way","_law_found","_law_k","_law_j"] ["_law_feed_here","_law_many"] (A9 MP):=B3 (by kernel_rfl)
@[reducible] def UZ:MS:=(A5 (AF 2 (Aa (Ge (A1 (A0 1) A4))))
 (A5 (AF 3 (Aa (Aj A4)))
 (A5 (Cs (A6 (Cd true (A0 2) (Aj A4)))
  (B8 (mMt Ae (A0 3) (A1 (mMt FS (A0 2) (A1 (AC 2 Ai (A1 (A0 0) (A1 (mCB (f1 true BF) (A1 (A0 2) A4)) A4))) A4)) A4))))
 (A5 (AF 4 (AC 2 Ai (A1 (A0 0) (A1 (mC (.int 4)) A4))))
 (A5 (AF 5 (Aa (Aj A4)))
 (A5 (BS (CH (A1 (A0 1) A4)) (AA 6)
  (BS (CH (A1 (A0 6) A4)) (AA 7)
  (Af (mOr (D3 (A6 (mOp gEq (A0 4) (mC (.int 3)))) (A6 (mOp gEq (A0 7) (mOp Cf (A0 6) (mC (.int 1)))))) (D3 (A6 (mOp (gIn false) (A0 4) (BC (A1 (mC (.int 1)) (A1 (mC (.int 2)) A4))))) (A6 (mOp gEq (AC 2 Ai (A1 (A0 0) (A1 (Gi (Aj (A1 (mC (.int 1)) (A1 (mC (.int 4)) (A1 (mC (.int 2)) A4)))) (A0 4)) A4))) (mC (.int 0))))))
  (B8 (mMt Ae (A0 5) (A1 (BC (A1 (mOp gIx (A0 3) (A0 7)) (A1 (mOp gIx (A0 3) (A0 6)) A4))) A4)))
  AY)))
 (AL (B7 BK (KF (Aa (EY (Bu (A0 5)))) DY (Fo (mC (.int 16))))))))))))
def GE:FD:=mkF 2 8 UZ
abbrev Ic:Df:=⟨"_law_wishes",MP,["_law_feed_here","_law_many"],2,GE⟩
abbrev Ny:Stmt:=top 36
def TJ:FnScope ["_law_cost_here","_law_t"] ["_law_cost_here","_law_t"] (A9 Ny):=B3 (by kernel_rfl)
@[reducible] def Xo:MS:=(A5 (Af (A6 (mOp gEq (mOp gIx (A0 0) (mC (.int 0))) (mC (.str "late"))))
 (AL (mOp Cf (A0 1) (mOp gIx (A0 0) (mC (.int 1)))))
 AY)
 (A5 (Af (A6 (mOp gEq (mOp gIx (A0 0) (mC (.int 0))) (mC (.str "tardy"))))
  (AL (mOp Bg (mOp gIx (A0 0) (mC (.int 2))) (mCB Dm (A1 (mC (.int 0)) (A1 (mOp Cf (A0 1) (mOp gIx (A0 0) (mC (.int 1)))) A4)))))
  AY)
 (A5 (Af (A6 (mOp gEq (mOp gIx (A0 0) (mC (.int 0))) (mC (.str "miss"))))
  (AL (mOp Bg (mOp gIx (A0 0) (mC (.int 2))) (mCB N8 (A1 (mOp gGt (A0 1) (mOp gIx (A0 0) (mC (.int 1)))) A4))))
  AY)
 (A5 (Af (A6 (mOp gEq (mOp gIx (A0 0) (mC (.int 0))) (mC (.str "ends"))))
  (AL (mOp Bg (mOp gIx (A0 0) (mC (.int 1))) (A0 1)))
  AY)
 (AL (B7 E5 (Gk (Aa (Aj (A1 (mC (.int 0)) A4))) (Aa (Ab 2 [1] (Az (mOp gIx (A0 0) (mC (.int 1)))) (Bb 2 (AO (AA 0) (AO (AA 1) Bc))) (A6 (mOp gLe (A0 0) (A0 2))) (A0 1))))))))))
def Cl:FD:=mkF 2 2 Xo
abbrev Hc:Df:=⟨"_law_costs",Ny,["_law_cost_here","_law_t"],1,Cl⟩
abbrev MR:Stmt:=top 37
def Qf:FnScope ["_law_works_here","_law_wishes_here","_law_found","_law_turn","_law_k","_law_firsts","_law_ends_here"] ["_law_works_here","_law_wishes_here"] (A9 MR):=B3 (by kernel_rfl)
@[reducible] def Ub:MS:=(A5 (AF 2 Le)
 (A5 (BS (CH (A1 (mCB (f1 true BF) (A1 (A0 0) A4)) A4)) (AA 3)
  (BS (CH (A1 (mCB (f1 true BF) (A1 (A0 0) A4)) A4)) (AA 4)
  (Dw (A5 (AF 5 (Aa (Ab 2 [4] (DZ (A0 1)) (Bb 2 (AO (AA 0) (AO (AA 1) Bc))) (A6 (mOp gEq (A0 1) (A0 2))) (A0 0))))
 (Af (D3 (A6 (mOp (De true) (A0 4) (A0 2))) (A6 (Ep false (Ab 1 [2] (Bu (A0 5)) (AA 0) (A6 (mOp (De true) (A0 0) (A0 1))) (A0 0)) (Aj A4))))
  (A5 (AF 6 (Aa (Ab 1 [2,0] (Bu (A0 5)) (AA 0) Bt (mOp An (mOp DM (A0 1) (A0 0)) (mOp gIx (mOp gIx (A0 2) (A0 0)) (mC (.int 0)))))))
 (Fq (A0 2) (A0 4) (B7 E5 (Gk (Aa (Aj (A1 (mOp gIx (mOp gIx (A0 0) (A0 4)) (mC (.int 1))) A4))) (A0 6)))))
  AY)))))
 (AL (Aa (Ab 1 [2] (CH (A1 (mCB (f1 true BF) (A1 (A0 0) A4)) A4)) (AA 0) Bt (mOp DM (A0 1) (A0 0)))))))
def GG:FD:=mkF 2 7 Ub
abbrev Ig:Df:=⟨"_law_heads",MR,["_law_works_here","_law_wishes_here"],1,GG⟩
abbrev Nw:Stmt:=top 38
def TF:FnScope ["_law_many","_law_wishes_here","_law_found","_law_turn","_law_k","_law_b"] ["_law_many","_law_wishes_here"] (A9 Nw):=B3 (by kernel_rfl)
@[reducible] def Xm:MS:=(A5 (AF 2 (Aa (Ab 1 [1] (CH (A1 (A0 0) A4)) (AA 0) Bt (Aa (Ab 2 [0] (Az (A0 1)) (Bb 2 (AO (AA 0) (AO (AA 1) Bc))) (A6 (mOp gEq (A0 0) (A0 2))) (A0 1))))))
 (A5 (BS (CH (A1 (A0 0) A4)) (AA 3)
  (BS (CH (A1 (A0 0) A4)) (AA 4)
  (BS (IX (HP (mOp gIx (A0 2) (A0 4)))) (AA 5)
  (Dw (B8 (mMt Dg (mOp gIx (A0 2) (A0 4)) (A1 (Aa (Ab 1 [2,4] (Bu (mOp gIx (A0 2) (A0 5))) (AA 0) (A6 (mOp (gIn true) (A0 0) (mOp gIx (A0 1) (A0 2)))) (A0 0))) A4)))))))
 (AL (A0 2))))
def Hi:FD:=mkF 2 6 Xm
abbrev KR:Df:=⟨"_law_reach",Nw,["_law_many","_law_wishes_here"],1,Hi⟩
abbrev Nz:Stmt:=top 39
def TK:FnScope ["_law_works_here","_law_reach_here","_law_known","_law_some","_law_end","_law_last"] ["_law_works_here","_law_reach_here","_law_known","_law_some"] (A9 Nz):=B3 (by kernel_rfl)
@[reducible] def Xp:MS:=(A5 (AF 4 (mOp An (B7 Ft (Ab 1 [2] (Az (A0 3)) (AA 0) Bt (mOp gIx (A0 1) (A0 0)))) (B7 Gq (Ab 1 [0] (Az (A0 3)) (AA 0) Bt (mOp gIx (mOp gIx (A0 1) (A0 0)) (mC (.int 0)))))))
 (A5 (AF 5 (Aa (Ab 1 [3,1] (Az (A0 3)) (AA 0) (A6 (Ep false (Ab 1 [2,0] (Az (A0 1)) (AA 0) (A6 (mOp (gIn false) (A0 0) (mOp gIx (A0 1) (A0 2)))) (A0 0)) (Aj A4))) (A0 0))))
 (AL (B7 Ft (Ab 1 [0,4] (Bu (A0 5)) (AA 0) Bt (AC 0 Cl (A1 (mOp gIx (mOp gIx (A0 1) (A0 0)) (mC (.int 2))) (A1 (A0 2) A4))))))))
def EK:FD:=mkF 4 6 Xp
abbrev KS:Df:=⟨"_law_bound",Nz,["_law_works_here","_law_reach_here","_law_known","_law_some"],2,EK⟩
abbrev MU:Stmt:=top 40
def Qg:FnScope ["_law_thing"] ["_law_thing"] (A9 MU):=B3 (by kernel_rfl)
@[reducible] def Uc:MS:=(AL (Fs (E4 .int (A0 0)) (HN (E4 .bool (A0 0)))))
def GH:FD:=mkF 1 1 Uc
abbrev Ih:Df:=⟨"_law_is_int",MU,["_law_thing"],1,GH⟩
abbrev Qk:Stmt:=top 41
def W3:FnScope ["_law_works_here","_law_wishes_here","_law_plan","_law_left","_law_ends_here","_law_at","_law_piece","_law_k","_law_begin","_law_end"] ["_law_works_here","_law_wishes_here","_law_plan"] (A9 Qk):=B3 (by kernel_rfl)
@[reducible] def aw:MS:=(A5 (Af (Gf (E3 (E4 .tuple (A0 2))))
 (AL (mC .non))
 AY)
 (A5 (AF 3 (Aa (Ab 1 [] (Az (A0 0)) (AA 0) Bt (mOp gIx (A0 0) (mC (.int 0))))))
 (A5 (AF 4 (Aa (IV (Aj (A1 (mC (.int 0)) A4)) (mCB (f1 true BF) (A1 (A0 0) A4)))))
 (A5 (AF 5 (mC (.int 0)))
 (A5 (BS (Az (A0 2)) (AA 6)
  (A5 (Af (mOr (Gf (E3 (E4 .tuple (A0 6)))) (mOr (A6 (mOp gNe (mCB (f1 true BF) (A1 (A0 6) A4)) (mC (.int 3)))) (A6 (KG false (mC (.bl false)) (Ab 1 [] (Az (A0 6)) (AA 0) Bt (AC 0 GH (A1 (A0 0) A4)))))))
  (AL (mC .non))
  AY)
 (A5 (F1 (A0 6) (Bb 3 (AO (AA 7) (AO (AA 8) (AO (AA 9) Bc)))))
 (A5 (Af (mOr (Gf (A6 (Dy gLe gLt (mC (.int 0)) (A0 7) (mCB (f1 true BF) (A1 (A0 0) A4))))) (mOr (A6 (mOp gLt (A0 8) (A0 5))) (mOr (A6 (mOp gLe (A0 9) (A0 8))) (A6 (mOp gLt (A0 8) (mOp gIx (mOp gIx (A0 0) (A0 7)) (mC (.int 1))))))))
  (AL (mC .non))
  AY)
 (A5 (Af (A6 (Ep true (Ab 2 [7,3,4,8] (Az (A0 1)) (Bb 2 (AO (AA 0) (AO (AA 1) Bc))) (D3 (A6 (mOp gEq (A0 1) (A0 2))) (mOr (A6 (mOp gGt (mOp gIx (A0 3) (A0 0)) (mC (.int 0)))) (A6 (mOp gGt (mOp gIx (A0 4) (A0 0)) (A0 5))))) (A0 0)) (Aj A4)))
  (AL (mC .non))
  AY)
 (A5 (DJ (A0 3) (A0 7) (mOp Cf (mOp gIx (A0 3) (A0 7)) (mOp Cf (A0 9) (A0 8))))
 (A5 (DJ (A0 4) (A0 7) (A0 9))
 (AF 5 (A0 9)))))))))
 (AL (mIf (A6 (Cd false (A0 3) (IV (Aj (A1 (mC (.int 0)) A4)) (mCB (f1 true BF) (A1 (A0 0) A4))))) (A0 4) (mC .non))))))))
def Js:FD:=mkF 3 10 aw
abbrev ND:Df:=⟨"_law_ends",Qk,["_law_works_here","_law_wishes_here","_law_plan"],2,Js⟩
abbrev JE:Stmt:=top 42
def NY:FnScope ["_law_works_here","_law_ends_here"] ["_law_works_here","_law_ends_here"] (A9 JE):=B3 (by kernel_rfl)
@[reducible] def PZ:MS:=(AL (B7 E5 (Ab 1 [0,1] (CH (A1 (mCB (f1 true BF) (A1 (A0 0) A4)) A4)) (AA 0) Bt (AC 0 Cl (A1 (mOp gIx (mOp gIx (A0 1) (A0 0)) (mC (.int 2))) (A1 (mOp gIx (A0 2) (A0 0)) A4))))))
def EE:FD:=mkF 2 2 PZ
abbrev G6:Df:=⟨"_law_greatest",JE,["_law_works_here","_law_ends_here"],2,EE⟩
abbrev VB:Stmt:=top 43
def Yj:FnScope ["_law_script","_law_feed_here","_law_works_here","_law_wishes_here","_law_known","_law_reach_here","_law_most","_law_number","_law_some","_law_bound_here","_law_plan","_law_ends_here"] ["_law_script"] (A9 VB):=B3 (by kernel_rfl)
@[reducible] def cV:MS:=(A5 (AF 1 (CA Jr (A1 (A0 0) A4)))
 (A5 (AF 2 (AC 4 Hg (A1 (A0 1) (A1 (mC (.int 8)) (A1 (AC 0 FX A4) (A1 (Aa (Aj (A1 (mC (.int 0)) (A1 (mC (.int 1)) (A1 (mC (.int 2)) (A1 (mC (.int 3)) A4)))))) A4))))))
 (A5 (AF 3 (AC 2 GE (A1 (A0 1) (A1 (mCB (f1 true BF) (A1 (A0 2) A4)) A4))))
 (A5 (AF 2 (AC 2 Dr (A1 (A0 1) (A1 (A0 2) A4))))
 (A5 (AF 4 (AC 0 GG (A1 (A0 2) (A1 (A0 3) A4))))
 (A5 (AF 5 (DK Hi (A1 (mCB (f1 true BF) (A1 (A0 2) A4)) (A1 (A0 3) A4))))
 (A5 (AF 6 (mC .non))
 (A5 (BS (HQ (A1 (mC (.int 1)) (A1 (mOp Pm (mC (.int 1)) (mCB (f1 true BF) (A1 (A0 2) A4))) A4))) (AA 7)
  (A5 (AF 8 (B7 BK (Ab 1 [7] (CH (A1 (mCB (f1 true BF) (A1 (A0 2) A4)) A4)) (AA 0) (A6 (mOp gEq (mOp N6 (mOp N5 (A0 1) (A0 0)) (mC (.int 1))) (mC (.int 1)))) (A0 0))))
 (A5 (AF 9 (CA EK (A1 (A0 2) (A1 (A0 5) (A1 (A0 4) (A1 (A0 8) A4))))))
 (AF 6 (mIf (A6 (Fp false (A0 6))) (A0 9) (mCB Dm (A1 (A0 6) (A1 (A0 9) A4))))))))
 (A5 (F1 (AC 0 CK (A1 (A0 2) (A1 (A0 3) A4))) (Bb 2 (AO (AA 10) (AO (AA 8) Bc))))
 (A5 (AF 11 (AC 0 Js (A1 (A0 2) (A1 (A0 3) (A1 (A0 10) A4)))))
 (A5 (Af (mOr (A6 (Fp false (A0 11))) (A6 (mOp gNe (CA EE (A1 (A0 2) (A1 (A0 11) A4))) (A0 6))))
  (AL (mC (.bl false)))
  AY)
 (AL (Fs (mOp gNe (A0 8) (BC A4)) (mOp gEq (CA EK (A1 (A0 2) (A1 (A0 5) (A1 (A0 4) (A1 (A0 8) A4))))) (A0 6)))))))))))))))
def fV:FD:=mkF 1 12 cV
abbrev Ps:Df:=⟨"law",VB,["_law_script"],18,fV⟩
set_option maxHeartbeats 0 in
def oks{E:En}(B:BltA E.mg):(Dn E Ie->Kn E Ie)/\
 (Dn E Hb->Kn E Ie->Kn E Hb)/\
 (Dl E Ch ⟨15,33,15,57⟩->Kn E Hb->Kn E Ch)/\
 (Dn E G5->Kn E G5)/\
 (Dn E Ew->Kn E G5->Kn E Ew)/\
 (Dn E F7->Kn E F7)/\
 (Dn E Ec->Kn E F7->Kn E Ec)/\
 (Dn E Gx->Kn E Gx)/\
 (Dn E Ii->Kn E Gx->Kn E Ii)/\
 (Dn E Do->Kn E Ii->Kn E Do)/\
 (Dn E F6->Kn E F6)/\
 (Dn E G7->Kn E Hb->Kn E Ew->Kn E Do->Kn E F6->Kn E G7)/\
 (Dl E CJ ⟨91,56,91,91⟩->Kn E Ew->Kn E Do->Kn E CJ)/\
 (Dn E Gw->Kn E Gw)/\
 (Dn E E7->Kn E E7)/\
 (Dn E Ed->Kn E Ch->Kn E CJ->Kn E Gw->Kn E E7->Kn E Ed)/\
 (Dl E C6 ⟨114,25,114,67⟩->Kn E G7->Kn E C6)/\
 (Dn E DQ->Kn E Ed->Kn E C6->Kn E DQ)/\
 (Dn E NC->Kn E NC)/\
 (Dn E FT->Kn E FT)/\
 (Dn E KQ->Kn E KQ)/\
 (Dn E NE->Kn E FT->Kn E NE)/\
 (Dn E KP->Kn E FT->Kn E NE->Kn E KP)/\
 (Dn E F8->Kn E Ec->Kn E FT->Kn E F8)/\
 (Dn E Ic->Kn E FT->Kn E Ic)/\
 (Dn E Hc->Kn E Hc)/\
 (Dn E Ig->Kn E Ig)/\
 (Dn E KR->Kn E KR)/\
 (Dn E KS->Kn E Hc->Kn E KS)/\
 (Dn E Ih->Kn E Ih)/\
 (Dn E ND->Kn E Ih->Kn E ND)/\
 (Dn E G6->Kn E Hc->Kn E G6)/\
 (Dn E Ps->Kn E DQ->Kn E NC->Kn E KQ->Kn E KP->Kn E F8->Kn E Ic->Kn E Ig->Kn E KR->Kn E KS->Kn E ND->Kn E G6->Kn E Ps):=by
 refine⟨λD=>okK D Qe rfl rfl λ_ _ _ _ _ _ _ hr=>?_,
  λD _=>okK D TH rfl rfl λ_ _ _ _ _ _ _ hr=>?_,
  λD _=>okL D JB rfl rfl λ_ _ _ _ LC _ _ _ _ _ _ hcd hr=>?_,
  λD=>okK D NX rfl rfl λ_ _ _ _ _ _ _ hr=>?_,
  λD _=>okK D Oz rfl rfl λ_ _ _ _ _ _ _ hr=>?_,
  λD=>okK D MK rfl rfl λ_ _ _ _ _ _ _ hr=>?_,
  λD _=>okK D LL rfl rfl λ_ _ _ _ _ _ _ hr=>?_,
  λD=>okK D Oy rfl rfl λ_ _ _ _ _ _ _ hr=>?_,
  λD _=>okK D Qh rfl rfl λ_ _ _ _ _ _ _ hr=>?_,
  λD _=>okK D ML rfl rfl λ_ _ _ _ _ _ _ hr=>?_,
  λD=>okK D MJ rfl rfl λ_ _ _ _ _ _ _ hr=>?_,
  λD _ _ _ _=>okK D NZ rfl rfl λ_ _ _ _ _ _ _ hr=>?_,
  λD _ _=>okL D II rfl rfl λ_ _ _ _ LC _ _ _ _ _ _ hcd hr=>?_,
  λD=>okK D Ox rfl rfl λ_ _ _ _ _ _ _ hr=>?_,
  λD=>okK D K1 rfl rfl λ_ _ _ _ _ _ _ hr=>?_,
  λD _ _ _ _=>Nat.rec (motive:=λn=>Kn E ⟨"broken_off",ET,["works","wishes","some"],n+6,Cb n⟩) (ok0 D) (λn ih=>okK (j:=n+6) D LM rfl (by omega) λ_ _ _ _ _ _ _ hr=>?_) 10,
  λD _=>okL D Hj rfl rfl λ_ _ _ _ LC _ _ _ _ _ _ hcd hr=>?_,
  λD _ _=>okK D IH rfl rfl λ_ _ _ _ _ _ _ hr=>?_,
  λD=>okK D W2 rfl rfl λ_ _ _ _ _ _ _ hr=>?_,
  λD=>okK D W1 rfl rfl λ_ _ _ _ _ _ _ hr=>?_,
  λD=>okK D TD rfl rfl λ_ _ _ _ _ _ _ hr=>?_,
  λD _=>okK D W4 rfl rfl λ_ _ _ _ _ _ _ hr=>?_,
  λD _ _=>okK D TC rfl rfl λ_ _ _ _ _ _ _ hr=>?_,
  λD _ _=>okK D MN rfl rfl λ_ _ _ _ _ _ _ hr=>?_,
  λD _=>okK D Qd rfl rfl λ_ _ _ _ _ _ _ hr=>?_,
  λD=>okK D TJ rfl rfl λ_ _ _ _ _ _ _ hr=>?_,
  λD=>okK D Qf rfl rfl λ_ _ _ _ _ _ _ hr=>?_,
  λD=>okK D TF rfl rfl λ_ _ _ _ _ _ _ hr=>?_,
  λD _=>okK D TK rfl rfl λ_ _ _ _ _ _ _ hr=>?_,
  λD=>okK D Qg rfl rfl λ_ _ _ _ _ _ _ hr=>?_,
  λD _=>okK D W3 rfl rfl λ_ _ _ _ _ _ _ hr=>?_,
  λD _=>okK D NY rfl rfl λ_ _ _ _ _ _ _ hr=>?_,
  λD _ _ _ _ _ _ _ _ _ _ _=>okK D Yj rfl rfl λ_ _ _ _ _ _ _ hr=>?_⟩
 all_goals (refine' ⟨_,_⟩;rotate_left;repeat' (first
  |((with_reducible show QE _ _ _ _ _);first|exact qv _ _|(first|exact Zw _|exact Zm _|exact cF _|exact Zq _)|((with_reducible show QE _ _ _ _ (mOp _ _ _));first|((with_reducible show QE _ _ _ _ (mOp gIx _ _));refine' cD _ _ _)|((with_reducible show QE _ _ _ _ (mOp DM _ _));refine' XA _ (Lg hr) _ _)|((with_reducible show QE _ _ _ _ (mOp An _ _));refine' E9 _ ((ai).or (UN _)) (FH ZL Wj) _ _)|((with_reducible show QE _ _ _ _ (mOp Cf _ _));refine' E9 _ aX ZE _ _)|((with_reducible show QE _ _ _ _ (mOp Bg _ _));refine' E9 _ ad ZI _ _)|((with_reducible show QE _ _ _ _ (mOp Co _ _));refine' E9 _ ae ZJ _ _)|((with_reducible show QE _ _ _ _ (mOp Fz _ _));refine' E9 _ XZ Wi _ _)|((with_reducible show QE _ _ _ _ (mOp Pn _ _));refine' E9 _ ab ZH _ _)|((with_reducible show QE _ _ _ _ (mOp Pm _ _));refine' E9 _ aZ ZG _ _)|((with_reducible show QE _ _ _ _ (mOp N5 _ _));refine' E9 _ aY ZF _ _)|((with_reducible show QE _ _ _ _ (mOp N6 _ _));refine' E9 _ ah ZK _ _)|((with_reducible show QE _ _ _ _ (mOp gGt _ _));refine' JP _ VW VI _ _)|((with_reducible show QE _ _ _ _ (mOp gEq _ _));refine' JP _ ((VX).or (K9 _ hr.units)) (FH R8 R9) _ _)|((with_reducible show QE _ _ _ _ (mOp gNe _ _));refine' JP _ ((VT).or (K8 _ hr.units)) (FH Qy Qz) _ _)|((with_reducible show QE _ _ _ _ (mOp (gIn false) _ _));refine' JP _ (Mn _) P8 _ _))|refine' Zl _ _|((with_reducible show QE _ _ _ _ (Aa _));refine' Zr _ _)|refine' Zt _ _|((with_reducible show QE _ _ _ _ (AC _ _ _));first|refine' qcW _ (by assumption) hr _|exact qc0 _ (by assumption) hr|refine' qcW _ (by assumption) (hr.in1.deeper _) _)|((with_reducible show QE _ _ _ _ (CA _ _));refine' qcG (by assumption) hr _)|((with_reducible show QE _ _ _ _ (DK _ _));refine' qcS (by assumption) hr _)|((with_reducible show QE _ _ _ _ (EZ _ _ _ _));refine' cC LC hcd hr B.max _ (λ_ _ _ _=>_))|((with_reducible show QE _ _ _ _ (Db _ _ _ _));refine' Zd LC hcd hr B.min _ (λ_ _ _ _=>_))|((with_reducible show QE _ _ _ _ (B7 _ _));first|((with_reducible show QE _ _ _ _ (B7 Mv _));refine' La _ (L9 _ rfl) Qu B.any L2.bt_any _)|((with_reducible show QE _ _ _ _ (B7 Gq _));refine' La _ ((L0 _ rfl).or (Jl _ rfl)) Qr B.sum L2.bt_sum _)|((with_reducible show QE _ _ _ _ (B7 Ft _));refine' La _ (L7 _ rfl) Qs B.min L2.bt_min _)|((with_reducible show QE _ _ _ _ (B7 E5 _));refine' La _ ((L8 _ rfl).or (Jm _ rfl)) Qt B.max L2.bt_max _)|((with_reducible show QE _ _ _ _ (B7 BK _));refine' cE _ (Hv _) MY B.tuple L2.bt_tuple _))|((with_reducible show QE _ _ _ _ (mCB _ _));first|((with_reducible show QE _ _ _ _ (mCB (f1 _ Mv) _));refine' Fi _ (L9 _ rfl) (K3 Qu) B.any L2.bt_any _)|((with_reducible show QE _ _ _ _ (mCB (f1 _ Gq) _));refine' Fi _ ((L0 _ rfl).or (Jl _ rfl)) (K3 Qr) B.sum L2.bt_sum _)|((with_reducible show QE _ _ _ _ (mCB (f1 _ BF) _));refine' Fi _ (SX _) (K3 Z2) B.len L2.bt_len _)|((with_reducible show QE _ _ _ _ (mCB (f1 _ Ft) _));refine' Fi _ (L7 _ rfl) (K3 Qs) B.min L2.bt_min _)|((with_reducible show QE _ _ _ _ (mCB (f1 _ E5) _));refine' Fi _ ((L8 _ rfl).or (Jm _ rfl)) (K3 Qt) B.max L2.bt_max _)|((with_reducible show QE _ _ _ _ (mCB Dm _));refine' Fi _ (SW rfl) WR B.max L2.bt_max _)|((with_reducible show QE _ _ _ _ (mCB HZ _));refine' Fi _ (SV rfl) WQ B.min L2.bt_min _)|((with_reducible show QE _ _ _ _ (mCB (f1 _ BK) _));refine' VP _ (Hv _) (K3 MY) B.tuple L2.bt_tuple _)|((with_reducible show QE _ _ _ _ (mCB N8 _));refine' VP _ SY Z3 B.int L2.bt_int _))|refine' X7 _ B.tuple B.range _|((with_reducible show QE _ _ _ _ (Gi _ _));refine' Zv _ _ _)|((with_reducible show QE _ _ _ _ (KD _ _ _));refine' Zn _ _ _ _)|refine' U2 _ _ _ _|((with_reducible show QE _ _ _ _ (mMt _ _ _));first|((with_reducible show QE _ _ _ _ (mMt Ae _ _));refine' PN _ PySem.F.slot_list_append PySem.F.type_list_append Km Qo _ _)|((with_reducible show QE _ _ _ _ (mMt Gv _ _));refine' Zu _ PySem.F.slot_list_pop PySem.F.type_list_pop aq Yx _)|((with_reducible show QE _ _ _ _ (mMt FS _ _));refine' PN _ PySem.F.slot_list_pop PySem.F.type_list_pop UT Tc _ _)|((with_reducible show QE _ _ _ _ (mMt Dg _ _));refine' PN _ PySem.F.slot_list_extend PySem.F.type_list_extend Rl Qn _ _))|refine' qdA _ (λ_ _ _=>_) (λ_ _ _=>_) (λ_ _ _=>_) (λ_ _ _=>_)|exact X9 _|((with_reducible show QE _ _ _ _ (E4 _ _));first|((with_reducible show QE _ _ _ _ (E4 .int _));refine' Mh _ .int B.isinstance B.int _)|((with_reducible show QE _ _ _ _ (E4 .bool _));refine' Mh _ .bool B.isinstance B.bool _)|((with_reducible show QE _ _ _ _ (E4 .tuple _));refine' Mh _ .tuple B.isinstance B.tuple _))|((with_reducible show QE _ _ _ _ (Fs _ _));refine' Zx _ _ _)|((with_reducible show QE _ _ _ _ (HN _));refine' Zp _ _)|refine' Zo _ _)
  |refine' XB _ _ _|exact Zy _
  |((with_reducible show QT _ _ _ _ _);first|((with_reducible show QT _ _ _ _ (A6 (mOp _ _ _)));first|((with_reducible show QT _ _ _ _ (A6 (mOp gLt _ _)));refine' Dv _ VU VG _ _)|((with_reducible show QT _ _ _ _ (A6 (mOp gLe _ _)));refine' Dv _ VV VH _ _)|((with_reducible show QT _ _ _ _ (A6 (mOp gGt _ _)));refine' Dv _ VW VI _ _)|((with_reducible show QT _ _ _ _ (A6 (mOp gGe _ _)));refine' Dv _ cO c9 _ _)|((with_reducible show QT _ _ _ _ (A6 (mOp gEq _ _)));refine' Dv _ ((VX).or (K9 _ hr.units)) (FH R8 R9) _ _)|((with_reducible show QT _ _ _ _ (A6 (mOp gNe _ _)));refine' Dv _ ((VT).or (K8 _ hr.units)) (FH Qy Qz) _ _)|((with_reducible show QT _ _ _ _ (A6 (mOp (gIn false) _ _)));refine' Dv _ (Mn _) P8 _ _)|((with_reducible show QT _ _ _ _ (A6 (mOp (gIn true) _ _)));refine' Dv _ (RZ _) P8 _ _)|((with_reducible show QT _ _ _ _ (A6 (mOp (De false) _ _)));refine' ZT _ (Lg hr) _ _)|((with_reducible show QT _ _ _ _ (A6 (mOp (De true) _ _)));refine' Wn _ (Lg hr) _ _))|refine' ZR _ _|((with_reducible show QT _ _ _ _ (E3 _));refine' Tq _ _)|((with_reducible show QT _ _ _ _ (D3 _ _));refine' QW.toT _)|((with_reducible show QT _ _ _ _ (mOr _ _));refine' QW.toT _)|((with_reducible show QT _ _ _ _ (A6 (Fp _ _)));refine' ZS _ _)|((with_reducible show QT _ _ _ _ (A6 (Cd _ _ _)));first|refine' O9 _ (Re _ hr.units) _ _|refine' O9 _ (Ra _ hr.units) _ _)|((with_reducible show QT _ _ _ _ (A6 (Ep _ _ _)));first|refine' O8 _ (Re _ hr.units) _ _|refine' O8 _ (Ra _ hr.units) _ _)|((with_reducible show QT _ _ _ _ (A6 (KG _ _ _)));refine' Wm _ (Mn _) _ _)|((with_reducible show QT _ _ _ _ (A6 (Dy _ _ _ _ _)));first|((with_reducible show QT _ _ _ _ (A6 (Dy gLe gLt _ _ _)));refine' Tr VV VH VU VG _ _ _)))
  |refine' Wl _ _|refine' ZP _ _|refine' ZQ _ _ _|refine' cA _ _ _
  |((with_reducible show QN _ _ _ _ _);first|((with_reducible show QN _ _ _ _ (Dx _ _ _));refine' ZU LC hcd hr B.sorted _ (λ_ _ _ _=>_))|refine' Zb _ _|((with_reducible show QN _ _ _ _ (Ab _ _ _ _ _ _));refine' qnA _ (λ_ _ _=>_) (λ_ _ _=>_) (λ_ _ _=>_))|((with_reducible show QN _ _ _ _ (IV _ _));refine' Za _ _ _)|((with_reducible show QN _ _ _ _ (Gk _ _));refine' Zc _ _ _)|((with_reducible show QN _ _ _ _ (KF _ _ _));refine' ZZ _ _ _ _)|((with_reducible show QN _ _ _ _ (EY _));refine' PK _ B.sorted _)|((with_reducible show QN _ _ _ _ (Bm _));first|(refine' PJ _ B.sorted _;rotate_left;refine' RO _ _)|refine' PL _ B.sorted _)|((with_reducible show QN _ _ _ _ (Ge _));refine' Tx _ B.list B.range _)|((with_reducible show QN _ _ _ _ (Gh _));refine' Tz _ B.list _)|((with_reducible show QN _ _ _ _ (HP _));refine' Wz _ B.list _))
  |((with_reducible show QI _ _ _ _ _ _);first|((with_reducible show QI _ _ _ _ _ (CH _));refine' X2 _ B.range _)|((with_reducible show QI _ _ _ _ _ (HQ _));refine' X1 _ B.range _)|((with_reducible show QI _ _ _ _ _ (Az _));refine' Ze _ _)|((with_reducible show QI _ _ _ _ _ (Bu _));refine' X4 _ _)|((with_reducible show QI _ _ _ _ _ (IX _));refine' Zh _ _)|((with_reducible show QI _ _ _ _ _ (DZ _));refine' Zf _ _))
  |refine' Tt _ _
  |((with_reducible show QR _ _ _ _ _ _);first|((with_reducible show QR _ _ _ _ _ (Bu _));refine' Ww _ _)|((with_reducible show QR _ _ _ _ _ (Az _));refine' RO _ _))
  |exact qgA
  |refine' Zi _ rfl _
  |exact X5 _|refine' U0 _ _ _
  |exact Zk _|refine' Zj _ _
  |exact Wy _|refine' Wx _ _
  |((with_reducible show QSs _ _ _ _ _);first|((with_reducible show QSs _ _ _ _ (A5 _ _));refine' Ts _ _ _)|((with_reducible show QSs _ _ _ _ (Dw _));refine' RK _ _)|(first|exact Wp _|refine' Wo _ _))
  | ((with_reducible show QS _ _ _ _ _);first|((with_reducible show QS _ _ _ _ (AF _ (Aa (Ab _ _ _ _ _ _))));first|refine' dG _ (λ_ _ _=>_) (λ_ _ _=>_) (λ_ _ _=>_)|refine' qsA _)|((with_reducible show QS _ _ _ _ (AF _ _));refine' qsA _)|refine' cB _ _ _ _|refine' ZW _ _|refine' ZX _ rfl _ _ _|refine' Wt _ _|((with_reducible show QS _ _ _ _ (Fq _ _ _));refine' Wu _ (Lg hr) _ _ _)|((with_reducible show QS _ _ _ _ (DJ _ _ _));refine' Ws _ _ _ _)|refine' ZY _ _ _|refine' Tu _ _ _|exact Wr _|((with_reducible show QS _ _ _ _ Gg);exact Tv _)|((with_reducible show QS _ _ _ _ (Er _ _));refine' Wv (FM (by kernel_rfl)) rfl (by first|exact Or.inl rfl|exact Or.inr rfl) _))))
open Bd
def GV{n:Nat}(h:n<=8):Fd (n:Int):=EF (by omega) (by omega)
def Lq{neg:Bool}{ma:ME}{ls:Ls}{hd:Hd}{QE:D->Hd->Prop}(h:WE ma ls hd λd x=>∃ns:List Int,pyD x d=some (.list (ns.map PyData.int))/\QE (.im (.bl (if neg then !decide (ns=[])else decide (ns=[])))) x):WE (Cd neg ma (Aj A4)) ls hd QE:=by
 obtain⟨d,x,e,ns,e2,q⟩:=h;refine⟨_,x,?_,q⟩;unfold Cd;rw[e];simp[e2,I.pys,OV]
def Sd{hd:Hd}{QE:D->Hd->Prop}(q:QE (.im (.int 1000000000000000000)) hd):WP (Pn (.im (.int 10)) (.im (.int 18)) hd) QE:=⟨_,_,by simp[po1],q⟩
local macro_rules | `(tactic| nofun) => `(tactic| repeat (first | (with_reducible refine A7 ?_; try dsimp only [set_cons_zero, set_cons_succ, map_cons, map_nil, cons_append, nil_append, List.replicate, Nat.reduceSub, Int.reduceToNat]) | (with_reducible first | refine IB ?_ | refine AD ?_ | refine AZ ?_ | refine Ay ?_ | refine D6 ?_ | refine Am ?_ | refine BG ?_ | refine Q7 ?_ | refine FC ?_ | refine CM ?_ | refine A2 (d := _) rfl ?_ | refine AR ?_ | refine A8 ?_ | refine Bj ?_ | refine BW ?_ | refine Bv ?_ | refine QD ?_ | refine C1 ?_ | refine Eg ?_ | refine CO ?_ | refine No ?_ | refine AJ ?_ | refine GL ?_ | refine Lm ?_ | refine DE ?_ | refine C9 ?_ | refine AB ?_ | refine A3 ?_ | refine CP ?_ | refine Av ?_ | refine Hx ?_ | refine Oe ?_ | refine CF ?_ | refine Of ?_ | refine Jw ?_ | refine Dt ?_ | refine GN ?_ | refine HH ?_ | refine Ir ?_ | refine Iu ?_ | refine Od ?_ | refine FE ?_ | refine GO ?_ | refine Bo ?_ | refine Q8 ?_ | refine Ju ?_ | refine Nn ?_ | refine ⟨_, rfl, ?_⟩) | refine AH rfl (CI _ _) ?_ | refine AH rfl (FB _ _ _) ?_ | refine AH rfl (HE _ _ _ _) ?_ | refine ⟨_, _, _, _, rfl, rfl, rfl, rfl, ?_⟩ | refine ⟨⟨_, rfl⟩, ?_⟩ | refine ⟨E2, ?_⟩ | refine ⟨E1, ?_⟩ | refine ⟨S9, ?_⟩ | refine ⟨S8, ?_⟩ | refine ⟨DN, ?_⟩ | refine ⟨Eb, ?_⟩ | (with_reducible first | refine Lq ?_)))
def T(k:Nat)(a b:MO):Prop:=∃(cs:List Int) (nx lf:Int),0<=nx/\nx+k<=1000000000/\a=.lst (cs.map λi=>.im (.int i))/\b=.lst [.mu 0,.im (.int nx),.im (.int lf)]
def am(k:Nat)(cs:List Int)(nx lf many:Int)(n0:0<=nx)(n1:nx+(k+1)<=1000000000)(h0:0<many)(h1:many<1073741824):WF Ai [.mu 1,.im (.int many)] [.lst (cs.map λi=>.im (.int i)),.lst [.mu 0,.im (.int nx),.im (.int lf)]] λd x=>∃r a' b',0<=r/\r<many/\d=.im (.int r)/\x=[a',b']/\T k a' b':=by
 have hm:EB many:=h0;have hv:Lk many:=⟨h0,h1⟩
 unfold Ai;refine Aw rfl ?_
 nofun
 refine⟨λhc=>?_,λhc=>?_⟩
 .nofun
  refine Ds hm ?_
  nofun
  refine Jv hv ?_
  nofun
  exact⟨_,_,_,(Eo many h0).1,(Eo many h0).2,rfl,rfl,cs,nx,lf/many,n0,by omega,rfl,rfl⟩
 .nofun
  refine WP.mono (Q:=λd x=>x=[.lst (cs.map λi=>.im (.int i)),.lst [.mu 0,.im (.int (nx+1)),.im (.int lf)]]/\∃cell,d=.im (.int cell)) (FF ?_) ?_
  .nofun
   refine⟨cs,by simp[pyD,DT,D2],_,rfl,λhb=>?_,λhb=>?_⟩
   .nofun
    refine Bl rfl rfl ?_;have hc:cs≠[]:=by simpa using hb
    have hl:=FP hc;obtain⟨c,e⟩:=cy hc nx;refine Ds (show EB _ by unfold EB;simp;omega) ?_;refine AH rfl (by simpa using e) ?_;exact⟨rfl,c,rfl⟩
   .nofun
    exact⟨rfl,_,rfl⟩
  .rintro d x ⟨rfl,cell,rfl⟩;have fin:∀ls,ls=[some (.mu 1),some (.im (.int many)),none,some (.im (.int nx)),some (.im (.int cell)),none]->WS (A5 (AF 5 (mOp Co (mOp Bg (mOp An (mOp An (mOp An (mOp Co (A0 4) (mC (.int 1000003))) (mOp Bg (mOp Bg (mC (.int 37)) (A0 3)) (A0 3))) (mOp Bg (mC (.int 13)) (A0 3))) (mC (.int 5))) (mC (.int 48271))) (mC (.int 999983))))
    (AL (mOp Co (mOp Fz (mOp Co (mOp Bg (mOp Co (mOp An (mOp An (mOp Bg (A0 5) (A0 5)) (mOp Bg (mC (.int 7919)) (A0 3))) (mC (.int 11))) (mC (.int 2097143))) (mC (.int 69621))) (mC (.int 2147483629))) (mC (.int 7))) (A0 1)))) ls [.lst (cs.map λi=>.im (.int i)),.lst [.mu 0,.im (.int (nx+1)),.im (.int lf)]]
    (λf x=>match f with
     |.rt d=>∃r a' b',0<=r/\r<many/\d=.im (.int r)/\x=[a',b']/\T k a' b'
     |.nx _=>∃r a' b',0<=r/\r<many/\D.im .non=.im (.int r)/\x=[a',b']/\T k a' b'
     | _=>False):=by
    rintro ls rfl
    nofun
    refine Ds (by unfold EB;decide) ?_
    nofun
    refine EL (D8 (by decide) (by decide)) ?_
    nofun
    refine EL (HL (by omega) (by omega)) ?_
    nofun
    refine EL (D8 (by decide) (by decide)) ?_
    nofun
    refine EL (HL (by decide) (by decide)) ?_
    nofun
    refine Ds (by unfold EB;decide) ?_
    nofun
    generalize hx:(((cell%1000003+37*nx*nx+13*nx+5)*48271)%999983:Int)=x;have b1:=Eo (x:=(cell%1000003+37*nx*nx+13*nx+5)*48271) 999983 (by decide);rw[hx]at b1;refine EL (HL (by omega) (by omega)) ?_
    nofun
    refine EL (D8 (by decide) (by decide)) ?_
    nofun
    refine Ds (by unfold EB;decide) ?_
    nofun
    refine EL (HL (by decide) (by decide)) ?_
    nofun
    refine Ds (by unfold EB;decide) ?_
    nofun
    refine Jv (by unfold Lk;decide) ?_
    nofun
    refine Ds hm ?_;exact⟨_,_,_,(Eo many h0).1,(Eo many h0).2,rfl,rfl,cs,nx+1,lf,by omega,by omega,rfl,rfl⟩
   nofun
   refine Sd ?_
   nofun
   split
   .nofun
    refine Bl rfl rfl ?_
    nofun
    refine⟨λhb=>?_,λhb=>?_⟩
    .nofun
     refine Jv hv ?_
     nofun
     refine Ds hm ?_;exact⟨_,_,_,(Eo many h0).1,(Eo many h0).2,rfl,rfl,cs,nx+1,cell/many,by omega,by omega,rfl,rfl⟩
    .refine Am (A7 ?_);exact fin _ rfl
   .refine⟨λhb=>by simp at hb,λhb=>Am (A7 (fin _ rfl))⟩
def tap:Tap T Ai where
 cl:=by
  rintro k a b ⟨cs,nx,lf,_,_,rfl,rfl⟩;simp[clO,HB]
 le:=by
  rintro j k a b ⟨cs,nx,lf,h1,h2,e1,e2⟩ h;exact⟨cs,nx,lf,h1,by omega,e1,e2⟩
 pick:=by
  rintro k a b many ⟨cs,nx,lf,n0,n1,rfl,rfl⟩ h0 h1;obtain⟨d,x,e,r,a',b',p1,p2,rfl,rfl,hT⟩:=am k cs nx lf many n0 (by push_cast at n1;omega) h0 h1;exact⟨r,a',b',p1,p2,e,hT⟩
def bF(ns:List Int):WF Jr [.ro ns] [] λd x=>d=.mu 1/\∃a b,T 100000 a b/\x=[a,b]:=by
 obtain⟨cs,e⟩:=Uw ns none (some 63);exact⟨.mu 1,_,by simp[Jr,mkF,e],rfl,_,_,⟨cs,0,0,by decide,by decide,rfl,rfl⟩,rfl⟩
def HF(bot:Int):List (Int×Int)->Prop
 |[]=>True
 |(_,h)::r=>bot<=h/\HF h r
def Asc:List (Int×Int)->Prop
 |[]=>True
 |(b,_)::r=>(∀q∈r,b<q.1)/\Asc r
def Kd(t:Int):∀{rows:List (Int×Int)} {bot:Int},HF bot rows->Asc rows->DI (bot::((rows.filter λq=>decide (q.1<=t)).map (·.2)))=BO t rows bot
 |[],bot,_,_=>by simp[BO,DI]
 |(b,h)::r,bot,H,A=>by
   rw[BO];by_cases hb:t<b
   .rw[if_pos hb];have:((b,h)::r).filter (λq=>decide (q.1<=t))=[]:=by
     refine List.filter_eq_nil_iff.mpr λq hq=>?_;rcases mem_cons.mp hq with rfl|hq
     .simp;omega
     .have:=A.1 q hq;simp;omega
    rw[this];rfl
   .rw[if_neg hb,filter_cons,if_pos (by simp;omega),map_cons];have ih:=Kd t H.2 A.2;rw[<- ih];show DI (bot::h::(r.filter λq=>decide (q.1<=t)).map (·.2))=_;have h1:=CW (xs:=bot::h::(r.filter λq=>decide (q.1<=t)).map (·.2)) (by simp);have h2:=CW (xs:=h::(r.filter λq=>decide (q.1<=t)).map (·.2)) (by simp);have hbot:=H.1;have a1:=h1.2 _ (mem_cons_of_mem _ h2.1);rcases mem_cons.mp h1.1 with e|e
    .have:=h2.2 h (by simp);omega
    .have:=h2.2 _ e;omega
def CZ:Cost->Prop
 |.tardy _ w=>0<=w/\w<=1000000
 |.miss _ w=>0<=w/\w<=1000000
 |.ends w=>0<=w/\w<=1000000
 |.steps rows=>rows.length<=5/\HF 0 rows/\Asc rows
 |_=>True
def Up2(rows:List (Int×Int)):Prop:=rows.Pairwise λp q=>p.1<q.1/\p.2<=q.2
def Nq:∀{rows:List (Int×Int)} {bot:Int},Up2 rows->(∀q∈rows,bot<=q.2)->HF bot rows/\Asc rows
 |[],_,_,_=>⟨trivial,trivial⟩
 |(b,h)::r,bot,U,hb=>by
   unfold Up2 at U;rw[pairwise_cons]at U;have ih:=Nq (rows:=r) (bot:=h) U.2 λq hq=>(U.1 q hq).2;exact⟨⟨hb (b,h) (by simp),ih.1⟩,λq hq=>(U.1 q hq).1,ih.2⟩
def Vs{rows:List (Int×Int)}{b h:Int}(U:Up2 rows)(hq:∀q∈rows,q.1<b/\q.2<=h):Up2 (rows++[(b,h)]):=by
 unfold Up2 at *;rw[List.pairwise_append];refine⟨U,by simp,λp hp q hq'=>?_⟩;rw[mem_singleton]at hq';subst hq';exact hq p hp
def Be(m:Int):Cost->Prop
 |.late d=>-m<=d/\d<=m
 |.tardy d w=>(-m<=d/\d<=m)/\0<=w/\w<=9
 |.miss d w=>(-m<=d/\d<=m)/\0<=w/\w<=9
 |.ends w=>0<=w/\w<=9
 |.steps rows=>∀q∈rows,(-m<=q.1/\q.1<=m)/\0<=q.2/\q.2<=99
abbrev W5:MO:=.lst [.im (.str "late"),.im (.str "tardy"),.im (.str "miss"),.im (.str "ends"),.im (.str "steps")]
def Gs(x:Str):Prop:=x="late"∨x="tardy"∨x="miss"∨x="ends"∨x="steps"
def at5{r:Int}(h0:0<=r)(h1:r<5):∃x:Str,Gs x/\atI [D.im (.str "late"),.im (.str "tardy"),.im (.str "miss"),.im (.str "ends"),.im (.str "steps")] r=some (.im (.str x)):=by
 have:r=0∨r=1∨r=2∨r=3∨r=4:=by omega
 rcases this with rfl|rfl|rfl|rfl|rfl
 .exact⟨"late",.inl rfl,B6 (j:=0) rfl⟩
 .exact⟨"tardy",.inr (.inl rfl),B6 (j:=1) rfl⟩
 .exact⟨"miss",.inr (.inr (.inl rfl)),B6 (j:=2) rfl⟩
 .exact⟨"ends",.inr (.inr (.inr (.inl rfl))),B6 (j:=3) rfl⟩
 .exact⟨"steps",.inr (.inr (.inr (.inr rfl))),B6 (j:=4) rfl⟩
def at3{r:Int}(h0:0<=r)(h1:r<3)(x y z:D):∃d,(d=x∨d=y∨d=z)/\atI [x,y,z] r=some d:=by
 have:r=0∨r=1∨r=2:=by omega
 rcases this with rfl|rfl|rfl
 .exact⟨x,.inl rfl,B6 (j:=0) rfl⟩
 .exact⟨y,.inr (.inl rfl),B6 (j:=1) rfl⟩
 .exact⟨z,.inr (.inr rfl),B6 (j:=2) rfl⟩
def at2{r:Int}(h0:0<=r)(h1:r<2)(x y:D):∃d,(d=x∨d=y)/\atI [x,y] r=some d:=by
 have:r=0∨r=1:=by omega
 rcases this with rfl|rfl
 .exact⟨x,.inl rfl,B6 (j:=0) rfl⟩
 .exact⟨y,.inr rfl,B6 (j:=1) rfl⟩
def at4{r:Int}(h0:0<=r)(h1:r<4)(x y z w:D):∃d,(d=x∨d=y∨d=z∨d=w)/\atI [x,y,z,w] r=some d:=by
 have:r=0∨r=1∨r=2∨r=3:=by omega
 rcases this with rfl|rfl|rfl|rfl
 .exact⟨x,.inl rfl,B6 (j:=0) rfl⟩
 .exact⟨y,.inr (.inl rfl),B6 (j:=1) rfl⟩
 .exact⟨z,.inr (.inr (.inl rfl)),B6 (j:=2) rfl⟩
 .exact⟨w,.inr (.inr (.inr rfl)),B6 (j:=3) rfl⟩
def okw{x:Str}(h:Gs x):OkP 420 2 (I.py (.str x)):=(Xb x h).mono (by omega) (by omega)
def oki{i:Int}(h:-1000000<=i/\i<=1000000):OkP 420 2 (I.py (.int i)):=(KA ⟨by omega,by omega⟩).mono (by omega) (by omega)
def UQ(i:I):Prop:=OkP 1263 3 i.py
def okC(i:I):Prop:=OkP 1263 3 i.py/\∃c,i=Al c/\CZ c/\Be 1000 c
def aj{x:Str}{i:Int}(h:Gs x)(b:-1000000<=i/\i<=1000000):UQ (.tup [.str x,.int i]):=
 (FL (w:=420) (dp:=2) (is:=[.str x,.int i]) λj hj=>by
  simp at hj;rcases hj with rfl|rfl
  .exact okw h
  .exact oki b).mono (by simp) (by omega)
def dJ{x:Str}{i j:Int}(h:Gs x)(b:-1000000<=i/\i<=1000000)(c:-1000000<=j/\j<=1000000):UQ (.tup [.str x,.int i,.int j]):=
 (FL (w:=420) (dp:=2) (is:=[.str x,.int i,.int j]) λj hj=>by
  simp at hj;rcases hj with rfl|rfl|rfl
  .exact okw h
  .exact oki b
  .exact oki c).mono (by simp) (by omega)
def cQ(r:Int×Int):Prop:=(-1000000<=r.1/\r.1<=1000000)/\(-1000000<=r.2/\r.2<=1000000)
def dH{x:Str}{rows:List (Int×Int)}(h:Gs x)(hl:rows.length<=5)(hr:∀r∈rows,cQ r):UQ (.tup [.str x,.tup (rows.map λr=>.tup [.int r.1,.int r.2])]):=by
 have hrow:OkP 420 2 (I.py (.tup (rows.map λr=>.tup [.int r.1,.int r.2]))):=by
  refine OkP.mono (w':=420) (dp':=2) (FL (w:=82) (dp:=1) (is:=rows.map λr=>.tup [.int r.1,.int r.2]) λi hi=>?_) (by simp;omega) (by omega);obtain⟨r,hr1,rfl⟩:=mem_map.mp hi;have:=hr r hr1;refine(FL (w:=40) (dp:=0) (is:=[.int r.1,.int r.2]) λj hj=>?_).mono (by simp) (by omega);simp at hj;obtain⟨⟨a1,a2⟩,b1,b2⟩:=this;rcases hj with rfl|rfl
  .exact KA ⟨by omega,by omega⟩
  .exact KA ⟨by omega,by omega⟩
 refine OkP.mono (w':=1263) (dp':=3) (FL (w:=420) (dp:=2) (is:=[.str x,.tup (rows.map λr=>.tup [.int r.1,.int r.2])]) λi hi=>?_) (by simp) (by omega);simp at hi;rcases hi with rfl|rfl
 .exact okw h
 .exact hrow
def bW(k:Nat)(a b:MO)(hT:T (k+30) a b):WF Jt [.mu 1,.mu 2] [a,b,W5] λd x=>∃i a' b' g,d=.im i/\okC i/\T k a' b'/\x=a'::b'::([W5]++g):=by
 unfold Jt;refine Aw rfl ?_
 nofun
 refine tap.draw hT rfl (by first|decide|omega) (by first|decide|omega) λr1 a b hT pr1 qr1=>?_;obtain⟨x,hx,ex⟩:=at5 pr1 qr1;refine AH rfl ex ?_
 nofun
 refine tap.draw hT rfl (by first|decide|omega) (by first|decide|omega) λr2 a b hT pr2 qr2=>?_
 nofun
 refine tap.draw hT rfl (by first|decide|omega) (by first|decide|omega) λr3 a b hT pr3 qr3=>?_
 nofun
 refine tap.draw hT rfl (by first|decide|omega) (by first|decide|omega) λr4 a b hT pr4 qr4=>?_
 nofun
 refine tap.draw hT rfl (by first|decide|omega) (by first|decide|omega) λr5 a b hT pr5 qr5=>?_;obtain⟨d,hd,ed⟩:=at3 pr5 qr5 (.im (.int r2)) (.im (.int r3)) (.im (.int (r4-99)));refine AH rfl ed ?_;obtain⟨due,rfl,hdue'⟩:∃due,d=.im (.int due)/\(-1000<=due/\due<=1000):=by
  rcases hd with rfl|rfl|rfl
  .exact⟨_,rfl,by omega,by omega⟩
  .exact⟨_,rfl,by omega,by omega⟩
  .exact⟨_,rfl,by omega,by omega⟩
 have hdue:-1000000<=due/\due<=1000000:=by omega
 nofun
 refine tap.draw hT rfl (by first|decide|omega) (by first|decide|omega) λr6 a b hT pr6 qr6=>?_;have w6:(0<=r6/\r6<=1000000)/\(0<=r6/\r6<=9)/\(-1000000<=r6/\r6<=1000000):=by omega
 clear pr1 qr1 pr2 qr2 pr3 qr3 pr4 qr4 pr5 qr5 pr6 qr6
 nofun
 refine⟨λhA=>?_,λhA=>?_⟩
 .nofun
  exact⟨_,a,b,_,FN _ _,⟨aj hx hdue,.late due,by rw[of_decide_eq_true hA];rfl,trivial,hdue'⟩,tap.le hT (by omega),rfl⟩
 nofun
 refine⟨λhB=>?_,λhB=>?_⟩
 .nofun
  exact⟨_,a,b,_,FN _ _,⟨aj hx w6.2.2,.ends r6,by rw[of_decide_eq_true hB];rfl,w6.1,w6.2.1⟩,tap.le hT (by omega),rfl⟩
 nofun
 refine⟨λhC=>?_,λhC=>?_⟩
 .nofun
  have hcs:x="tardy"∨x="miss":=by
   have nA:=of_decide_eq_false hA;have nB:=of_decide_eq_false hB;have nC:¬ x="steps":=by simpa using hC
   rcases hx with h|h|h|h|h
   .exact absurd h nA
   .exact .inl h
   .exact .inr h
   .exact absurd h nB
   .exact absurd h nC
  refine⟨_,a,b,_,EH _ _ _,⟨dJ hx hdue w6.2.2,?_⟩,tap.le hT (by omega),rfl⟩;rcases hcs with e|e
  .exact⟨.tardy due r6,by rw[e];rfl,w6.1,hdue',w6.2.1⟩
  .exact⟨.miss due r6,by rw[e];rfl,w6.1,hdue',w6.2.1⟩
 have xs:x="steps":=by simpa using hC
 nofun
 refine tap.draw hT rfl (by first|decide|omega) (by first|decide|omega) λr7 a b hT pr7 qr7=>?_
 nofun
 refine tap.draw hT rfl (by first|decide|omega) (by first|decide|omega) λr8 a b hT pr8 qr8=>?_
 nofun
 refine⟨EF (by omega) (by omega),?_⟩;refine BE (λr ls hd=>∃(rows:List (Int×Int)) (s h:Int) (a b:MO) (z:Option D),ls=[some (.mu 1),some (.mu 2),some (.im (.str x)),some (.mu 3),some (.im (.int due)),some (.im (.int r6)),some (.mu 4),some (.im (.int s)),some (.im (.int h)),z]/\hd=[a,b,W5,.lst [.im (.int r2),.im (.int r3),.im (.int (r4-99))],.lst (rows.map λr=>.im (.tup [.int r.1,.int r.2]))]/\T (k+2*r.length) a b/\(Up2 rows/\∀r∈rows,(-1000<=r.1/\r.1<=s)/\0<=r.2/\r.2<=h)/\rows.length+r.length<=5/\(-100<=s/\s+60*r.length<=1000)/\0<=h/\h<=99) ?_ ?_ ?_
 .exact⟨[],_,_,a,b,none,rfl,rfl,tap.le hT (by simp;omega),⟨List.Pairwise.nil,by simp⟩,by simp;omega,⟨by omega,by simp;omega⟩,by decide,by decide⟩
 .rintro d r ls hd ⟨rows,s,h,a,b,z,rfl,rfl,hT,ho,hl,hs,h0,h9⟩;simp only[length_cons]at hT hl hs;refine⟨_,rfl,?_⟩;dsimp only[set_cons_zero,set_cons_succ];have hT:T (k+2*r.length+2) a b:=hT
  nofun
  refine tap.draw hT rfl (by first|decide|omega) (by first|decide|omega) λr9 a b hT pr9 qr9=>?_
  nofun
  refine tap.draw hT rfl (by first|decide|omega) (by first|decide|omega) λr10 a b hT pr10 qr10=>?_
  nofun
  refine Cp rfl (BD (by simp;omega)) ?_;refine⟨AE _,rows++[(s+1+r9,min 99 (h+r10))],_,_,a,b,_,rfl,by simp,hT,?_,by simp;omega,⟨by omega,by omega⟩,by omega,by omega⟩;refine⟨Vs ho.1 λq hq=>?_,λq hq=>?_⟩
  .have:=ho.2 q hq;omega
  rcases mem_append.mp hq with hq|hq
  .have:=ho.2 q hq;omega
  .simp at hq;subst hq;exact⟨⟨by show -1000<=s+1+r9;omega,by show s+1+r9<=s+1+r9;omega⟩,by show 0<=min 99 (h+r10);omega,by show min 99 (h+r10)<=min 99 (h+r10);omega⟩
 .rintro ls hd ⟨rows,s,h,a,b,z,rfl,rfl,hT,ho,hl,hs,h0,h9⟩
  nofun
  refine Bl rfl rfl ?_
  nofun
  have e:(rows.map λr:Int×Int=>D.im (.tup [.int r.1,.int r.2]))=(rows.map λr:Int×Int=>I.tup [.int r.1,.int r.2]).map D.im:=by rw[map_map];rfl
  have hl5:rows.length<=5:=by simp at hl;omega
  have hs':s<=1000:=by simp at hs;omega
  obtain⟨u1,u2⟩:=Nq (bot:=0) ho.1 λq hq=>(ho.2 q hq).2.1;refine⟨_,a,b,_,by rw[e,BJ];exact FN _ _,⟨dH hx hl5 (λq hq=>?_),.steps rows,by rw[xs];rfl,⟨hl5,u1,u2⟩,λq hq=>?_⟩,tap.le hT (by simp),rfl⟩
  .have:=ho.2 q hq;exact⟨⟨by omega,by omega⟩,by omega,by omega⟩
  .have:=ho.2 q hq;exact⟨⟨by omega,by omega⟩,by omega,by omega⟩
structure Wg where
 len:Int
 com:Int
 co:I
def wgI(w:Wg):I:=.tup [.int w.len,.int w.com,w.co]
def Wg.ok(w:Wg):Prop:=(1<=w.len/\w.len<=20)/\(0<=w.com/\w.com<=60)/\okC w.co
def ak(ws:List Wg):Prop:=1<=ws.length/\ws.length<=8/\∀w∈ws,w.ok
abbrev AS(ws:List Wg):I:=.tup (ws.map wgI)
abbrev V4:MO:=.lst [.im (.int 0),.im (.int 1),.im (.int 2),.im (.int 3)]
def Bs(ws:List Wg):(ws.map λw=>D.im (wgI w))=(ws.map wgI).map D.im:=by rw[map_map];rfl
def YJ(n:Nat)(ds:List D):clO n (.lst ds)=Ap n ds:=rfl
def NH{α:Type}(n:Nat)(f:α->I)(l:List α):Ap n (l.map λx=>D.im (f x))=true:=by induction l<;>simp_all
def Vl(k:Nat)(a b:MO)(hT:T (k+300) a b):WF Hg [.mu 1,.im (.int 8),.mu 2,.mu 3] [a,b,W5,V4] λd x=>∃i a' b' g,d=.im i/\(∃ws,i=AS ws/\ak ws)/\T k a' b'/\x=a'::b'::([W5,V4]++g):=by
 unfold Hg;refine Aw rfl ?_
 nofun
 refine tap.draw hT rfl (by first|decide|omega) (by first|decide|omega) λr1 a b hT pr1 qr1=>?_
 nofun
 refine tap.draw hT rfl (by first|decide|omega) (by first|decide|omega) λr2 a b hT pr2 qr2=>?_
 nofun
 obtain⟨d,hd,ed⟩:=at2 pr2 qr2 (.im (.int 3)) (.im (.int 20));refine⟨_,_,rfl,ed,?_⟩;obtain⟨lo,rfl,hlo⟩:∃lo,d=.im (.int lo)/\3<=lo/\lo<=20:=by
  rcases hd with rfl|rfl
  .exact⟨_,rfl,by omega,by omega⟩
  .exact⟨_,rfl,by omega,by omega⟩
 nofun
 refine tap.draw hT rfl (by first|decide|omega) (by first|decide|omega) λr3 a b hT pr3 qr3=>?_;obtain⟨d,hd,ed⟩:=at4 pr3 qr3 (.im (.int 0)) (.im (.int 1)) (.im (.int 2)) (.im (.int 3));refine AH rfl ed ?_;obtain⟨way,rfl,hway⟩:∃way,d=.im (.int way)/\0<=way/\way<4:=by
  rcases hd with rfl|rfl|rfl|rfl<;>exact⟨_,rfl,by omega,by omega⟩
 nofun
 refine tap.draw hT rfl (by first|decide|omega) (by first|decide|omega) λr4 a b hT pr4 qr4=>?_
 nofun
 refine⟨EF (by omega) (by omega),?_⟩;refine BE (λr ls hd=>∃(ws:List Wg) (a b:MO) (z y:Option D),ls=[some (.mu 1),some (.im (.int 8)),some (.mu 2),some (.mu 3),some (.im (.int (1+r1))),some (.im (.int lo)),some (.im (.int way)),some (.im (.int r4)),some (.mu 4),z,y]/\hd=[a,b,W5,V4,.lst (ws.map λw=>.im (wgI w))]/\T (k+34*r.length) a b/\(∀w∈ws,w.ok)/\ws.length+r.length=(1+r1).toNat) ?_ ?_ ?_
 .exact⟨[],a,b,none,none,rfl,rfl,tap.le hT (by simp;omega),(by simp),by simp⟩
 .rintro d r ls hd ⟨ws,a,b,z,y,rfl,rfl,hT,ho,hl⟩;simp only[length_cons]at hT hl;have hT:T (k+34*r.length+34) a b:=hT;refine⟨_,rfl,?_⟩;dsimp only[set_cons_zero,set_cons_succ];refine Hw ?_
  nofun
  refine tap.draw hT rfl (by first|decide|omega) (by first|decide|omega) λr5 a b hT pr5 qr5=>?_
  nofun
  refine tap.draw hT rfl (by first|decide|omega) (by first|decide|omega) λr6 a b hT pr6 qr6=>?_
  nofun
  refine tap.draw hT rfl (by first|decide|omega) (by first|decide|omega) λr7 a b hT pr7 qr7=>?_
  nofun
  refine tap.draw hT rfl (by first|decide|omega) (by first|decide|omega) λr8 a b hT pr8 qr8=>?_
  nofun
  obtain⟨d,hd,ed⟩:=at4 hway.1 hway.2 (.im (.int r4)) (.im (.int r5)) (.im (.int r6)) (.im (.int r7));refine AH rfl ed ?_;obtain⟨com,rfl,hcom⟩:∃com,d=.im (.int com)/\0<=com/\com<=60:=by
   rcases hd with rfl|rfl|rfl|rfl<;>exact⟨_,rfl,by omega,by omega⟩
  nofun
  refine tap.callX (n:=k+34*r.length) (c:=30) hT [W5] (R:=okC) rfl rfl rfl rfl (bW _) λi a b hT hi=>?_
  nofun
  refine Cp rfl (BD (by simp;omega)) ?_;have ca:=G8 (w:=5) (by omega) (tap.cl hT).1;have cb:=G8 (w:=5) (by omega) (tap.cl hT).2;refine⟨?_,_,rfl,AE _,ws++[⟨1+r8,com,i⟩],a,b,_,_,rfl,?_,hT,?_,?_⟩
  .simp[YJ,ca,cb,NH]
  .simp[wgI]
  .intro w hw;rcases mem_append.mp hw with h|h
   .exact ho w h
   .simp at h;subst h;exact⟨⟨by show 1<=1+r8;omega,by show 1+r8<=20;omega⟩,hcom,hi⟩
  .simp;omega
 .rintro ls hd ⟨ws,a,b,z,y,rfl,rfl,hT,ho,hl⟩
  nofun
  refine Bl rfl rfl ?_;simp at hl;refine⟨_,a,b,_,by rw[Bs,BJ],⟨ws,rfl,by omega,by omega,ho⟩,tap.le hT (by simp),rfl⟩
def Si(k:Nat)(n:Nat)(hn:n<=8)(a b:MO)(hT:T (k+100) a b):WF GE [.mu 1,.im (.int (n:Int))] [a,b] λd x=>∃i a' b' g,d=.im i/\(∃(seq:List Nat) (ps:List (Int×Int)),i=.tup (ps.map Lc)/\seq.Perm (List.range n)/\Along seq ps/\ps.length<=16)/\T k a' b'/\x=a'::b'::g:=by
 unfold GE;refine Aw rfl ?_
 nofun
 refine Vq rfl (IK (by omega) (by omega)) ?_
 nofun
 refine Sc (λm ls hd=>∃(left seq:List Nat) (a b:MO),ls=[some (.mu 1),some (.im (.int (n:Int))),some (.mu 2),some (.mu 3),none,none,none,none]/\hd=[a,b,.lst (AG left),.lst (AG seq)]/\m=left.length/\T (k+80+m) a b/\(seq++left).Perm (List.range n)) (n:=n) ?_ ?_
 .refine⟨List.range n,[],a,b,rfl,?_,by simp,tap.le hT (by omega),by simp⟩;rw[toNat_natCast,C3];rfl
 .rintro m ls hd ⟨left,seq,a,b,rfl,rfl,rfl,hT,pm⟩;have sl:seq.length+left.length=n:=by simpa using pm.length_eq
  nofun
  have en:AG left=(left.map λk:Nat=>(k:Int)).map λi=>.im (.int i):=by simp[AG]
  refine⟨left.map λk:Nat=>(k:Int),?_,?_⟩
  .show((BL (AG left)).map λis=>PyData.list (I.pys is))=_;rw[en,DT,map_some,D2]
  nofun
  by_cases hl:left=[]
  .subst hl;rw[if_neg (by simp)];simp only[append_nil]at pm;have sl:seq.length=n:=by simpa using sl
   simp only[length_nil]at hT
   nofun
   refine tap.draw hT rfl (by first|decide|omega) (by first|decide|omega) λr1 a b hT pr1 qr1=>?_
   nofun
   refine⟨GV (by omega),?_⟩;refine BE (λr ls hd=>∃(ps:List (Int×Int)) (i:Nat) (a b:MO) (z y:Option D),r=AT (i:Int) (n-i)/\i<=n/\ls=[some (.mu 1),some (.im (.int (n:Int))),some (.mu 2),some (.mu 3),some (.im (.int r1)),some (.mu 4),z,y]/\hd=[a,b,.lst [],.lst (AG seq),.lst (ps.map AQ)]/\T (k+8*(n-i)) a b/\ps.length<=7*i/\Along seq ps) ?_ ?_ ?_
   .exact⟨[],0,a,b,none,none,by simp,by omega,rfl,rfl,tap.le hT (by omega),by simp,(by intro p hp;cases hp)⟩
   .rintro d r ls hd ⟨ps,i,a,b,z,y,er,hi,rfl,rfl,hT,hl,ho⟩;obtain⟨m,hm⟩:∃m,n-i=m+1:=by
     cases q:n-i with
     |zero=>rw[q]at er;cases er
     |succ m=>exact⟨m,rfl⟩
    rw[hm,AT]at er;obtain⟨rfl,rfl⟩:=List.cons.inj er;rw[hm]at hT;refine⟨_,rfl,?_⟩;dsimp only[set_cons_zero,set_cons_succ]
    nofun
    refine⟨GV (by omega),?_⟩;refine BE (λr ls hd=>∃(ps:List (Int×Int)) (j:Nat) (a b:MO) (y:Option D),r=AT (j:Int) (i-j)/\j<=i/\ls=[some (.mu 1),some (.im (.int (n:Int))),some (.mu 2),some (.mu 3),some (.im (.int r1)),some (.mu 4),some (.im (.int (i:Int))),y]/\hd=[a,b,.lst [],.lst (AG seq),.lst (ps.map AQ)]/\T (k+8*m+(8-j)) a b/\ps.length<=7*i+j/\Along seq ps) ?_ ?_ ?_
    .exact⟨ps,0,a,b,y,by simp,by omega,rfl,rfl,hT,by omega,ho⟩
    .rintro d r ls hd ⟨ps,j,a,b,y,er,hj,rfl,rfl,hT,hl,ho⟩;obtain⟨m2,hm2⟩:∃m2,i-j=m2+1:=by
      cases q:i-j with
      |zero=>rw[q]at er;cases er
      |succ m=>exact⟨m,rfl⟩
     rw[hm2,AT]at er;obtain⟨rfl,rfl⟩:=List.cons.inj er;have ej:((j:Int)+1)=((j+1:Nat):Int):=by omega
     have em:m2=i-(j+1):=by omega
     have hT:T (k+8*m+(8-(j+1))+1) a b:=tap.le hT (by omega);refine⟨_,rfl,?_⟩;dsimp only[set_cons_zero,set_cons_succ];refine V9 ?_;refine WP.mono (Q:=λc x=>∃a b,T (k+8*m+(8-(j+1))) a b/\x=[a,b,.lst [],.lst (AG seq),.lst (ps.map AQ)]) ?_ ?_
     .have tail:WT (D3 (A6 (mOp (gIn false) (A0 4) (BC (A1 (mC (.int 1)) (A1 (mC (.int 2)) A4))))) (A6 (mOp gEq (AC 2 Ai (A1 (A0 0) (A1 (Gi (Aj (A1 (mC (.int 1)) (A1 (mC (.int 4)) (A1 (mC (.int 2)) A4)))) (A0 4)) A4))) (mC (.int 0))))) [some (.mu 1),some (.im (.int (n:Int))),some (.mu 2),some (.mu 3),some (.im (.int r1)),some (.mu 4),some (.im (.int (i:Int))),some (.im (.int (j:Int)))] [a,b,.lst [],.lst (AG seq),.lst (ps.map AQ)] (λc x=>∃a b,T (k+8*m+(8-(j+1))) a b/\x=[a,b,.lst [],.lst (AG seq),.lst (ps.map AQ)]):=by
       nofun
       refine WP.eq (in_ints (xs:=[1,2]) r1 false (by simp)) ?_
       nofun
       by_cases h12:r1=1∨r1=2
       .rw[if_pos (by simpa using h12)]
        nofun
        have hx:∃x:Int,(0<x/\x<=4)/\atI [D.im (.int 1),.im (.int 4),.im (.int 2)] r1=some (.im (.int x)):=by
         rcases h12 with rfl|rfl
         .exact⟨4,by omega,FB _ _ _⟩
         .exact⟨2,by omega,HE _ _ _ _⟩
        obtain⟨x,hx1,hx2⟩:=hx;refine tap.draw (many:=x) (rest:=[.lst [],.lst (AG seq),.lst (ps.map AQ)]) hT (by simp[hx2]) (by omega) (by omega) λr a b hT pr qr=>?_
        nofun
        exact⟨a,b,hT,rfl⟩
       .rw[if_neg (by simpa using h12)];exact⟨a,b,tap.le hT (by omega),rfl⟩
      nofun
      split
      .nofun
       split
       .exact⟨a,b,tap.le hT (by omega),rfl⟩
       .exact tail
      .rw[if_neg Bool.false_ne_true];exact tail
     .rintro c x ⟨a,b,hT,rfl⟩;cases c with
      |false=>
       rw[if_neg Bool.false_ne_true]
       nofun
       exact⟨AE _,ps,j+1,a,b,_,by rw[ej,em],by omega,rfl,rfl,hT,by omega,ho⟩
      |true=>
       rw[if_pos rfl];have hj1:j<seq.length:=by omega
       have hi1:i<seq.length:=by omega
       have sj:seq[j]?=some seq[j]:=by simp[hj1]
       have si:seq[i]?=some seq[i]:=by simp[hi1]
       nofun
       refine AH rfl (Rj sj) ?_
       nofun
       refine AH rfl (Rj si) ?_
       nofun
       refine Cp rfl (BD (by simp;omega)) ?_;refine⟨AE _,ps++[((seq[j]:Int),(seq[i]:Int))],j+1,a,b,_,by rw[ej,em],by omega,rfl,by simp[AQ],hT,by simp;omega,?_⟩;intro p hp;rcases mem_append.mp hp with hp|hp
       .exact ho p hp
       .simp at hp;exact⟨j,i,_,_,by omega,sj,si,hp⟩
    .rintro ls hd ⟨ps,j,a,b,y,er,hj,rfl,rfl,hT,hl,ho⟩;have:i-j=0:=by
      cases q:i-j with
      |zero=>rfl
      |succ m=>rw[q]at er;cases er
     exact⟨AE _,ps,i+1,a,b,_,_,by rw[show n-(i+1)=m by omega];rfl,by omega,rfl,rfl,tap.le hT (by omega),by omega,ho⟩
   .rintro ls hd ⟨ps,i,a,b,z,y,er,hi,rfl,rfl,hT,hl,ho⟩;have pk:=ho.pok pm (by omega);have c64:ps.length<64/\∀q∈ps,pok q:=⟨by omega,pk⟩
    nofun
    have sub:((Bp ps).take 16).Sublist (Bp ps):=List.take_sublist _ _;have cut:DR ((Bp ps).map AQ) none (some 16)=((Bp ps).map AQ).take 16:=Uv ((Bp ps).map AQ) 16;have mk:B4 (((Bp ps).map AQ).take 16)=.im (.tup (((Bp ps).take 16).map Lc)):=by
     have:((Bp ps).map AQ).take 16=(((Bp ps).take 16).map Lc).map D.im:=by rw[<- map_take,map_map];rfl
     rw[this,BJ]
    refine WP.eq (z:=((Bp ps).take 16).map AQ) (h:=[a,b,.lst [],.lst (AG seq),.lst (ps.map AQ),.lst ((Bp ps).map AQ)]) ?_ ?_
    .simp;rw[if_pos c64];simp[cut]
    .refine⟨_,rfl,_,a,b,_,?_,⟨seq,(Bp ps).take 16,rfl,pm,λp h=>ho p ((Fc ps).mem_iff.mp (sub.subset h)),by simp;omega⟩,tap.le hT (by omega),rfl⟩;rw[map_take];exact mk
  .rw[if_pos (by simpa using hl)];have h1:0<left.length:=List.length_pos_iff.mpr hl;obtain⟨l,hl2⟩:∃l,left.length=l+1:=⟨left.length-1,by omega⟩
   rw[hl2]at hT
   nofun
   refine tap.draw (many:=(left.length:Int)) (rest:=[.lst (AG left),.lst (AG seq)]) hT (by simp[BF]) (by omega) (by omega) λr a b hT pr qr=>?_
   nofun
   have hr:r.toNat<left.length:=by omega
   have e1:left[r.toNat]?=some left[r.toNat]:=by simp[hr]
   refine Se rfl (EF (by omega) (by omega)) (Y3 (n:=(AG left).length) pr (by simp;omega)) (by simp[e1];rfl) ?_
   nofun
   refine Cp rfl (BD (by simp;omega)) ?_;refine⟨l,by omega,left.eraseIdx r.toNat,seq++[left[r.toNat]],a,b,rfl,?_,by rw[List.length_eraseIdx,if_pos hr];omega,hT,(RX e1).trans pm⟩;have er:(AG left).eraseIdx r.toNat=AG (left.eraseIdx r.toNat):=Kz _ _ _;simp[er]
open Hds
def AM(p:Nat×Nat):I:=.tup [.int p.1,.int p.2]
def DC(ns:List Int):Ax (intD ns)=some ns:=by
 induction ns with
 |nil=>rfl
 |cons n r ih=>simp[intD]at ih ⊢
def Hy{neg:Bool}{ml:MA}{ls:Ls}{hd:Hd}{QE:D->Hd->Prop}(h:WA ml ls hd λds x=>∃ns:List Int,ds=intD ns/\QE (.im (.bl (if neg then !decide (ns=[])else decide (ns=[])))) x):WE (Ep neg ml (Aj A4)) ls hd QE:=by
 obtain⟨ds,x,e,ns,rfl,q⟩:=h;refine⟨_,x,?_,q⟩;unfold Ep;rw[e];simp[DT,D2,I.pys,OV]
def Lw{ma mb:ME}{ls:Ls}{hd:Hd}{QA:List D->Hd->Prop}(h:WE ma ls hd λd x=>WE mb ls x λe y=>∃i j xs ys,d=.mu i/\e=.mu j/\y[i]?=some (.lst xs)/\y[j]?=some (.lst ys)/\BT (xs.length+ys.length)/\QA (xs++ys) y):WA (Gk ma mb) ls hd QA:=by
 obtain⟨d,x,e1,e,y,e2,i,j,xs,ys,rfl,rfl,e3,e4,c,q⟩:=h;exact⟨_,_,by simp only[Gk,e1,bind_some,e2,e3,e4,c,if_true],q⟩
def Uy(w:Nat)(k:Key)(i:I):∀kvs:List (Key×D),Bz w kvs=true->Bz w (Cn kvs k (.im i))=true:=by
 have m:∀kvs:List (Key×D),Bz w kvs=true->Bz w (kvs.map λkv=>if kv.1=k then(kv.1,.im i)else kv)=true:=λkvs=>by
  induction kvs with
  |nil=>intro h;exact h
  |cons p r ih=>
   intro h;simp only[Bz,Bool.and_eq_true,map_cons]at h ⊢;refine⟨?_,ih h.2⟩;split
   .simp
   .exact h.1
 have a:∀kvs:List (Key×D),Bz w kvs=true->Bz w (kvs++[(k,.im i)])=true:=λkvs=>by
  induction kvs with
  |nil=>intro h;simp[Bz]
  |cons p r ih=>
   intro h;simp only[Bz,Bool.and_eq_true,cons_append]at h ⊢;exact⟨h.1,ih h.2⟩
 intro kvs h;unfold Cn;split
 .exact m kvs h
 .exact a kvs h
structure Good(c l:Nat->Int)(W:List (Nat×Nat))(g:Nat->Option Int)(k:Nat)(v:Int):Prop where
 lo:c k<=v
 up:∀p∈W,p.2=k->∃u,g p.1=some u/\u+l p.1<=v
 eq:v=c k∨∃p∈W,p.2=k/\∃u,g p.1=some u/\v=u+l p.1
def Good.ext{c l:Nat->Int}{W:List (Nat×Nat)}{g g':Nat->Option Int}{k:Nat}{v:Int}(h:Good c l W g k v)(e:∀j u,g j=some u->g' j=some u):Good c l W g' k v:=
 ⟨h.lo,λp hp hk=>let ⟨u,a,b⟩:=h.up p hp hk;⟨u,e _ _ a,b⟩,h.eq.imp id λ⟨p,hp,hk,u,a,b⟩=>⟨p,hp,hk,u,e _ _ a,b⟩⟩
def B9(ws:List Wg)(k:Nat):Int:=((ws[k]?).map Wg.com).getD 0
def Aq(ws:List Wg)(k:Nat):Int:=((ws[k]?).map Wg.len).getD 0
def DF{ws:List Wg}{k:Nat}(hk:k<ws.length):atI (ws.map λw=>D.im (wgI w)) (k:Int)=some (.im (wgI ws[k])):=GC rfl (by simp[hk])
abbrev wgD(ws:List Wg):List D:=ws.map λw=>D.im (wgI w)
abbrev prD(W:List (Nat×Nat)):List D:=W.map λp=>D.im (AM p)
def ar(x:Int)(ns:List Int):∃v,E5 (.im (.int x)::intD ns)=some (.im (.int v))/\x<=v/\(∀n∈ns,n<=v)/\(v=x∨v∈ns):=by
 refine⟨DI (x::ns),?_,?_⟩
 .have:=DC (x::ns);simp only[intD,map_cons]at this;simp[E5,this]
 .obtain⟨a,b⟩:=CW (xs:=x::ns) (by simp);refine⟨b x mem_cons_self,λn hn=>b n (mem_cons_of_mem _ hn),?_⟩;rcases mem_cons.mp a with h|h
  .exact .inl h
  .exact .inr h
structure Found(ws:List Wg)(W:List (Nat×Nat))(rk:Nat->Nat)(t j:Nat)(kvs:List (Key×D))(g:Nat->Option Int):Prop where
 dic:DicI kvs g
 cl:Bz 0 kvs=true
 len:kvs.length<=8*t+j
 good:∀k v,g k=some v->k<ws.length/\Good (B9 ws) (Aq ws) W g k v
 old:∀k,k<ws.length->rk k<t->g k≠none
 new:∀k,k<j->rk k<t+1->g k≠none
def FZ(w:Nat)(o:Option D):Option D:=match o with
 |some d=>if clD w d=true then some d else none
 |none=>none
def So(w:Nat)(ls:Ls):Eh w ls=ls.map (FZ w):=rfl
def IA{w:Nat}{d:D}(h:clD w d=true):FZ w (some d)=some d:=by simp[FZ,h]
def hg0(H0:Hd)(x:MO)(r:Hd):(H0++x::r)[H0.length]?=some x:=by simp
def hg1(H0:Hd)(x y:MO)(r:Hd):(H0++x::y::r)[H0.length+1]?=some y:=by
 rw[List.getElem?_append_right (by omega)];simp
def hg2(H0:Hd)(x y z:MO)(r:Hd):(H0++x::y::z::r)[H0.length+2]?=some z:=by
 rw[List.getElem?_append_right (by omega)];simp
def hg3(H0:Hd)(x y z u:MO)(r:Hd):(H0++x::y::z::u::r)[H0.length+3]?=some u:=by
 rw[List.getElem?_append_right (by omega)];simp
def hs0(H0:Hd)(x y:MO)(r:Hd):(H0++x::r).set H0.length y=H0++y::r:=by simp
def SA(W:List (Nat×Nat))(k:Nat):(W.filterMap λp=>if p.2=k then some (D.im (.int (p.1:Int)))else none)=AG ((W.filter λp=>decide (p.2=k)).map Prod.fst):=by
 induction W with
 |nil=>rfl
 |cons p r ih=>
  rw[filterMap_cons,filter_cons];by_cases h:p.2=k
  .simp[h,ih,AG]
  .simp[h,ih,AG]
def Ue{ws:List Wg}{W:List (Nat×Nat)}{rk:Nat->Nat}(hn:ws.length<=8)(hW:W.length<=16)(R:Rk (λk=>k<ws.length) W rk)(hrk:∀k,k<ws.length->rk k<ws.length)
 {H0:Hd} {d0 d1:D} {gd:Gd} (cH:H0.all (clO H0.length)=true) (c0:clD H0.length d0=true) (c1:clD H0.length d1=true) (e0:∀r,Ad (H0++r) d0=some (wgD ws))
 (e1:∀r i ls,ls[i]?=some (some d1)->DZ (A0 i) ls (H0++r)=some ((prD W,gd),H0++r)) (eg:∀r,GOk (H0++r) gd):
 WF GG [d0,d1] H0 λd x=>∃(hs:List Int) (L:Nat) (rest:Hd),d=.mu L/\H0.length<=L/\x=H0++rest/\x[L]?=some (.lst (intD hs))/\hs.length=ws.length/\IsHead (λk=>k<ws.length) (B9 ws) (Aq ws) W (λk=>hs.getD k 0):=by
 unfold GG;refine Aw rfl ?_
 nofun
 have ln:∀{r:Hd} {Q:D->Hd->Prop},Q (.im (.int (ws.length:Int))) (H0++r)->WP (f1 true BF [d0] (H0++r)) Q:=λ{r Q} q=>Bl (by rw[if_pos rfl];exact e0 r) (by simp[BF]) q
 refine ln ?_
 nofun
 refine⟨GV (by omega),?_⟩;refine BE (λr ls hd=>∃(t:Nat) (kvs:List (Key×D)) (g:Nat->Option Int) (z3 z4 z5 z6:Option D),ls=[some d0,some d1,some (.mu H0.length),z3,z4,z5,z6]/\hd=H0++[.dic kvs]/\t+r.length=ws.length/\Found ws W rk t 0 kvs g) ?_ ?_ ?_
 .exact⟨0,[],λ_=>none,none,none,none,none,rfl,rfl,by simp,⟨DicI.nil,rfl,by simp,(by intro k v h;cases h),(by intro k _ h;omega),(by intro k h;omega)⟩⟩
 .rintro d r ls hd ⟨t,kvs,g,z3,z4,z5,z6,rfl,rfl,ht,F⟩;simp only[length_cons]at ht;refine⟨_,rfl,?_⟩;dsimp only[set_cons_zero,set_cons_succ]
  nofun
  refine ln ?_
  nofun
  refine⟨GV (by omega),?_⟩;refine BE (λr ls hd=>∃(j:Nat) (kvs:List (Key×D)) (g:Nat->Option Int) (z3 z4 z5 z6:Option D),r=AT (j:Int) (ws.length-j)/\j<=ws.length/\ls=[some d0,some d1,some (.mu H0.length),z3,z4,z5,z6]/\hd=H0++[.dic kvs]/\Found ws W rk t j kvs g) ?_ ?_ ?_
  .exact⟨0,kvs,g,_,_,_,_,by simp,by omega,rfl,rfl,F⟩
  .rintro d r ls hd ⟨k,kvs,g,z3,z4,z5,z6,er,hk,rfl,rfl,F⟩;obtain⟨m,hm⟩:∃m,ws.length-k=m+1:=by
    cases q:ws.length-k with
    |zero=>rw[q]at er;cases er
    |succ m=>exact⟨m,rfl⟩
   rw[hm,AT]at er;obtain⟨rfl,rfl⟩:=List.cons.inj er;have ek:((k:Int)+1)=((k+1:Nat):Int):=by omega
   have em:m=ws.length-(k+1):=by omega
   have hk1:k<ws.length:=by omega
   refine⟨_,rfl,?_⟩;dsimp only[set_cons_zero,set_cons_succ];refine Hw ?_
   nofun
   refine WP.eq (e1 _ 1 _ rfl) ?_;refine⟨AK (by simp;omega),?_⟩;refine Au (λp:Nat×Nat=>D.im (AM p)) (λp=>if p.2=k then some (.im (.int (p.1:Int)))else none) (λ_ ls=>∃x y,ls=[some x,some y,some (.im (.int (k:Int)))]) _ (eg _) ?_ ?_
   .rintro p hp ls (rfl|⟨_,x,y,rfl⟩)
    all_goals
     refine⟨_,rfl,⟨_,_,rfl⟩,?_⟩
     nofun
     refine⟨rfl,?_⟩;by_cases h:p.2=k
     .have h':(p.2:Int)=(k:Int):=by omega
      rw[if_pos (by simpa using h')];exact⟨_,if_pos h,A2 rfl ⟨rfl,rfl⟩⟩
     .have h':¬ (p.2:Int)=(k:Int):=by omega
      rw[if_neg (by simpa using h')];exact if_neg h
   rw[SA];generalize hfl:(W.filter λp=>decide (p.2=k)).map Prod.fst=fl;have mem_fl:∀a,a∈fl↔(a,k)∈W:=by
    intro a;rw[<- hfl];simp
   have fln:∀a∈fl,a<ws.length:=λa ha=>(R.ins _ ((mem_fl a).mp ha)).1;have fll:fl.length<=16:=by rw[<- hfl,length_map];exact le_trans (length_filter_le _ _) hW
   nofun
   simp only[length_append,length_cons,length_nil,append_assoc,cons_append,nil_append,zero_add];refine HI (kvs:=kvs) (by rw[Lj,hg0]) F.dic ?_
   nofun
   have cdic:∀kvs:List (Key×D),Bz 0 kvs=true->clO (H0.length+1) (.dic kvs)=true:=λkvs h=>Gz (v:=0) (by omega) h;have cH1:H0.all (clO (H0.length+1))=true:=by
    rw[all_eq_true]at cH ⊢;exact λo ho=>G8 (by omega) (cH o ho)
   have c0':=G9 (w:=H0.length+1) (by omega) c0;have c1':=G9 (w:=H0.length+1) (by omega) c1;have done:∀(kvs':List (Key×D)) (g':Nat->Option Int) (r:Hd) (a3 a4 a5 a6:Option D) (Q:Fl->Hd->Prop),Found ws W rk t (k+1) kvs' g' ->
    ((H0++.dic kvs'::r).take (H0.length+1)).all (clO (H0.length+1))=true/\∃f',E8 (H0.length+1) (.nx [some d0,some d1,some (.mu H0.length),a3,a4,a5,a6])=some f' /\
    Ol [] (λls hd=>∃(j:Nat) (kvs:List (Key×D)) (g:Nat->Option Int) (z3 z4 z5 z6:Option D),AT ((k:Int)+1) m=AT (j:Int) (ws.length-j)/\j<=ws.length/\ls=[some d0,some d1,some (.mu H0.length),z3,z4,z5,z6]/\hd=H0++[.dic kvs]/\Found ws W rk t j kvs g) Q f' ((H0++.dic kvs'::r).take (H0.length+1)):=by
    intro kvs' g' r a3 a4 a5 a6 Q F';have e:(H0++.dic kvs'::r).take (H0.length+1)=H0++[.dic kvs']:=by
     rw[show H0++.dic kvs'::r=(H0++[.dic kvs'])++r by simp,show H0.length+1=(H0++[MO.dic kvs']).length by simp,List.take_left]
    rw[e];refine⟨?_,_,rfl,AE _,k+1,kvs',g',FZ (H0.length+1) a3,FZ (H0.length+1) a4,FZ (H0.length+1) a5,FZ (H0.length+1) a6,by rw[ek,em],by omega,?_,rfl,F'⟩
    .rw[List.all_append];simp only[all_cons,List.all_nil,Bool.and_true,Bool.and_eq_true];exact⟨cH1,cdic kvs' F'.cl⟩
    .rw[So];simp only[map_cons,map_nil,IA c0',IA c1',IA (show clD (H0.length+1) (.mu H0.length)=true by simp)]
   have stay:(g k≠none∨∃p∈W,p.2=k/\g p.1=none)->Found ws W rk t (k+1) kvs g:=by
    intro h;refine⟨F.dic,F.cl,by have:=F.len;omega,F.good,F.old,λj hj hr=>?_⟩;by_cases ejk:j=k
    .subst ejk;rcases h with h|⟨p,hp,e,hg⟩
     .exact h
     .have:=R.lt p hp;rw[e]at this;exact absurd hg (F.old p.1 (R.ins p hp).1 (by omega))
    .exact F.new j (by omega) hr
   by_cases hgk:g k=none
   .rw[if_pos (by simp[hgk])]
    nofun
    refine Hy ?_
    nofun
    refine⟨_,_,rfl,hg1 _ _ _ _,AK (by simp;omega),?_⟩;refine Au (λa:Nat=>D.im (.int (a:Int))) (λa=>if g a=none then some (.im (.int (a:Int)))else none) (λ_ ls=>∃x,ls=[some x,some (.mu H0.length)]) _ (by intro p hp;simp at hp;subst hp;exact hg1 _ _ _ _) ?_ ?_
    .rintro a ha ls hls;refine⟨[some (.im (.int (a:Int))),some (.mu H0.length)],by rcases hls with rfl|⟨_,x,rfl⟩<;>rfl,⟨_,rfl⟩,?_⟩
     nofun
     refine HI (kvs:=kvs) (by rw[Lj,hg0]) F.dic ?_
     nofun
     refine⟨rfl,?_⟩;by_cases h:g a=none
     .rw[if_pos (by simp[h])];exact⟨_,if_pos h,A2 rfl ⟨rfl,rfl⟩⟩
     .rw[if_neg (by simpa using h)];exact if_neg h
    have em2:(fl.filterMap λa=>if g a=none then some (D.im (.int (a:Int)))else none)=intD ((fl.filter λa=>decide (g a=none)).map λa:Nat=>(a:Int)):=by
     have:∀L:List Nat,(L.filterMap λa=>if g a=none then some (D.im (.int (a:Int)))else none)=intD ((L.filter λa=>decide (g a=none)).map λa:Nat=>(a:Int)):=by
      intro L
      induction L with
      |nil=>rfl
      |cons x r ih=>
       rw[filterMap_cons,filter_cons];by_cases h:g x=none
       .simp[h,ih,intD]
       .simp[h,ih]
     exact this fl
    refine⟨_,em2,?_⟩
    nofun
    refine⟨λhb=>?_,λhb=>?_⟩
    .have allf:∀a∈fl,∃u,g a=some u:=by
      intro a ha;have:fl.filter (λa=>decide (g a=none))=[]:=by simpa using hb
      have:=List.filter_eq_nil_iff.mp this a ha;exact Option.ne_none_iff_exists'.mp (by simpa using this)
     nofun
     refine⟨_,_,rfl,hg1 _ _ _ _,AK (by simp;omega),?_⟩;refine Au (λa:Nat=>D.im (.int (a:Int))) (λa=>some (.im (.int ((g a).getD 0+Aq ws a)))) (λ_ ls=>∃x,ls=[some x,some (.mu H0.length),some d0]) _ (by intro p hp;simp at hp;subst hp;exact hg1 _ _ _ _) ?_ ?_
     .rintro a ha ls hls;obtain⟨u,hu⟩:=allf a ha;have han:=fln a ha;refine⟨[some (.im (.int (a:Int))),some (.mu H0.length),some d0],by rcases hls with rfl|⟨_,x,rfl⟩<;>rfl,⟨_,rfl⟩,?_⟩
      nofun
      refine⟨rfl,?_⟩;rw[if_pos rfl];refine⟨_,rfl,?_⟩
      nofun
      refine EM (kvs:=kvs) (by rw[Lj,hg0]) F.dic hu ?_
      nofun
      refine AH (e0 _) (DF han) ?_
      nofun
      exact⟨rfl,by simp[hu,Aq,han]⟩
     have ee:(fl.filterMap λa=>some (D.im (.int ((g a).getD 0+Aq ws a))))=intD (fl.map λa=>(g a).getD 0+Aq ws a):=by simp[intD]
     rw[ee]
     nofun
     simp only[length_append,length_cons,length_nil,append_assoc,cons_append,nil_append,zero_add];refine Nl (k:=.inl 0) (w:=0) ?_
     nofun
     refine Lw ?_
     nofun
     refine AH (e0 _) (DF hk1) ?_
     nofun
     simp only[length_append,length_cons,length_nil,append_assoc,cons_append,nil_append,zero_add];refine⟨_,_,_,_,rfl,rfl,hg3 _ _ _ _ _ _,hg2 _ _ _ _ _,AK (by simp;omega),?_⟩;obtain⟨v,ev,v1,v2,v3⟩:=ar (B9 ws k) (fl.map λa=>(g a).getD 0+Aq ws a);have ec:ws[k].com=B9 ws k:=by simp[B9,hk1]
     rw[ec];refine⟨_,ev,?_⟩
     nofun
     refine⟨_,_,_,rfl,rfl,hg0 _ _ _,BD (by have:=F.len;omega),?_⟩;rw[hs0];have G:Good (B9 ws) (Aq ws) W g k v:=by
      refine⟨v1,λp hp e=>?_,?_⟩
      .have ha:p.1∈fl:=(mem_fl p.1).mpr (by rw[<- e];exact hp);obtain⟨u,hu⟩:=allf _ ha;refine⟨u,hu,?_⟩;have:=v2 _ (mem_map.mpr ⟨p.1,ha,rfl⟩);rw[hu]at this;exact this
      .rcases v3 with h|h
       .exact .inl h
       .obtain⟨a,ha,e⟩:=mem_map.mp h;obtain⟨u,hu⟩:=allf a ha;refine .inr ⟨(a,k),(mem_fl a).mp ha,rfl,u,hu,?_⟩;rw[hu]at e;exact e.symm
     have ext:∀j u,g j=some u->(λj=>if j=k then some v else g j) j=some u:=by
      intro j u hj;have:j≠k:=λz=>by rw[z,hgk]at hj;cases hj
      simp[this,hj]
     refine done _ (λj=>if j=k then some v else g j) _ _ _ _ _ _ ⟨F.dic.put k v,Uy 0 _ _ _ F.cl,by have:=IN kvs (.inl (k:Int)) (.im (.int v));have:=F.len;omega,?_,?_,?_⟩
     .intro j u hj;by_cases e:j=k
      .subst e;simp at hj;subst hj;exact⟨hk1,G.ext ext⟩
      .simp[e]at hj;exact⟨(F.good j u hj).1,(F.good j u hj).2.ext ext⟩
     .intro j hj hr;by_cases e:j=k
      .simp[e]
      .simp[e];exact F.old j hj hr
     .intro j hj hr;by_cases e:j=k
      .simp[e]
      .simp[e];exact F.new j (by omega) hr
    .refine Am ?_;have hex:∃p∈W,p.2=k/\g p.1=none:=by
      have:¬ fl.filter (λa=>decide (g a=none))=[]:=by simpa using hb
      obtain⟨a,ha⟩:=List.exists_mem_of_ne_nil _ this;obtain⟨h1,h2⟩:=mem_filter.mp ha;exact⟨(a,k),(mem_fl a).mp h1,rfl,by simpa using h2⟩
     exact done kvs g _ _ _ _ _ _ (stay (.inr hex))
   .rw[if_neg (by simpa using hgk)];refine⟨λh=>(by cases h),λ_=>Am ?_⟩;exact done kvs g _ _ _ _ _ _ (stay (.inl hgk))
  .rintro ls hd ⟨j,kvs,g,z3,z4,z5,z6,er,hj,rfl,rfl,F⟩;have:ws.length-j=0:=by
    cases q:ws.length-j with
    |zero=>rfl
    |succ m=>rw[q]at er;cases er
   have hj:j=ws.length:=by omega
   subst hj;exact⟨AE _,t+1,kvs,g,_,_,_,_,rfl,rfl,by omega,⟨F.dic,F.cl,by have:=F.len;omega,F.good,λk hk hr=>F.new k hk hr,(by intro k h;omega)⟩⟩
 .rintro ls hd ⟨t,kvs,g,z3,z4,z5,z6,rfl,rfl,ht,F⟩;simp only[length_nil,Nat.add_zero]at ht;subst ht
  nofun
  refine ln ?_
  nofun
  refine⟨GV (by omega),AK (by simp;omega),?_⟩;have all:∀k,k<ws.length->∃v,g k=some v:=λk hk=>Option.ne_none_iff_exists'.mp (F.old k hk (hrk k hk));rw[toNat_natCast,C3];refine Au (λk:Nat=>D.im (.int (k:Int))) (λk=>(g k).map λv=>.im (.int v)) (λ_ ls=>∃x,ls=[some x,some (.mu H0.length)]) _ (AE _) ?_ ?_
  .rintro k hk ls hls;have hk:k<ws.length:=by simpa using hk
   obtain⟨v,hv⟩:=all k hk;refine⟨[some (.im (.int (k:Int))),some (.mu H0.length)],by rcases hls with rfl|⟨_,x,rfl⟩<;>rfl,⟨_,rfl⟩,?_⟩
   nofun
   refine⟨rfl,?_⟩;rw[if_pos rfl];refine⟨_,by rw[hv];rfl,?_⟩
   nofun
   exact EM (kvs:=kvs) (by rw[Lj,hg0]) F.dic hv ⟨rfl,rfl⟩
  .have e:((List.range ws.length).filterMap λk=>(g k).map λv=>D.im (.int v))=intD ((List.range ws.length).map λk=>(g k).getD 0):=by
    have:∀L:List Nat,(∀k∈L,k<ws.length)->(L.filterMap λk=>(g k).map λv=>D.im (.int v))=intD (L.map λk=>(g k).getD 0):=by
     intro L
     induction L with
     |nil=>intro _;rfl
     |cons x r ih=>
      intro h;obtain⟨v,hv⟩:=all x (h x mem_cons_self);have:=ih λk hk=>h k (mem_cons_of_mem _ hk);simp[hv,this,intD]
    exact this _ λk hk=>by simpa using hk
   rw[e]
   nofun
   have gt:∀k,k<ws.length->((List.range ws.length).map λk=>(g k).getD 0).getD k 0=(g k).getD 0:=λk hk=>by simp[hk]
   refine⟨(List.range ws.length).map λk=>(g k).getD 0,H0.length+1,[.dic kvs,.lst (intD ((List.range ws.length).map λk=>(g k).getD 0))],by simp,by omega,by simp,?_,by simp,?_⟩
   .rw[append_assoc];exact hg1 _ _ _ _
   .refine⟨λk hk=>?_,λp hp hk=>?_,λk hk=>?_⟩
    .obtain⟨v,hv⟩:=all k hk;have G:=(F.good k v hv).2;rw[gt k hk,hv];exact G.lo
    .obtain⟨v,hv⟩:=all p.2 hk;obtain⟨u,hu,le⟩:=(F.good p.2 v hv).2.up p hp rfl;rw[gt _ (R.ins p hp).1,gt _ hk,hv,hu];exact le
    .obtain⟨v,hv⟩:=all k hk;rw[gt k hk,hv];rcases(F.good k v hv).2.eq with e|⟨p,hp,e1,u,hu,e2⟩
     .exact .inl e
     .refine .inr ⟨p,hp,e1,?_⟩;rw[gt _ (R.ins p hp).1,hu];exact e2
abbrev CN(W:List (Nat×Nat))(some_:List Nat):List (Nat×Nat):=W.filter λp=>decide (p.1∈some_)&&decide (p.2∈some_)
def QC(W:List (Nat×Nat))(some_:List Nat):(W.filterMap λp=>if p.1∈some_/\p.2∈some_ then some (D.im (AM p))else none)=prD (CN W some_):=by
 induction W with
 |nil=>rfl
 |cons p r ih=>
  rw[filterMap_cons];by_cases h1:p.1∈some_<;>by_cases h2:p.2∈some_<;>simp[h1,h2,CN,prD]at ih ⊢<;>exact ih
structure Up(some_:List Nat)(W:List (Nat×Nat))(rk:Nat->Nat)(b l h:Nat->Int)(t:Nat)(rest:List (Nat×Nat))(v:Nat->Int):Prop where
 lo:∀k∈some_,b k<=v k
 hi:∀k∈some_,v k<=h k
 old:∀k∈some_,rk k<t->v k=h k
 new:∀k∈some_,rk k=t->v k=h k∨∃p∈rest,p.2=k/\h k=h p.1+l p.1
def Up.begin{some_:List Nat}{W:List (Nat×Nat)}{rk:Nat->Nat}{b l h v:Nat->Int}{t:Nat}(H:IsHead (λk=>k∈some_) b l W h)(lo:∀k∈some_,b k<=v k)(hi:∀k∈some_,v k<=h k)(old:∀k∈some_,rk k<t->v k=h k):Up some_ W rk b l h t W v:=
 ⟨lo,hi,old,λk hk e=>by
  rcases H.eq k hk with e|⟨p,hp,e1,e2⟩
  .have:=lo k hk;have:=hi k hk;exact .inl (by omega)
  .exact .inr ⟨p,hp,e1,e2⟩⟩
def Up.step{some_:List Nat}{W:List (Nat×Nat)}{rk:Nat->Nat}{b l h v:Nat->Int}{t:Nat}{q:Nat×Nat}{r:List (Nat×Nat)}(R:Rk (λk=>k∈some_) W rk)(H:IsHead (λk=>k∈some_) b l W h)(hq:q∈W)(U:Up some_ W rk b l h t (q::r) v):
 Up some_ W rk b l h t r (λk=>if k=q.2 then max (v q.2) (v q.1+l q.1)else v k):=by
 have hq1:=(R.ins q hq).1;have hq2:=(R.ins q hq).2;have u1:=H.up q hq hq2;have u2:=U.hi q.1 hq1;have u3:=U.hi q.2 hq2;refine⟨λk hk=>?_,λk hk=>?_,λk hk hr=>?_,λk hk hr=>?_⟩
 .by_cases e:k=q.2
  .subst e;simp only[if_true];have:=U.lo q.2 hk;omega
  .simp only[e,if_false];exact U.lo k hk
 .by_cases e:k=q.2
  .subst e;simp only[if_true];omega
  .simp only[e,if_false];exact U.hi k hk
 .by_cases e:k=q.2
  .subst e;simp only[if_true];have:=U.old q.2 hk hr;omega
  .simp only[e,if_false];exact U.old k hk hr
 .by_cases e:k=q.2
  .subst e;simp only[if_true];rcases U.new q.2 hk hr with e1|⟨p,hp,e1,e2⟩
   .exact .inl (by omega)
   .rcases mem_cons.mp hp with rfl|hp
    .have lt:=R.lt p hq;have:=U.old p.1 hq1 (by omega);exact .inl (by omega)
    .exact .inr ⟨p,hp,e1,e2⟩
  .simp only[e,if_false];rcases U.new k hk hr with e1|⟨p,hp,e1,e2⟩
   .exact .inl e1
   .rcases mem_cons.mp hp with rfl|hp
    .exact absurd e1.symm e
    .exact .inr ⟨p,hp,e1,e2⟩
abbrev onS(some_:List Nat)(v:Nat->Int):Nat->Option Int:=λk=>if k∈some_ then some (v k)else none
def Ti{ws:List Wg}{W:List (Nat×Nat)}{some_:List Nat}{t:Int}{rk:Nat->Nat}{h:Nat->Int}(hn:ws.length<=8)(hW:W.length<=16)(hs:∀k∈some_,k<ws.length)(hl:some_.length<=8)
 (R:Rk (λk=>k∈some_) (CN W some_) rk) (hrk:∀k∈some_,rk k<some_.length) (H:IsHead (λk=>k∈some_) (λk=>max (B9 ws k) t) (Aq ws) (CN W some_) h):
 WF GF [.im (AS ws),.im (.tup (W.map AM)),.im (AN some_),.im (.int t)] [] λd x=>d=.im (.tup (some_.map λk=>.int (h k))):=by
 unfold GF;refine Aw rfl ?_
 nofun
 refine Vp (Sg ?_)
 nofun
 have nat_im:(AN some_)=.tup (some_.map λk:Nat=>I.int (k:Int)):=rfl;have tn:(some_.map λk:Nat=>I.int (k:Int)).map D.im=AG some_:=by simp[AG]
 rw[tn];refine Lp (λr acc ls hd=>∃(done rest:List Nat) (z:Option D),some_=done++rest/\r=AG rest/\ls=[z,some (.im (AS ws)),some (.im (.int t))]/\hd=[]/\acc.length<=done.length/\DicI acc (onS done λk=>max (B9 ws k) t)) ?_ ?_ ?_
 .exact⟨[],some_,none,rfl,rfl,rfl,rfl,by simp,λk=>by simp[BQ]⟩
 .rintro d r acc ls hd ⟨dn,rest,z,es,er,rfl,rfl,la,hd⟩;cases rest with
  |nil=>cases er
  |cons k rest=>
   obtain⟨rfl,rfl⟩:=List.cons.inj er;have hk:k<ws.length:=hs k (by rw[es];simp);refine⟨_,rfl,?_⟩
   nofun
   rw[if_pos rfl];refine YW ?_
   nofun
   refine AH rfl (by rw[<- Bs];exact DF hk) ?_
   nofun
   refine⟨BD (by have:=congrArg List.length es;simp at this;omega),AE _,dn++[k],rest,_,by rw[es];simp,rfl,rfl,rfl,by have:=IN acc (.inl (k:Int)) (.im (.int (max ws[k].com t)));simp;omega,?_⟩;have e:ws[k].com=B9 ws k:=by simp[B9,hk]
   rw[e];intro j;rw[hd.put k _ j];by_cases ej:j=k
   .subst ej;simp
   .simp[ej]
 rintro acc ls hd ⟨dn,rest,z,es,er,rfl,rfl,la,hdic⟩;have:rest=[]:=by cases rest with
  |nil=>rfl
  |cons _ _=>cases er
 subst this;simp only[append_nil]at es;subst es
 nofun
 refine⟨AK (by simp;omega),?_⟩;have tw:(W.map AM).map D.im=W.map λp=>D.im (AM p):=by rw[map_map];rfl
 rw[tw];refine Au (λp:Nat×Nat=>D.im (AM p)) (λp=>if p.1∈some_/\p.2∈some_ then some (.im (AM p))else none) (λ_ ls=>∃x y,ls=[some x,some y,some (.mu 0)]) _ (AE _) ?_ ?_
 .rintro p hp ls hls;refine⟨[some (.im (.int (p.1:Int))),some (.im (.int (p.2:Int))),some (.mu 0)],by rcases hls with rfl|⟨_,x,y,rfl⟩<;>rfl,⟨_,_,rfl⟩,?_⟩
  nofun
  refine HI (kvs:=acc) rfl hdic ?_
  nofun
  by_cases h1:p.1∈some_
  .rw[if_pos (by simp[h1])]
   nofun
   refine HI (kvs:=acc) rfl hdic ?_
   nofun
   refine⟨rfl,?_⟩;by_cases h2:p.2∈some_
   .rw[if_pos (by simp[h2])];refine⟨_,if_pos ⟨h1,h2⟩,?_⟩
    nofun
    exact⟨rfl,FN _ _⟩
   .rw[if_neg (by simp[h2])];exact if_neg λz=>h2 z.2
  .rw[if_neg (by simp[h1])];refine⟨rfl,?_⟩;rw[if_neg Bool.false_ne_true];exact if_neg λz=>h1 z.1
 rw[QC];have wl:(CN W some_).length<=16:=le_trans (length_filter_le _ _) hW
 nofun
 rw[tn];refine BE (λr ls hd=>∃(n:Nat) (kvs:List (Key×D)) (v:Nat->Int) (z6 z7 z8:Option D),ls=[some (.im (AS ws)),some (.im (.tup (W.map AM))),some (.im (AN some_)),some (.im (.int t)),some (.mu 0),some (.mu 1),z6,z7,z8]/\hd=[.dic kvs,.lst (prD (CN W some_))]/\n+r.length=some_.length/\kvs.length<=8+16*n/\DicI kvs (onS some_ v)/\(∀k∈some_,max (B9 ws k) t<=v k)/\(∀k∈some_,v k<=h k)/\∀k∈some_,rk k<n->v k=h k) ?_ ?_ ?_
 .exact⟨0,acc,λk=>max (B9 ws k) t,none,none,none,rfl,rfl,by simp,by omega,hdic,λk _=>Int.le_refl _,λk hk=>H.lo k hk,λk _ hr=>by omega⟩
 .rintro d r ls hd ⟨n,kvs,v,z6,z7,z8,rfl,rfl,hl2,lk,hdic,lo,hi,old⟩;simp only[length_cons]at hl2;refine⟨_,rfl,?_⟩;dsimp only[set_cons_zero,set_cons_succ]
  nofun
  refine⟨_,_,rfl,rfl,?_⟩;refine BE (λr ls hd=>∃(rest:List (Nat×Nat)) (kvs:List (Key×D)) (v:Nat->Int) (z6 z7 z8:Option D),r=prD rest/\(∀p∈rest,p∈CN W some_)/\ls=[some (.im (AS ws)),some (.im (.tup (W.map AM))),some (.im (AN some_)),some (.im (.int t)),some (.mu 0),some (.mu 1),z6,z7,z8]/\hd=[.dic kvs,.lst (prD (CN W some_))]/\kvs.length+rest.length<=8+16*n+16/\DicI kvs (onS some_ v)/\Up some_ (CN W some_) rk (λk=>max (B9 ws k) t) (Aq ws) h n rest v) ?_ ?_ ?_
  .exact⟨CN W some_,kvs,v,_,_,_,rfl,λp hp=>hp,rfl,rfl,by omega,hdic,Up.begin H lo hi old⟩
  .rintro d r ls hd ⟨rest,kvs,v,z6,z7,z8,er,hsub,rfl,rfl,lk,hdic,U⟩;cases rest with
   |nil=>cases er
   |cons q rest=>
    obtain⟨rfl,rfl⟩:=List.cons.inj er;have hq:=hsub q mem_cons_self;have hq1:=(R.ins q hq).1;have hq2:=(R.ins q hq).2;refine⟨_,rfl,?_⟩;dsimp only[set_cons_zero,set_cons_succ];refine Nl (k:=.inl 0) (w:=0) ?_
    nofun
    refine EM (kvs:=kvs) rfl hdic (if_pos hq2) ?_
    nofun
    refine EM (kvs:=kvs) rfl hdic (if_pos hq1) ?_
    nofun
    refine AH rfl (by rw[<- Bs];exact DF (hs _ hq1)) ?_
    nofun
    simp only[length_cons]at lk;refine⟨_,_,_,rfl,rfl,rfl,BD (by omega),?_⟩;have hq1n:q.1<ws.length:=hs _ hq1;have el:ws[q.1].len=Aq ws q.1:=by simp[Aq,hs _ hq1]
    rw[el];refine⟨by intro p hp;simp at hp;subst hp;rfl,rest,_,_,_,_,_,rfl,λp hp=>hsub p (mem_cons_of_mem _ hp),rfl,rfl,by have:=IN kvs (.inl (q.2:Int)) (.im (.int (max (v q.2) (v q.1+Aq ws q.1))));omega,?_,Up.step R H hq U⟩;intro j;rw[hdic.put q.2 _ j];by_cases ej:j=q.2
    .subst ej;simp[hq2]
    .simp[ej]
  .rintro ls hd ⟨rest,kvs,v,z6,z7,z8,er,hsub,rfl,rfl,lk,hdic,U⟩;have:rest=[]:=by cases rest with
    |nil=>rfl
    |cons _ _=>cases er
   subst this;refine⟨AE _,n+1,kvs,v,_,_,_,rfl,rfl,by omega,by simp at lk;omega,hdic,U.lo,U.hi,λk hk hr=>?_⟩;by_cases e:rk k=n
   .rcases U.new k hk e with e|⟨p,hp,_⟩
    .exact e
    .cases hp
   .exact U.old k hk (by omega)
 .rintro ls hd ⟨n,kvs,v,z6,z7,z8,rfl,rfl,hl2,lk,hdic,lo,hi,old⟩;simp only[length_nil,Nat.add_zero]at hl2;subst hl2
  nofun
  rw[tn];refine⟨AK (by simp;omega),?_⟩;refine Au (λk:Nat=>D.im (.int (k:Int))) (λk=>some (.im (.int (h k)))) (λ_ ls=>∃x,ls=[some x,some (.mu 0)]) _ (AE _) ?_ ?_
  .rintro k hk ls hls;refine⟨[some (.im (.int (k:Int))),some (.mu 0)],by rcases hls with rfl|⟨_,x,rfl⟩<;>rfl,⟨_,rfl⟩,?_⟩
   nofun
   refine⟨rfl,?_⟩;rw[if_pos rfl];refine⟨_,rfl,?_⟩
   nofun
   exact EM (kvs:=kvs) rfl hdic (if_pos hk) ⟨rfl,by rw[old k hk (hrk k hk)]⟩
  .refine⟨_,rfl,?_⟩;have:(some_.filterMap λk=>some (D.im (.int (h k))))=(some_.map λk=>I.int (h k)).map D.im:=by simp
   rw[this];exact BJ _
def m1:¬ (("miss":Str)="ends"):=by decide +kernel
def s1:¬ (("steps":Str)="late"):=by decide +kernel
def s2:¬ (("steps":Str)="tardy"):=by decide +kernel
def s3:¬ (("steps":Str)="miss"):=by decide +kernel
def s4:¬ (("steps":Str)="ends"):=by decide +kernel
def e1:¬ (("ends":Str)="late"):=by decide +kernel
def e2:¬ (("ends":Str)="tardy"):=by decide +kernel
def e3:¬ (("ends":Str)="miss"):=by decide +kernel
def OU{c:Cost}(h:CZ c)(t:Int):WF Cl [.im (Al c),.im (.int t)] [] λd x=>d=.im (.int (c.at t)):=by
 cases c with
 |late d=>exact WP.eq (z:=.im (.int (t-d))) (h:=[]) (by simp[Cl,mkF,Al]) rfl
 |tardy d w=>
  have b1:∀j,EA w j:=λj=>D8 (by have:=h.1;omega) (by have:=h.2;omega);refine WP.eq (z:=.im (.int (w*if d<t then t-d else 0))) (h:=[]) (by simp[Cl,mkF,Al,n8,b1,Dm]) ?_;simp only[Cost.at];by_cases q:t-d<=0
  .rw[if_neg (by omega),if_pos q,Int.mul_zero]
  .rw[if_pos (by omega),if_neg q]
 |miss d w=>
  have b1:∀j,EA w j:=λj=>D8 (by have:=h.1;omega) (by have:=h.2;omega);refine WP.eq (z:=.im (.int (w*if d<t then 1 else 0))) (h:=[]) (by simp[Cl,mkF,Al,n9,n10,b1,N8]) ?_;simp only[Cost.at];by_cases q:t-d<=0
  .rw[if_neg (by omega),if_pos q,Int.mul_zero]
  .rw[if_pos (by omega),if_neg q,Int.mul_one]
 |ends w=>
  have b1:∀j,EA w j:=λj=>D8 (by have:=h.1;omega) (by have:=h.2;omega);exact WP.eq (z:=.im (.int (w*t))) (h:=[]) (by simp[Cl,mkF,Al,e1,e2,e3,b1]) rfl
 |steps rows=>
  obtain⟨hl,hr,ha⟩:=h;unfold Cl;refine Aw rfl ?_;refine AD (BG (AJ (A8 (A8 (A2 rfl (AR (AH rfl (CI _ _) (AR (Bo ⟨_,rfl,(λq=>absurd (of_decide_eq_true q) s1),λ_=>Am (A7 ?_)⟩)))))))));refine AD (BG (AJ (A8 (A8 (A2 rfl (AR (AH rfl (CI _ _) (AR (Bo ⟨_,rfl,(λq=>absurd (of_decide_eq_true q) s2),λ_=>Am (A7 ?_)⟩)))))))));refine AD (BG (AJ (A8 (A8 (A2 rfl (AR (AH rfl (CI _ _) (AR (Bo ⟨_,rfl,(λq=>absurd (of_decide_eq_true q) s3),λ_=>Am (A7 ?_)⟩)))))))));refine AD (BG (AJ (A8 (A8 (A2 rfl (AR (AH rfl (CI _ _) (AR (Bo ⟨_,rfl,(λq=>absurd (of_decide_eq_true q) s4),λ_=>Am (A7 ?_)⟩)))))))));refine Ay (Bv (Lw (BW (CP (A3 (AR (AB ⟨Eb,?_⟩)))))));refine BW (Av (CF (A8 (A2 rfl (AR (AH rfl (FB _ _ _) ⟨_,rfl,?_⟩))))));rw[show(rows.map DX).map D.im=rows.map AQ by simp[DX,AQ]];refine⟨AK (by simp;omega),?_⟩;refine Au AQ (λq=>if q.1<=t then some (.im (.int q.2))else none) (λ_ ls=>∃x y,ls=[some x,some y,some (.im (.int t))]) _ (AE _) ?_ ?_
  .rintro q hq ls hls;refine⟨[some (.im (.int q.1)),some (.im (.int q.2)),some (.im (.int t))],by rcases hls with rfl|⟨_,x,y,rfl⟩<;>rfl,⟨_,_,rfl⟩,AJ (A8 (A2 rfl (A2 rfl (Ir ⟨_,rfl,rfl,?_⟩))))⟩;by_cases hb:q.1<=t
   .rw[if_pos (by simpa using hb)];exact⟨_,if_pos hb,A2 rfl ⟨rfl,rfl⟩⟩
   .rw[if_neg (by simpa using hb)];exact if_neg hb
  have ef:(rows.filterMap λq=>if q.1<=t then some (D.im (.int q.2))else none)=intD ((rows.filter λq=>decide (q.1<=t)).map (·.2)):=by
   clear hl hr ha
   induction rows with
   |nil=>rfl
   |cons q r ih=>
    rw[filterMap_cons,filter_cons];by_cases hb:q.1<=t
    .simp[hb,ih,intD]
    .simp[hb,ih]
  rw[ef];have fl:=length_filter_le (λq:Int×Int=>decide (q.1<=t)) rows;refine⟨0,1,_,_,rfl,rfl,rfl,rfl,AK (by simp;omega),?_⟩;refine⟨.im (.int (BO t rows 0)),?_,rfl⟩;rw[<- Kd t hr ha];show E5 (intD (0::(rows.filter λq=>decide (q.1<=t)).map (·.2)))=_;unfold E5;rw[DC];simp
def D5(n m:Nat):List Nat:=(List.range n).filter λk=>decide (m/2^k%2=1)
def YL{n m:Nat}(h0:m≠0)(h1:m<2^n):D5 n m≠[]:=by
 obtain⟨i,hi⟩:=Nat.exists_testBit_of_ne_zero h0;have hin:i<n:=by
  rcases Nat.lt_or_ge i n with h|h
  .exact h
  .have:m<2^i:=lt_of_lt_of_le h1 (Nat.pow_le_pow_right (by omega) h);rw[Nat.testBit_lt_two_pow this]at hi;cases hi
 intro h;have:i∈D5 n m:=by
  rw[D5,mem_filter];refine⟨by simpa using hin,?_⟩;rw[Nat.testBit_eq_decide_div_mod_eq]at hi;exact hi
 rw[h]at this;simp at this
def V1(n m:Nat):(D5 n m).Sublist (List.range n):=filter_sublist
def YM(m k:Nat):Builtin.bitAnd ((m:Int)/2^(k:Int).toNat) 1=((m/2^k%2:Nat):Int):=by
 have e:(m:Int)/2^(k:Int).toNat=((m/2^k:Nat):Int):=by
  rw[toNat_natCast];norm_cast
 rw[e];generalize m/2^k=z;rw[PyProof.Rows.bitAnd_pp (Int.natCast_nonneg z) (by decide),toNat_natCast];show((z &&& 1:Nat):Int)=_;rw[Nat.and_one_is_mod]
def Fm(ks:List Nat):B4 (AG ks)=.im (AN ks):=by
 have:AG ks=(ks.map λk:Nat=>I.int (k:Int)).map D.im:=by simp[AG]
 rw[this,BJ]
def Ja(p:Nat->Prop)[DecidablePred p](L:List Nat):(L.filterMap λa=>if p a then some (D.im (.int (a:Int)))else none)=AG (L.filter λa=>decide (p a)):=by
 induction L with
 |nil=>rfl
 |cons x r ih=>
  rw[filterMap_cons,filter_cons];by_cases h:p x
  .simp[h,ih,AG]
  .simp[h,ih,AG]
abbrev Ak(ks:List Nat):D:=.im (AN ks)
def Mj{n:Nat}(hn:n<=8):2^n<=256:=by
 have:2^n<=2^8:=Nat.pow_le_pow_right (by omega) hn;omega
def Yg(n:Nat):(1:Int)*2^(n:Int).toNat=((2^n:Nat):Int):=by
 rw[Int.one_mul,toNat_natCast];norm_cast
def po(n:Nat)(hn:n<=8):Fk 1 (n:Int):=by unfold Fk;exact⟨by omega,by omega,by decide⟩
def Us:F_behind=Rw.F_behind:=rfl
abbrev wI(ps:List (Int×Int)):I:=.tup (ps.map FK)
structure Wsh(n:Nat)(ps:List (Int×Int)):Prop where
 len:ps.length<=16
 nod:∀p∈ps,∃a b:Nat,a<n/\b<n/\p=((a:Int),(b:Int))
def Mt(n:Nat)(ps:List (Int×Int))(M:Nat->Nat->Bool):Prop:=∀i j,i<n->j<n->(M i j=true↔Rc ps i j)
def CD(ks:List Nat):(ks.map λk:Nat=>I.int (k:Int)).map D.im=AG ks:=by simp[AG]
def Xf(ks:List Nat):B4 (AG ks)=.im (AN ks):=by rw[<- CD,BJ]
def US(L:List Nat)(x:Nat):((x:Int)∈L.map λk:Nat=>(k:Int))↔x∈L:=by
 constructor
 .intro h;obtain⟨k,hk,e⟩:=mem_map.mp h;have:k=x:=by omega
  rw[<- this];exact hk
 .intro h;exact mem_map.mpr ⟨x,h,rfl⟩
def nin(ks:List Nat)(x:Nat):decide ((x:Int)∈ks.map λk:Nat=>(k:Int))=decide (x∈ks):=by simp only[US]
abbrev B1(M:Nat->Nat->Bool)(ks:List Nat):List Nat:=ks.filter λa=>!(ks.any λb=>M a b)
def T8(found:List Int)(x:Int):x∈AW found↔x∈found:=(Bq found).mem_iff
def Ru{n:Nat}{ps:List (Int×Int)}{M:Nat->Nat->Bool}{ks:List Nat}(h:Wsh n ps)(hM:Mt n ps M)(hk:∀k∈ks,k<n)(hl:ks.length<=8):
 WF Cv [.im (.int (n:Int)),.im (wI ps),.im (AN ks)] [] λd x=>d=.im (AN (B1 M ks)):=by
 unfold Cv;refine Aw rfl ?_
 nofun
 rw[CD];refine BE (λr ls hd=>∃(dn rest:List Nat) (z4 z5:Option D),ks=dn++rest/\r=AG rest/\ls=[some (.im (.int (n:Int))),some (.im (wI ps)),some (.im (AN ks)),some (.mu 0),z4,z5]/\hd=[.lst (AG (dn.filter λa=>!(ks.any λb=>M a b)))]) ?_ ?_ ?_
 .exact⟨[],ks,none,none,rfl,rfl,rfl,rfl⟩
 .rintro d r ls hd ⟨dn,rest,z4,z5,ek,er,rfl,rfl⟩;cases rest with
  |nil=>cases er
  |cons u rest=>
   obtain⟨rfl,rfl⟩:=List.cons.inj er;have hu:u<n:=hk u (by rw[ek];simp);refine⟨_,rfl,?_⟩;dsimp only[set_cons_zero,set_cons_succ]
   nofun
   refine As ?_
   nofun
   refine⟨by simp,?_⟩;rw[Us];obtain⟨found,g,e,nd,mem⟩:=Rw.behind_eq (ps:=ps) (by have:=h.len;omega) (n:Int) (u:Int);refine WP.eq e ⟨_,rfl,?_⟩
   nofun
   refine Ll ?_
   nofun
   rw[CD];refine⟨AK (by simp;omega),?_⟩;refine Au (λk:Nat=>D.im (.int (k:Int))) (λk=>some (.im (.bl (M u k)))) (λ_ ls=>∃x,ls=[some x,some (.im (.tup ((AW found).map I.int)))]) _ (AE _) ?_ ?_
   .rintro k hk' ls hls;refine⟨[some (.im (.int (k:Int))),some (.im (.tup ((AW found).map I.int)))],by rcases hls with rfl|⟨_,x,rfl⟩<;>rfl,⟨_,rfl⟩,?_⟩
    nofun
    refine⟨rfl,?_⟩;rw[if_pos rfl];refine⟨_,rfl,?_⟩
    nofun
    refine Ln (xs:=AW found) (by simp[intD]) ⟨rfl,?_⟩;have:decide ((k:Int)∈AW found)=M u k:=by
     have a:=hM u k hu (hk k hk');rw[<- mem,<- T8]at a;cases q:M u k with
     |true=>rw[q]at a;simpa using a
     |false=>rw[q]at a;simpa using a
    rw[<- this];rfl
   have e1:(ks.filterMap λk=>some (D.im (.bl (M u k))))=blD (ks.map λk=>M u k):=by simp[blD]
   rw[e1];refine⟨_,by rw[Mv,V0];rfl,?_⟩;refine⟨_,rfl,?_⟩;have e2:((ks.map λk=>M u k).any id)=ks.any λb=>M u b:=by simp[List.any_map]
   rw[e2];have ek':ks=(dn++[u])++rest:=by rw[ek];simp
   refine⟨λhb=>?_,λhb=>?_⟩
   .nofun
    refine Cp rfl (BD (by have:=length_filter_le (λa=>!(ks.any λb=>M a b)) dn;have:=congrArg List.length ek;simp at this ⊢;omega)) ?_;refine⟨AE _,dn++[u],rest,_,_,ek',rfl,rfl,?_⟩;have hb:(!(ks.any λb=>M u b))=true:=hb;simp only[filter_append,filter_cons,hb,if_true,List.filter_nil,set_cons_zero,AG,map_append,map_cons,map_nil]
   .refine Am ⟨AE _,dn++[u],rest,_,_,ek',rfl,rfl,?_⟩;have hb:(!(ks.any λb=>M u b))=false:=hb;simp only[filter_append,filter_cons,hb,if_false,Bool.false_eq_true,List.filter_nil,append_nil]
 .rintro ls hd ⟨dn,rest,z4,z5,ek,er,rfl,rfl⟩;have:rest=[]:=by cases rest with
   |nil=>rfl
   |cons _ _=>cases er
  subst this;simp only[append_nil]at ek
  nofun
  refine Bl rfl rfl ?_;rw[<- ek];exact Xf _
def Xr{w:Str}{due d:Int}{rest:List I}(h1:¬ w="ends")(h2:¬ w="steps")(hl:rest.length<=1):WF Dq [.im (.tup (.str w::.int due::rest)),.im (.int d)] [] λr x=>r=.im (.tup (.str w::.int (due+d)::rest)):=by
 unfold Dq;refine Aw rfl ?_;refine AD (BG (DE (AJ (A8 (A8 (A2 rfl (AR (AH rfl (CI _ _) (AR (Bo ⟨_,rfl,?_⟩))))))))));rw[if_neg (by simpa using h1)];refine AJ (A8 (A8 (A2 rfl (AR (AH rfl (CI _ _) (AR (Bo ⟨_,rfl,?_⟩)))))));refine⟨(λq=>absurd (of_decide_eq_true q) h2),λ_=>Am (A7 ?_)⟩;refine Ay (A8 (Bj (A3 (A8 (A2 rfl (AR (AH rfl (CI _ _) ?_)))))));refine A3 (A8 (A8 (A2 rfl (AR (AH rfl (FB _ _ _) (A2 rfl (Dt (AB ⟨E2,?_⟩))))))));refine YX (A2 rfl (Vm (AR ⟨_,rfl,bj ⟨_,rfl,?_,?_⟩⟩)))
 .rintro⟨q,_⟩;simp[HT.sIx]at q
 have ct:DR ((I.str w::.int due::rest).map D.im) (some 2) none=rest.map D.im:=by
  simp[DR,HT.sIx];exact take_of_length_le (by simp)
 rw[ct,BJ];have cat:Px [D.im (.str w),D.im (.int (due+d))] (rest.map D.im):=⟨by simp,AK (by simp;omega)⟩
 refine WP.eq (z:=.im (.tup (.str w::.int (due+d)::rest))) (h:=[]) ?_ rfl;show(match KL (.im (.tup [.str w,.int (due+d)])) (.im (.tup rest)) []with|some z=>some z|none=>G3 (.im (.tup [.str w,.int (due+d)])) (.im (.tup rest)) [])=_;rw[show KL (.im (.tup [.str w,.int (due+d)])) (.im (.tup rest)) []=none from rfl];unfold G3;rw[show AX (.im (.tup [.str w,.int (due+d)]))=some [D.im (.str w),D.im (.int (due+d))]from rfl,show AX (.im (.tup rest))=some (rest.map D.im)from rfl,bind_some,bind_some,if_pos cat];have:([D.im (.str w),D.im (.int (due+d))]++rest.map D.im)=(I.str w::.int (due+d)::rest).map D.im:=rfl;rw[this,BJ]
def Cr(d:Int):Cost->Cost
 |.late x=>.late (x+d)
 |.tardy x w=>.tardy (x+d) w
 |.miss x w=>.miss (x+d) w
 |.ends w=>.ends w
 |.steps rows=>.steps (rows.map λq=>(q.1+d,q.2))
def PX{rows:List (Int×Int)}(d:Int)(hl:rows.length<=5):WF BM [.im (Al (.steps rows)),.im (.int d)] [] λr x=>r=.im (Al (Cr d (.steps rows))):=by
 unfold BM;refine Aw rfl ?_;refine AD (BG (AJ (A8 (A8 (A2 rfl (AR (AH rfl (CI _ _) (AR (Bo ⟨_,rfl,(λq=>absurd (of_decide_eq_true q) s4),λ_=>Am (A7 ?_)⟩)))))))));refine AD (BG (AJ (A8 (A8 (A2 rfl (AR (AH rfl (CI _ _) (AR (Bo ⟨_,rfl,λ_=>?_,(λq=>absurd rfl (of_decide_eq_false q))⟩)))))))));refine Ay (Bj (A3 (AR (A3 (Bv (Av (CF (A8 (A2 rfl (AR (AH rfl (FB _ _ _) ⟨_,rfl,?_⟩)))))))))));rw[show(rows.map DX).map D.im=rows.map AQ by simp[DX,AQ]];refine⟨AK (by simp;omega),?_⟩;refine Au AQ (λq=>some (AQ (q.1+d,q.2))) (λ_ ls=>∃x y,ls=[some x,some y,some (.im (.int d))]) _ (AE _) ?_ ?_
 .rintro q hq ls hls;refine⟨[some (.im (.int q.1)),some (.im (.int q.2)),some (.im (.int d))],by rcases hls with rfl|⟨_,x,y,rfl⟩<;>rfl,⟨_,_,rfl⟩,C9 ⟨rfl,?_⟩⟩;rw[if_pos rfl];exact⟨_,rfl,Bj (A3 (A8 (A2 rfl (A2 rfl (Dt (A3 (A2 rfl (AB ⟨E2,rfl,rfl⟩))))))))⟩
 have e:(rows.filterMap λq=>some (AQ (q.1+d,q.2)))=((rows.map λq=>(q.1+d,q.2)).map DX).map D.im:=by simp[AQ,DX]
 rw[e];refine⟨_,rfl,AB ⟨E2,?_⟩⟩;rw[BJ];rfl
def Xe{c:Cost}(h:CZ c)(hne:∀w,c≠.ends w)(d:Int):WF BM [.im (Al c),.im (.int d)] [] λr x=>r=.im (Al (Cr d c)):=by
 have go:∀(w:Str) (due:Int) (rest:List I),¬ w="ends"->¬ w="steps"->rest.length<=1->WF BM [.im (.tup (.str w::.int due::rest)),.im (.int d)] [] λr x=>r=.im (.tup (.str w::.int (due+d)::rest)):=by
  intro w due rest q1 q2 q3;unfold BM;refine Aw rfl ?_;refine AD (BG (AJ (A8 (A8 (A2 rfl (AR (AH rfl (CI _ _) (AR (Bo ⟨_,rfl,(λq=>absurd (of_decide_eq_true q) q1),λ_=>Am (A7 ?_)⟩)))))))));refine AD (BG (AJ (A8 (A8 (A2 rfl (AR (AH rfl (CI _ _) (AR (Bo ⟨_,rfl,(λq=>absurd (of_decide_eq_true q) q2),λ_=>Am (A7 ?_)⟩)))))))));refine Ay (As (A3 (A2 rfl (A3 (A2 rfl (AB ⟨by simp,(Xr q1 q2 q3).mono ?_⟩))))));rintro r x rfl;exact⟨_,rfl,rfl⟩
 cases c with
 |late x=>exact go "late" x [] n5 n1 (by simp)
 |tardy x w=>exact go "tardy" x [.int w] n6 n2 (by simp)
 |miss x w=>exact go "miss" x [.int w] n7 n3 (by simp)
 |ends w=>exact absurd rfl (hne w)
 |steps rows=>exact PX d h.1
def Way(ps:List (Int×Int)):Nat->Nat->Nat->Prop
 |0,_,_=>False
 |m+1,x,y=>((x:Int),(y:Int))∈ps∨∃b:Nat,((x:Int),(b:Int))∈ps/\Way ps m b y
def Way.mono{ps:List (Int×Int)}:∀{m m' x y:Nat},Way ps m x y->m<=m'->Way ps m' x y
 |0,_,_,_,h,_=>h.elim
 |m+1,0,_,_,_,h=>by omega
 |m+1,m'+1,x,y,h,hm=>by
  rcases h with h|⟨b,h1,h2⟩
  .exact .inl h
  .exact .inr ⟨b,h1,h2.mono (by omega)⟩
def Way.snoc{ps:List (Int×Int)}:∀{m x y z:Nat},Way ps m x y->((y:Int),(z:Int))∈ps->Way ps (m+1) x z
 |0,_,_,_,h,_=>h.elim
 |m+1,x,y,z,h,e=>by
  rcases h with h|⟨b,h1,h2⟩
  .exact .inr ⟨y,h,.inl e⟩
  .exact .inr ⟨b,h1,h2.snoc e⟩
def Kr:∀{xs ys:List Nat},(∀c,xs.count c<=ys.count c)->xs.length<=ys.length
 |[],ys,_=>by simp
 |x::r,ys,h=>by
  have hx:x∈ys:=by
   have:=h x;rw[List.count_cons_self]at this;exact List.count_pos_iff.mp (by omega)
  have ih:=Kr (xs:=r) (ys:=ys.erase x) λc=>by
   have:=h c;by_cases e:c=x
   .subst e;rw[List.count_cons_self]at this;rw[List.count_erase_self];omega
   .rw[List.count_cons_of_ne (λq=>e q.symm)]at this;rw[List.count_erase_of_ne e];exact this
  rw[List.length_erase_of_mem hx]at ih;have:=List.length_pos_of_mem hx;simp only[length_cons];omega
abbrev BA(W:List (Nat×Nat)):List (Int×Int):=W.map λp=>((p.1:Int),(p.2:Int))
def cast_mem{W:List (Nat×Nat)}{x y:Nat}:((x:Int),(y:Int))∈BA W↔(x,y)∈W:=by
 simp only[BA,mem_map,Prod.mk.injEq];constructor
 .rintro⟨⟨a,b⟩,h,e1,e2⟩;have e1:(a:Int)=x:=e1;have e2:(b:Int)=y:=e2;have:a=x:=by omega
  have:b=y:=by omega
  subst a;subst b;exact h
 .intro h;exact⟨(x,y),h,rfl,rfl⟩
def Ma{n:Nat}{W:List (Nat×Nat)}{rk:Nat->Nat}(R:Rk (λk=>k<n) W rk){x y:Int}(r:Rc (BA W) x y):∀i:Nat,x=i->i<n/\∃j:Nat,y=j/\j<n/\rk i<rk j/\Way (BA W) (rk j-rk i) i j:=by
 induction r with
 |one h=>
  rintro i rfl;obtain⟨⟨a,b⟩,hp,e⟩:=mem_map.mp h;simp only[Prod.mk.injEq]at e;obtain⟨e1,rfl⟩:=e;have:a=i:=by omega
  subst this;have l:=R.lt _ hp;have ins:=R.ins _ hp;refine⟨ins.1,b,rfl,ins.2,l,Way.mono (m:=1) (.inl h) ?_⟩;have l:rk a<rk b:=l;omega
 |step _ h ih=>
  intro i hi;obtain⟨hn,m,rfl,hm,lm,w⟩:=ih i hi;obtain⟨⟨a,b⟩,hp,e⟩:=mem_map.mp h;simp only[Prod.mk.injEq]at e;obtain⟨e1,rfl⟩:=e;have:a=m:=by omega
  subst this;have l:rk a<rk b:=R.lt _ hp;refine⟨hn,b,rfl,(R.ins _ hp).2,by omega,Way.mono (w.snoc h) (by omega)⟩
def RH(n:Nat)(f:Nat->List Nat):Hd:=(List.range n).map (λi=>MO.lst (AG (f i)))++[.lst ((List.range n).map D.mu)]
def JI(n:Nat)(f:Nat->List Nat):(RH n f).length=n+1:=by simp[RH]
def GW{n i:Nat}{f:Nat->List Nat}(hi:i<n)(g:Hd):(RH n f++g)[i]?=some (.lst (AG (f i))):=by
 rw[RH,append_assoc,List.getElem?_append_left (by simpa using hi)];simp[hi]
def Qq(n:Nat)(f:Nat->List Nat)(g:Hd):(RH n f++g)[n]?=some (.lst ((List.range n).map D.mu)):=by
 rw[RH,append_assoc,List.getElem?_append_right (by simp)];simp
def Z0{n i:Nat}{f:Nat->List Nat}(hi:i<n)(xs:List Nat)(g:Hd):(RH n f++g).set i (.lst (AG xs))=RH n (λj=>if j=i then xs else f j)++g:=by
 unfold RH;rw[append_assoc,append_assoc,List.set_append_left _ _ (by simpa using hi)]
 congr 1
 refine List.ext_getElem (by simp) λj h1 h2=>?_;simp only[List.length_set,length_map,length_range]at h1;rw[List.getElem_set];by_cases e:i=j
 .subst e;simp
 .rw[if_neg e];have e':¬ j=i:=λq=>e q.symm;simp[e']
def bX(w:Nat)(ks:List Nat):Ap w (AG ks)=true:=NH w (λk:Nat=>I.int (k:Int)) ks
def bY(w:Nat)(ks:List Nat)(h:∀k∈ks,k<w):Ap w (ks.map D.mu)=true:=by
 induction ks with
 |nil=>rfl
 |cons x r ih=>
  simp only[map_cons,Ap,Bool.and_eq_true];exact⟨by simpa [clD]using h x (by simp),ih λk hk=>h k (by simp[hk])⟩
def bz(n w:Nat)(f:Nat->List Nat)(hw:n<=w):(RH n f).all (clO w)=true:=by
 unfold RH;rw[List.all_append,Bool.and_eq_true];refine⟨?_,?_⟩
 .rw[all_eq_true];intro x hx;obtain⟨i,_,rfl⟩:=mem_map.mp hx;exact bX _ _
 .rw[all_cons,List.all_nil,Bool.and_true];exact bY w _ λk hk=>lt_of_lt_of_le (by simpa using hk) hw
abbrev IG(W:List (Nat×Nat))(k:Nat):List Nat:=(W.filter λp=>decide (p.1=k)).map Prod.snd
def W0(W:List (Nat×Nat))(k:Nat):(W.filterMap λp=>if p.1=k then some (D.im (.int (p.2:Int)))else none)=AG (IG W k):=by
 induction W with
 |nil=>rfl
 |cons p r ih=>
  rw[filterMap_cons];by_cases h:p.1=k
  .simp[h,AG]at ih ⊢;exact ih
  .simp[h,AG]at ih ⊢;exact ih
structure Rows(n:Nat)(W:List (Nat×Nat))(f:Nat->List Nat):Prop where
 sound:∀i c,i<n->c∈f i->Rc (BA W) i c
 cnt:∀i c,i<n->(f i).count c<=(W.map Prod.snd).count c
def Rows.len{n:Nat}{W:List (Nat×Nat)}{f:Nat->List Nat}(R:Rows n W f)(hW:W.length<=16){i:Nat}(hi:i<n):(f i).length<=16:=by
 have:=Kr (R.cnt i · hi);simp at this;omega
abbrev grow(f:Nat->List Nat)(k b:Nat):Nat->List Nat:=λj=>if j=k then f k++(f b).filter (λc=>decide (¬ c∈f k))else f j
def Rows.grow{n:Nat}{W:List (Nat×Nat)}{f:Nat->List Nat}(R:Rows n W f){k b:Nat}(hk:k<n)(hb:b<n)(e:Rc (BA W) k b):Rows n W (grow f k b):=by
 refine⟨λi c hi hc=>?_,λi c hi=>?_⟩
 .unfold T25.grow at hc;split at hc
  .next q=>
   subst q;rcases mem_append.mp hc with h|h
   .exact R.sound i c hi h
   .exact e.trans (R.sound b c hb (mem_filter.mp h).1)
  .exact R.sound i c hi hc
 .unfold T25.grow;split
  .next q=>
   subst q;rw[List.count_append];by_cases h:c∈f i
   .have:((f b).filter λc=>decide (¬ c∈f i)).count c=0:=List.count_eq_zero.mpr λq=>by
     have:=(mem_filter.mp q).2;simp[h]at this
    have:=R.cnt i c hi;omega
   .have h0:(f i).count c=0:=List.count_eq_zero.mpr h;have:=List.Sublist.count_le c (filter_sublist (l:=f b) (p:=λc=>decide (¬ c∈f i)));have:=R.cnt b c hb;omega
  .exact R.cnt i c hi
def Fy{f:Nat->List Nat}{k b i c:Nat}(h:c∈f i):c∈grow f k b i:=by
 unfold grow;split
 .next q=>subst q;exact mem_append_left _ h
 .exact h
def Ul{f:Nat->List Nat}{k b c:Nat}(h:c∈f b):c∈grow f k b k:=by
 unfold grow;rw[if_pos rfl];by_cases q:c∈f k
 .exact mem_append_left _ q
 .exact mem_append_right _ (mem_filter.mpr ⟨h,by simpa using q⟩)
def Q5(n:Nat)(W:List (Nat×Nat))(f:Nat->List Nat)(t:Nat):Prop:=∀i c,i<n->Way (BA W) t i c->c∈f i
def QV{n i:Nat}{f:Nat->List Nat}(hi:i<n)(g:Hd):Ad (RH n f++g) (.mu i)=some (AG (f i)):=by
 rw[J0,Es,GW hi]
def QU(n:Nat)(f:Nat->List Nat)(g:Hd):Ad (RH n f++g) (.mu n)=some ((List.range n).map D.mu):=by
 rw[J0,Es,Qq]
def Ld{n i:Nat}(hi:i<n):atI ((List.range n).map D.mu) (i:Int)=some (.mu i):=GC rfl (by simp[hi])
def N0(ks:List Nat):AG ks=intD (ks.map λk:Nat=>(k:Int)):=by simp[intD,AG]
abbrev Lr(n:Nat)(d1:D)(z3 z4 z5:Option D):Ls:=[some (.im (.int (n:Int))),some d1,some (.mu n),z3,z4,z5]
def bZ{n:Nat}{W:List (Nat×Nat)}{f:Nat->List Nat}(hn:n<=8)(hW:W.length<=16)(R:Rows n W f){k b:Nat}(hk:k<n)(hb:b<n)(e:Rc (BA W) k b)(d1:I)(t:Int)(Q:Fl->Hd->Prop)
 (q:Q (.nx (Lr n (.im d1) (some (.im (.int t))) (some (.im (.int (k:Int)))) (some (.im (.int (b:Int)))))) (RH n (grow f k b))):
 WS (Dw (B8 (mMt Dg (mOp gIx (A0 2) (A0 4)) (A1 (Aa (Ab 1 [2,4] (Bu (mOp gIx (A0 2) (A0 5))) (AA 0) (A6 (mOp (gIn true) (A0 0) (mOp gIx (A0 1) (A0 2)))) (A0 0))) A4)))) (Lr n (.im d1) (some (.im (.int t))) (some (.im (.int (k:Int)))) (some (.im (.int (b:Int))))) (RH n f) Q:=by
 have svT:=QU n f [];have svK:=QV (f:=f) hk [];have rB:=GW (f:=f) hb [];have rK:=GW (f:=f) hk [];simp only[append_nil]at svT svK rB rK;refine Hw (D6 (Eg (A8 (A2 rfl (A2 rfl (AH svT (Ld hk) ⟨⟨AG (f k),svK⟩,?_⟩))))));refine A3 (BW (Av (Jw (A8 (A2 rfl (A2 rfl (AH svT (Ld hb) ⟨b,AG (f b),rfl,rB,AK (by have:=R.len hW hb;simp[AG];omega),?_⟩)))))));refine Au (λm:Nat=>D.im (.int (m:Int))) (λc=>if ¬ c∈f k then some (.im (.int (c:Int)))else none) (λ_ ls=>∃x,ls=[some x,some (.mu n),some (.im (.int (k:Int)))]) _ (by intro p hp;rw[mem_singleton]at hp;subst hp;exact rB) ?_ ?_
 .rintro c hc ls hls;refine⟨[some (.im (.int (c:Int))),some (.mu n),some (.im (.int (k:Int)))],by rcases hls with rfl|⟨_,x,rfl⟩<;>rfl,⟨_,rfl⟩,?_⟩;refine AJ (A8 (A2 rfl (A8 (A2 rfl (A2 rfl (AH svT (Ld hk) (Ln (xs:=(f k).map λk:Nat=>(k:Int)) (by rw[svK,N0]) ⟨_,rfl,rfl,?_⟩)))))));rw[nin];by_cases h:c∈f k
  .rw[if_neg (by simp[h])];exact if_neg (λz=>z h)
  .rw[if_pos (by simp[h])];exact⟨_,if_pos h,A2 rfl ⟨rfl,rfl⟩⟩
 rw[Ja];refine AB (Q9 (GW hk _) (by rw[List.getElem?_append_right (by rw[JI];exact le_refl _),Nat.sub_self];rfl) (AK (by have:=R.len hW hk;have:=R.len hW hb;have:=length_filter_le (λa=>decide (¬ a∈f k)) (f b);simp only[AG,length_map];omega)) ?_);have ea:AG (f k)++AG ((f b).filter λa=>decide (¬ a∈f k))=AG (f k++(f b).filter λa=>decide (¬ a∈f k)):=by simp[AG]
 rw[ea,Z0 hk,JI];have tk:(RH n (grow f k b)++[MO.lst (AG ((f b).filter λa=>decide (¬ a∈f k)))]).take (n+1)=RH n (grow f k b):=by
  rw[List.take_append_of_le_length (by rw[JI];exact le_refl _),take_of_length_le (by rw[JI];exact le_refl _)]
 have tk':=tk;unfold grow at tk';rw[tk'];refine⟨bz n _ _ (by omega),.nx (Lr n (.im d1) (some (.im (.int t))) (some (.im (.int (k:Int)))) (some (.im (.int (b:Int))))),?_,q⟩;simp[E8,Eh,clD]
open PySem L2 Bd Hds
def Na{n x:Nat}{dn rest:List Nat}(e:List.range n=dn++x::rest):x=dn.length/\x<n:=by
 have h:(List.range n)[dn.length]?=some x:=by rw[e];simp
 obtain⟨h1,h2⟩:=List.getElem?_eq_some_iff.mp h;simp at h1 h2;omega
def VQ(W:List (Nat×Nat)):(W.map AM).map D.im=W.map λp=>D.im (AM p):=by rw[map_map];rfl
def WU{n:Nat}{W:List (Nat×Nat)}{rk:Nat->Nat}(hn:n<=8)(hW:W.length<=16)(R:Rk (λk=>k<n) W rk)(hrk:∀k,k<n->rk k<n):
 WF Hi [.im (.int (n:Int)),.im (.tup (W.map AM))] [] λd x=>∃f:Nat->List Nat,d=.mu n/\x=RH n f/\(∀i c,i<n->(c∈f i↔Rc (BA W) i c))/\∀i,i<n->(f i).length<=16:=by
 unfold Hi;refine Aw rfl ?_;refine AD (AZ (BW (Av (Hx (A3 (A2 rfl (AB ⟨_,rfl,GV (by omega),AK (by simp;omega),?_⟩)))))));rw[toNat_natCast,C3];refine bo (λr es ls hd=>∃(dn rest:List Nat) (z:Option D),List.range n=dn++rest/\r=AG rest/\es=dn.map D.mu/\hd=dn.map (λi=>MO.lst (AG (IG W i)))/\ls=[z,some (.im (.tup (W.map AM)))]) ⟨[],List.range n,none,rfl,rfl,rfl,rfl,rfl⟩ ?_ ?_
 .rintro d r es ls hd ⟨dn,rest,z,e1,e2,rfl,rfl,rfl⟩;cases rest with
  |nil=>cases e2
  |cons x rest=>
   obtain⟨rfl,rfl⟩:=List.cons.inj e2;obtain⟨ex,hx⟩:=Na e1;refine⟨[some (.im (.int (x:Int))),some (.im (.tup (W.map AM)))],rfl,C9 ?_⟩;rw[if_pos rfl];refine BW (Av (CF (A2 rfl ⟨_,rfl,AK (by simp;omega),?_⟩)));rw[VQ];refine Au (λp:Nat×Nat=>D.im (AM p)) (λp=>if p.1=x then some (.im (.int (p.2:Int)))else none) (λ_ ls=>∃y z,ls=[some y,some z,some (.im (.int (x:Int)))]) _ (AE _) ?_ ?_
   .rintro p hp ls hls;refine⟨[some (.im (.int (p.1:Int))),some (.im (.int (p.2:Int))),some (.im (.int (x:Int)))],by rcases hls with rfl|⟨_,y,z,rfl⟩<;>rfl,⟨_,_,rfl⟩,?_⟩;refine AJ (A8 (A2 rfl (A2 rfl (FE ⟨_,rfl,rfl,?_⟩))));by_cases h:p.1=x
    .rw[if_pos (by simp[h])];exact⟨_,if_pos h,A2 rfl ⟨rfl,rfl⟩⟩
    .rw[if_neg (by simp;omega)];exact if_neg h
   rw[W0];refine⟨AE _,dn++[x],rest,_,by rw[e1];simp,rfl,?_,by simp,rfl⟩;rw[length_map,<- ex];simp
 rintro es ls hd ⟨dn,rest,z,e1,e2,rfl,rfl,rfl⟩;have:rest=[]:=by cases rest with
  |nil=>rfl
  |cons _ _=>cases e2
 subst this;rw[append_nil]at e1;subst e1;have ln:((List.range n).map λi=>MO.lst (AG (IG W i))).length=n:=by simp
 rw[ln];refine A7 ?_;change WS _ (Lr n (.im (.tup (W.map AM))) none none none) (RH n (IG W)) _;have R0:Rows n W (IG W):=by
  refine⟨λi c hi hc=>?_,λi c hi=>?_⟩
  .obtain⟨p,hp,rfl⟩:=mem_map.mp hc;obtain⟨h1,h2⟩:=mem_filter.mp hp;have h2:p.1=i:=by simpa using h2
   exact .one (cast_mem.mpr (h2 ▸ h1))
  .exact List.Sublist.count_le c (filter_sublist.map _)
 have D0:Q5 n W (IG W) 1:=by
  intro i c hi h;rcases h with h|⟨b,_,h⟩
  .exact mem_map.mpr ⟨(i,c),mem_filter.mpr ⟨cast_mem.mp h,by simp⟩,rfl⟩
  .exact h.elim
 refine AD (CM (Hx (A3 (A2 rfl (AB ⟨_,rfl,GV (by omega),?_⟩)))));rw[toNat_natCast];refine BE (λr ls hd=>∃(t:Nat) (f:Nat->List Nat) (z3 z4 z5:Option D),r=AT (t:Int) (n-t)/\t<=n/\ls=Lr n (.im (.tup (W.map AM))) z3 z4 z5/\hd=RH n f/\Rows n W f/\Q5 n W f (t+1)) ⟨0,IG W,none,none,none,rfl,by omega,rfl,rfl,R0,D0⟩ ?_ ?_
 .rintro d r ls hd ⟨t,f,z3,z4,z5,er,ht,rfl,rfl,RR,DD⟩;obtain⟨m,hm⟩:∃m,n-t=m+1:=by
   cases q:n-t with
   |zero=>rw[q]at er;cases er
   |succ m=>exact⟨m,rfl⟩
  rw[hm,AT]at er;obtain⟨rfl,rfl⟩:=List.cons.inj er;refine⟨Lr n (.im (.tup (W.map AM))) (some (.im (.int (t:Int)))) z4 z5,rfl,?_⟩;refine CM (Hx (A3 (A2 rfl (AB ⟨_,rfl,GV (by omega),?_⟩))));rw[toNat_natCast];refine BE (λr' ls hd=>∃(k:Nat) (f:Nat->List Nat) (z4 z5:Option D),r'=AT (k:Int) (n-k)/\k<=n/\ls=Lr n (.im (.tup (W.map AM))) (some (.im (.int (t:Int)))) z4 z5/\hd=RH n f/\Rows n W f/\Q5 n W f (t+1)/\∀i c,i<k->i<n->Way (BA W) (t+2) i c->c∈f i) ⟨0,f,z4,z5,rfl,by omega,rfl,rfl,RR,DD,λi c h=>by omega⟩ ?_ ?_
  .rintro d r' ls hd ⟨k,f,z4,z5,er',hk,rfl,rfl,RR,DD,KK⟩;obtain⟨m',hm'⟩:∃m,n-k=m+1:=by
    cases q:n-k with
    |zero=>rw[q]at er';cases er'
    |succ m=>exact⟨m,rfl⟩
   rw[hm',AT]at er';obtain⟨rfl,rfl⟩:=List.cons.inj er';have hkn:k<n:=by omega
   refine⟨Lr n (.im (.tup (W.map AM))) (some (.im (.int (t:Int)))) (some (.im (.int (k:Int)))) z5,rfl,?_⟩;have svT:=QU n f [];have svK:=QV (f:=f) hkn [];simp only[append_nil]at svT svK;refine CM (Of (Vr (A8 (A2 rfl (A2 rfl (AH svT (Ld hkn) ⟨AG (f k),svK,?_⟩))))));refine BE (λr'' ls hd=>∃(dn rest:List Nat) (f':Nat->List Nat) (z5:Option D),f k=dn++rest/\r''=AG rest/\ls=Lr n (.im (.tup (W.map AM))) (some (.im (.int (t:Int)))) (some (.im (.int (k:Int)))) z5/\hd=RH n f'/\Rows n W f'/\Q5 n W f' (t+1)/\(∀i c,i<k->i<n->Way (BA W) (t+2) i c->c∈f' i)/\(∀c∈f k,c∈f' k)/\∀b∈dn,∀c,Way (BA W) (t+1) b c->c∈f' k) ⟨[],f k,f,z5,rfl,rfl,rfl,rfl,RR,DD,KK,λc h=>h,by simp⟩ ?_ ?_
   .rintro d r'' ls hd ⟨dn,rest,f',z5,ef,er'',rfl,rfl,RR',DD',KK',SS,BB⟩;cases rest with
    |nil=>cases er''
    |cons b rest=>
     obtain⟨rfl,rfl⟩:=List.cons.inj er'';have rb:Rc (BA W) k b:=RR.sound k b hkn (by rw[ef];simp);have hb:b<n:=by
      obtain⟨_,j,ej,hj,_⟩:=Ma R rb k rfl;omega
     refine⟨Lr n (.im (.tup (W.map AM))) (some (.im (.int (t:Int)))) (some (.im (.int (k:Int)))) (some (.im (.int (b:Int)))),rfl,?_⟩;refine bZ hn hW RR' hkn hb rb _ _ _ ?_;refine⟨AE _,dn++[b],rest,grow f' k b,_,by rw[ef];simp,rfl,rfl,rfl,RR'.grow hkn hb rb,λi c hi w=>Fy (DD' i c hi w),λi c h1 h2 w=>Fy (KK' i c h1 h2 w),λc h=>Fy (SS c h),λb' hb' c w=>?_⟩;rcases mem_append.mp hb' with h|h
     .exact Fy (BB b' h c w)
     .rw[mem_singleton]at h;subst h;exact Ul (DD' b' c hb w)
   .rintro ls hd ⟨dn,rest,f',z5,ef,er'',rfl,rfl,RR',DD',KK',SS,BB⟩;have:rest=[]:=by cases rest with
     |nil=>rfl
     |cons _ _=>cases er''
    subst this;rw[append_nil]at ef;refine⟨AE _,k+1,f',_,_,by rw[show((k:Int)+1)=((k+1:Nat):Int) by omega,show m'=n-(k+1) by omega],by omega,rfl,rfl,RR',DD',λi c h1 h2 w=>?_⟩;by_cases h:i=k
    .subst h;rcases w with w|⟨b,w1,w2⟩
     .exact DD' i c h2 (.inl w)
     .have:b∈f i:=DD i b h2 (.inl w1);exact BB b (ef ▸ this) c w2
    .exact KK' i c (by omega) h2 w
  .rintro ls hd ⟨k,f,z4,z5,er',hk,rfl,rfl,RR,DD,KK⟩;have:k=n:=by
    cases q:n-k with
    |zero=>omega
    |succ m=>rw[q]at er';cases er'
   subst this;exact⟨AE _,t+1,f,_,_,_,by rw[show((t:Int)+1)=((t+1:Nat):Int) by omega,show m=k-(t+1) by omega],by omega,rfl,rfl,RR,λi c hi w=>KK i c hi hi w⟩
 .rintro ls hd ⟨t,f,z3,z4,z5,er,ht,rfl,rfl,RR,DD⟩;have:t=n:=by
   cases q:n-t with
   |zero=>omega
   |succ m=>rw[q]at er;cases er
  subst this;refine A7 (Ay (A2 rfl ⟨f,rfl,rfl,λi c hi=>⟨RR.sound i c hi,λr=>?_⟩,λi hi=>RR.len hW hi⟩));obtain⟨_,j,ej,hj,l,w⟩:=Ma R r i rfl;have:j=c:=by omega
  subst this;refine DD i j hi (w.mono ?_);have:=hrk j hj;omega
def Wf(w:Wg):Prop:=(1<=w.len/\w.len<=20)/\(0<=w.com/\w.com<=60)/\∃c,w.co=Al c/\CZ c/\Be 2000 c
def GZ(ws:List Wg):Prop:=1<=ws.length/\ws.length<=8/\∀w∈ws,Wf w
def YN{c:Cost}(h:Be 1000 c):Be 2000 c:=by
 cases c with
 |late d=>simp only[Be]at *;omega
 |tardy d w=>simp only[Be]at *;omega
 |miss d w=>simp only[Be]at *;omega
 |ends w=>simp only[Be]at *;omega
 |steps rows=>intro q hq;have:=h q hq;omega
def cP{w:Wg}(h:w.ok):Wf w:=by
 obtain⟨h1,h2,_,c,e,k1,k2⟩:=h;exact⟨h1,h2,c,e,k1,YN k2⟩
def JH(d:Int):∀{rows:List (Int×Int)} {bot:Int},HF bot rows->HF bot (rows.map λq=>(q.1+d,q.2))
 |[],_,h=>h
 |(_,h)::r,bot,hr=>⟨hr.1,JH d hr.2⟩
def LI(d:Int):∀{rows:List (Int×Int)},Asc rows->Asc (rows.map λq=>(q.1+d,q.2))
 |[],h=>h
 | (b,h)::r,hr=>⟨λq hq=>by
  obtain⟨p,hp,rfl⟩:=mem_map.mp hq;have:=hr.1 p hp;show b+d<p.1+d;omega,LI d hr.2⟩
def UU{c:Cost}(h:CZ c)(d:Int):CZ (Cr d c):=by
 cases c with
 |late x=>trivial
 |tardy x w=>exact h
 |miss x w=>exact h
 |ends w=>exact h
 |steps rows=>exact⟨by simpa using h.1,JH d h.2.1,LI d h.2.2⟩
def UV{c:Cost}(h:Be 1000 c){d:Int}(h0:-999<=d)(h1:d<=999):Be 2000 (Cr d c):=by
 cases c with
 |late x=>simp only[Be,Cr]at *;omega
 |tardy x w=>simp only[Be,Cr]at *;omega
 |miss x w=>simp only[Be,Cr]at *;omega
 |ends w=>simp only[Be,Cr]at *;omega
 |steps rows=>
  intro q hq;obtain⟨p,hp,rfl⟩:=mem_map.mp hq;have:=h p hp;show(-2000<=p.1+d/\p.1+d<=2000)/\0<=p.2/\p.2<=99;omega
def bG{c:Cost}(h:CZ c)(d:Int)(ls:Ls)(hd:Hd)(QE:D->Hd->Prop)(e6:ls[6]?=some (some (.im (Al c))))(e2:ls[2]?=some (some (.im (.int d))))(q:QE (.im (Al (Cr d c))) hd):
 WE (mIf (A6 (mOp gEq (mOp gIx (A0 6) (mC (.int 0))) (mC (.str "ends")))) (A0 6) (AC 0 BM (A1 (A0 6) (A1 (A0 2) A4)))) ls hd QE:=by
 have go:∀(w:Str) (is:List I),Al c=.tup (.str w::is)->¬ w="ends"->(∀w,c≠.ends w)->WE (mIf (A6 (mOp gEq (mOp gIx (A0 6) (mC (.int 0))) (mC (.str "ends")))) (A0 6) (AC 0 BM (A1 (A0 6) (A1 (A0 2) A4)))) ls hd QE:=by
  intro w is ec hw hc;refine FF (AJ (A8 (A8 (A2 e6 (AR ?_)))));rw[ec];refine AH rfl (CI _ _) (AR (Bo ⟨_,rfl,(λq=>absurd (of_decide_eq_true q) hw),λ_=>?_⟩));refine As (A3 (A2 e6 (A3 (A2 e2 (AB ⟨by simp,(Xe h hc d).mono ?_⟩)))));rintro r x rfl;exact⟨_,rfl,q⟩
 cases c with
 |late x=>exact go "late" _ rfl n5 (by intro w;simp)
 |tardy x w=>exact go "tardy" _ rfl n6 (by intro w;simp)
 |miss x w=>exact go "miss" _ rfl n7 (by intro w;simp)
 |ends w=>
  refine FF (AJ (A8 (A8 (A2 e6 (AR ?_)))));refine AH rfl (CI _ _) (AR (Bo ⟨_,rfl,λ_=>A2 e6 q,λq=>absurd rfl (of_decide_eq_false q)⟩))
 |steps rows=>exact go "steps" _ rfl s4 (by intro w;simp)
def cj(k:Nat){ws:List Wg}(hok:ak ws)(a b:MO)(hT:T (k+2) a b):WF Dr [.mu 1,.im (AS ws)] [a,b] λd x=>∃i a' b' g,d=.im i/\(∃ws',i=AS ws'/\GZ ws'/\ws'.length=ws.length)/\T k a' b'/\x=a'::b'::g:=by
 unfold Dr;refine Aw rfl ?_;refine AD (BG (AJ (A8 ?_)));refine tap.draw hT rfl (by first|decide|omega) (by first|decide|omega) λr1 a b hT pr1 qr1=>?_;refine AR (Iu ⟨_,rfl,λh=>Ay (A2 rfl (IB ⟨_,a,b,[],rfl,⟨ws,rfl,⟨hok.1,hok.2.1,λw hw=>cP (hok.2.2 w hw)⟩,rfl⟩,tap.le hT (by omega),rfl⟩)),λh=>Am (A7 ?_)⟩);refine AD (AZ (A8 ?_));refine tap.draw hT rfl (by first|decide|omega) (by first|decide|omega) λr2 a b hT pr2 qr2=>?_;refine AR (GN (A7 ?_));change WS _ [some (.mu 1),some (.im (AS ws)),some (.im (.int (r2-999))),none,none,none,none] [a,b] _;refine AD (AZ (BW (CP (AB ⟨DN,A7 ?_⟩))));change WS _ [some (.mu 1),some (.im (AS ws)),some (.im (.int (r2-999))),some (.mu 2),none,none,none] [a,b,.lst []] _;refine AD (CM (CF (A2 rfl ⟨_,rfl,?_⟩)));rw[<- Bs];refine BE (λr ls hd=>∃(dn rest ws':List Wg) (z4 z5 z6:Option D),ws=dn++rest/\r=wgD rest/\ls=[some (.mu 1),some (.im (AS ws)),some (.im (.int (r2-999))),some (.mu 2),z4,z5,z6]/\hd=[a,b,.lst (wgD ws')]/\ws'.length=dn.length/\∀w∈ws',Wf w) ⟨[],ws,[],none,none,none,rfl,rfl,rfl,rfl,rfl,by simp⟩ ?_ ?_
 .rintro d r ls hd ⟨dn,rest,ws',z4,z5,z6,ew,er,rfl,rfl,hl,hw⟩;cases rest with
  |nil=>cases er
  |cons w rest=>
   obtain⟨rfl,rfl⟩:=List.cons.inj er;have hwo:w.ok:=hok.2.2 w (by rw[ew];simp);have len:ws'.length<=8:=by have:=congrArg List.length ew;have:=hok.2.1;simp at *;omega
   obtain⟨l,cm,co⟩:=w;obtain⟨h1,h2,_,c,e,k1,k2⟩:=hwo;have e:co=Al c:=e;subst e;refine⟨[some (.mu 1),some (.im (AS ws)),some (.im (.int (r2-999))),some (.mu 2),some (.im (.int l)),some (.im (.int cm)),some (.im (Al c))],rfl,?_⟩;refine D6 (Eg (A2 rfl ⟨⟨_,rfl⟩,A3 (Bj (A3 (A2 rfl (A3 (A2 rfl (A3 (bG k1 (r2-999) _ _ _ rfl rfl ?_)))))))⟩));refine AB ⟨E1,AB ?_⟩;rw[EH];refine Cp rfl (BD (by simp;omega)) ⟨AE _,dn++[⟨l,cm,Al c⟩],rest,ws'++[⟨l,cm,Al (Cr (r2-999) c)⟩],_,_,_,by rw[ew];simp,rfl,rfl,by simp[wgI],by simp[hl],?_⟩;intro w hw';rcases mem_append.mp hw' with h|h
   .exact hw w h
   .rw[mem_singleton]at h;subst h;exact⟨h1,h2,_,rfl,UU k1 _,UV k2 (by omega) (by omega)⟩
 .rintro ls hd ⟨dn,rest,ws',z4,z5,z6,ew,er,rfl,rfl,hl,hw⟩;have:rest=[]:=by cases rest with
   |nil=>rfl
   |cons _ _=>cases er
  subst this;rw[append_nil]at ew;subst ew;refine A7 (Ay (C1 (A3 (A2 rfl (AB (Bl rfl rfl ?_))))));refine⟨AS ws',a,b,[.lst (wgD ws')],?_,⟨ws',rfl,⟨by have:=hok.1;omega,by have:=hok.2.1;omega,hw⟩,hl⟩,hT,rfl⟩;have:=Bs ws';unfold wgD;rw[this,BJ]
def OK{ws:List Wg}{W:List (Nat×Nat)}{rk:Nat->Nat}{h:Nat->Int}(hn:ws.length<=8)(hc:∀k,k<ws.length->0<=B9 ws k)(hW:W.length<=16)(R:Rk (λk=>k<ws.length) W rk)(hrk:∀k,k<ws.length->rk k<ws.length)(H:IsHead (λk=>k<ws.length) (B9 ws) (Aq ws) W h):
 WF FY [.im (AS ws),.im (.tup (W.map AM))] [] λd x=>d=.im (.tup ((List.range ws.length).map λk=>.int (h k))):=by
 have we:CN W (List.range ws.length)=W:=by
  refine List.filter_eq_self.mpr λp hp=>?_;have:=R.ins p hp;simp[this.1,this.2]
 unfold FY;refine Aw rfl ?_
 nofun
 refine As ?_
 nofun
 have rn:B4 (AT 0 ws.length)=.im (AN (List.range ws.length)):=by rw[C3,Fm]
 have rgl:HJ (ws.length:Int):=IK (by omega) (by omega);refine WP.eq (z:=.im (AN (List.range ws.length))) (h:=[]) (by simp[BF,rgl,rn]) ?_
 nofun
 refine⟨by simp,?_⟩;refine(Ti (h:=h) (rk:=rk) hn hW (by simp) (by simpa using hn) ?_ (by simpa using hrk) ?_).mono ?_
 .rw[we];exact⟨λp hp=>by simpa using R.ins p hp,R.lt⟩
 .rw[we];refine⟨λk hk=>?_,λp hp hk=>H.up p hp (by simpa using hk),λk hk=>?_⟩
  .have hk:k<ws.length:=by simpa using hk
   have:=hc k hk;have:=H.lo k hk;omega
  .have hk:k<ws.length:=by simpa using hk
   have:=hc k hk;rcases H.eq k hk with e|e
   .refine .inl ?_;omega
   .exact .inr e
 .rintro d x rfl;exact⟨_,rfl,rfl⟩
def Ky:F_cost_at=Bd.F_cost_at:=rfl
def Rg{c:Cost}(h:CZ c):c.wok:=by
 cases c<;>first|trivial|exact h
def NV(ws:List Wg)(cs:Nat->Cost):Prop:=∀k,k<ws.length->(ws[k]?).map Wg.co=some (Al (cs k))/\CZ (cs k)/\Be 2000 (cs k)
def cr{ws:List Wg}(h:GZ ws):∃cs,NV ws cs:=by
 refine Classical.skolem (p:=λk c=>k<ws.length->(ws[k]?).map Wg.co=some (Al c)/\CZ c/\Be 2000 c) |>.mp λk=>?_;by_cases hk:k<ws.length
 .obtain⟨_,_,c,e,k1,k2⟩:=h.2.2 ws[k] (List.getElem_mem hk);exact⟨c,λ_=>⟨by simp[hk,e],k1,k2⟩⟩
 .exact⟨.late 0,λh=>absurd h hk⟩
def Cg(ws:List Wg)(h:Nat->Int)(ks:List Nat):Int:=DH (ks.map h)+(ks.map (Aq ws)).sum
def bnd(ws:List Wg)(cs:Nat->Cost)(h:Nat->Int)(M:Nat->Nat->Bool)(ks:List Nat):Int:=DH ((B1 M ks).map λk=>(cs k).at (Cg ws h ks))
def EI(ks:List Nat)(g:Nat->Int):(ks.filterMap λk=>some (D.im (.int (g k))))=intD (ks.map g):=by simp[intD]
def HU{ns:List Int}(h:ns≠[]):Ft (intD ns)=some (.im (.int (DH ns))):=by unfold Ft;rw[DC];simp[h]
def Xv(ns:List Int):Gq (intD ns)=some (.im (.int ns.sum)):=by unfold Gq;rw[DC];rfl
def Lo{ws:List Wg}{k:Nat}(hk:k<ws.length):(ws[k]).len=Aq ws k:=by simp[Aq,hk]
def LR{ws:List Wg}{cs:Nat->Cost}(hc:NV ws cs){k:Nat}(hk:k<ws.length):(ws[k]).co=Al (cs k):=by
 have:=(hc k hk).1;simpa [hk]using this
def Rq{ws:List Wg}{ks:List Nat}(hk:∀k∈ks,k<ws.length)(hl:ks.length<=8){i j:Nat}{ls:Ls}{hd:Hd}(e0:ls[i]?=some (some (.im (AS ws))))(e1:ls[j]?=some (some (.im (AN ks)))){QE:D->Hd->Prop}(q:QE (.im (.int (ks.map (Aq ws)).sum)) hd):
 WE (B7 Gq (Ab 1 [i] (Az (A0 j)) (AA 0) Bt (mOp gIx (mOp gIx (A0 1) (A0 0)) (mC (.int 0))))) ls hd QE:=by
 refine Bv (Av (CF (A2 e1 ⟨_,rfl,?_⟩)));rw[CD];refine⟨AK (by simp;omega),?_⟩;have ec:Cj 1 [i] ls=[none,some (.im (AS ws))]:=by simp[Cj,e0]
 rw[ec];refine Au (λk:Nat=>D.im (.int (k:Int))) (λk=>some (.im (.int (Aq ws k)))) (λ_ ls=>∃x,ls=[some x,some (.im (AS ws))]) _ (AE _) ?_ ?_
 .rintro k hk' ls hls;have hkn:=hk k hk';refine⟨[some (.im (.int (k:Int))),some (.im (AS ws))],by rcases hls with rfl|⟨_,x,rfl⟩<;>rfl,⟨_,rfl⟩,C9 ⟨rfl,?_⟩⟩;rw[if_pos rfl];refine⟨_,rfl,A8 (A8 (A2 rfl (A2 rfl (AH (by rw[DG,<- Bs]) (DF hkn) (AR (AH rfl (CI _ _) ⟨rfl,?_⟩))))))⟩;rw[Lo hkn]
 rw[EI];exact⟨_,Xv _,q⟩
structure Bh(H:Hd)(n:Nat)(f:Nat->List Nat)(hs:List Int):Prop where
 top:H[n+5]?=some (.lst ((List.range n).map λi=>.mu (i+5)))
 row:∀i,i<n->H[i+5]?=some (.lst (AG (f i)))
 hd:H[4]?=some (.lst (intD hs))
def Ef{H:Hd}{i:Nat}{o:MO}(h:H[i]?=some o)(g:Hd):(H++g)[i]?=some o:=by
 rw[List.getElem?_append_left (List.getElem?_eq_some_iff.mp h).1];exact h
def Bh.app{H:Hd}{n:Nat}{f:Nat->List Nat}{hs:List Int}(B:Bh H n f hs)(g:Hd):Bh (H++g) n f hs:=⟨Ef B.top g,λi hi=>Ef (B.row i hi) g,Ef B.hd g⟩
def Os{H:Hd}{i:Nat}{ds:List D}(h:H[i]?=some (.lst ds)):Ad H (.mu i)=some ds:=by rw[J0,Es,h]
def ap{n i:Nat}(hi:i<n):atI ((List.range n).map λi=>D.mu (i+5)) (i:Int)=some (.mu (i+5)):=GC rfl (by simp[hi])
def ci(p:Nat->Prop)[DecidablePred p](L:List Nat):(L.filterMap λa=>if p a then some (D.im (.int (a:Int)))else none)=intD ((L.filter λa=>decide (p a)).map λa:Nat=>(a:Int)):=by
 rw[Ja,N0]
abbrev Mf(f:Nat->List Nat):Nat->Nat->Bool:=λi j=>decide (j∈f i)
def Uf{H:Hd}{ws:List Wg}{cs:Nat->Cost}{f:Nat->List Nat}{hs:List Int}{ks:List Nat}(B:Bh H ws.length f hs)(hc:NV ws cs)(hh:hs.length=ws.length)(hne:ks≠[])(hk:∀k∈ks,k<ws.length)(hl:ks.length<=8)(hlast:B1 (Mf f) ks≠[]):
 WF EK [.im (AS ws),.mu (ws.length+5),.mu 4,.im (AN ks)] H λd x=>d=.im (.int (bnd ws cs (λk=>hs.getD k 0) (Mf f) ks))/\∃g,x=H++g:=by
 unfold EK;refine Aw rfl ?_;refine AD (AZ (A8 (Bv (Av (CF (A2 rfl ⟨_,rfl,?_⟩))))));rw[CD];refine⟨AK (by simp;omega),?_⟩;refine Au (λk:Nat=>D.im (.int (k:Int))) (λk=>some (.im (.int (hs.getD k 0)))) (λ_ ls=>∃x,ls=[some x,some (.mu 4)]) _ (AE _) ?_ ?_
 .rintro k hk' ls hls;have hkn:=hk k hk';refine⟨[some (.im (.int (k:Int))),some (.mu 4)],by rcases hls with rfl|⟨_,x,rfl⟩<;>rfl,⟨_,rfl⟩,C9 ⟨rfl,?_⟩⟩;rw[if_pos rfl];refine⟨_,rfl,A8 (A2 rfl (A2 rfl (AH (Os B.hd) (GC (k:=k) (x:=.im (.int (hs.getD k 0))) rfl ?_) ⟨rfl,rfl⟩)))⟩;have:k<hs.length:=by omega
  simp[this]
 rw[EI];refine⟨_,HU (by simpa using hne),Rq hk hl rfl rfl (Dt (A7 ?_))⟩;change WS _ [some (.im (AS ws)),some (.mu (ws.length+5)),some (.mu 4),some (.im (AN ks)),some (.im (.int (Cg ws (λk=>hs.getD k 0) ks))),none] H _;refine AD (AZ (BW (Av (CF (A2 rfl ⟨_,rfl,?_⟩)))));rw[CD];refine⟨AK (by simp;omega),?_⟩;refine Au (λk:Nat=>D.im (.int (k:Int))) (λu=>if(!(ks.any λb=>Mf f u b))=true then some (.im (.int (u:Int)))else none) (λ_ ls=>∃x,ls=[some x,some (.im (AN ks)),some (.mu (ws.length+5))]) _ (AE _) ?_ ?_
 .rintro u hu ls hls;have hun:=hk u hu;refine⟨[some (.im (.int (u:Int))),some (.im (AN ks)),some (.mu (ws.length+5))],by rcases hls with rfl|⟨_,x,rfl⟩<;>rfl,⟨_,rfl⟩,?_⟩;refine AJ (Hy (Av (CF (A2 rfl ⟨_,rfl,?_⟩))));rw[CD];refine⟨AK (by simp;omega),?_⟩;refine Au (λk:Nat=>D.im (.int (k:Int))) (λv=>if v∈f u then some (.im (.int (v:Int)))else none) (λ_ ls=>∃x,ls=[some x,some (.mu (ws.length+5)),some (.im (.int (u:Int)))]) _ (AE _) ?_ ?_
  .rintro v hv ls hls;refine⟨[some (.im (.int (v:Int))),some (.mu (ws.length+5)),some (.im (.int (u:Int)))],by rcases hls with rfl|⟨_,x,rfl⟩<;>rfl,⟨_,rfl⟩,?_⟩;refine AJ (A8 (A2 rfl (A8 (A2 rfl (A2 rfl (AH (Os B.top) (ap hun) (Ln (xs:=(f u).map λk:Nat=>(k:Int)) (by rw[Os (B.row u hun),N0]) ⟨_,rfl,rfl,?_⟩)))))));rw[if_neg Bool.false_ne_true,nin];by_cases h:v∈f u
   .rw[if_pos (by simp[h])];exact⟨_,if_pos h,A2 rfl ⟨rfl,rfl⟩⟩
   .rw[if_neg (by simp[h])];exact if_neg h
  rw[ci];refine⟨_,rfl,_,rfl,rfl,?_⟩;have ee:decide ((((ks.filter λv=>decide (v∈f u)).map λa:Nat=>(a:Int))=[]))=!(ks.any λb=>Mf f u b):=by
   rw[Bool.eq_iff_iff,decide_eq_true_iff];simp[Mf]
  rw[if_neg Bool.false_ne_true,ee];by_cases h:(!(ks.any λb=>Mf f u b))=true
  .rw[if_pos h];exact⟨_,if_pos h,A2 rfl ⟨rfl,rfl⟩⟩
  .rw[if_neg h];exact if_neg h
 rw[Ja];have el:(ks.filter λa=>decide ((!(ks.any λb=>Mf f a b))=true))=B1 (Mf f) ks:=by
  unfold B1
  congr 1
  funext a
  exact Bool.decide_eq_true
 rw[el];refine A7 ?_;change WS _ [some (.im (AS ws)),some (.mu (ws.length+5)),some (.mu 4),some (.im (AN ks)),some (.im (.int (Cg ws (λk=>hs.getD k 0) ks))),some (.mu H.length)] (H++[.lst (AG (B1 (Mf f) ks))]) _;have eH:(H++[MO.lst (AG (B1 (Mf f) ks))])[H.length]?=some (.lst (AG (B1 (Mf f) ks))):=by simp
 have hll:(B1 (Mf f) ks).length<=8:=le_trans (length_filter_le _ _) hl;refine Ay (Bv (Av (Jw (A2 rfl ⟨_,_,rfl,eH,AK (by simp only[AG,length_map];omega),?_⟩))));refine Au (λk:Nat=>D.im (.int (k:Int))) (λk=>some (.im (.int ((cs k).at (Cg ws (λk=>hs.getD k 0) ks))))) (λ_ ls=>∃x,ls=[some x,some (.im (AS ws)),some (.im (.int (Cg ws (λk=>hs.getD k 0) ks)))]) _ (by intro p hp;rw[mem_singleton]at hp;subst hp;exact eH) ?_ ?_
 .rintro k hk' ls hls;have hkn:=hk k (mem_filter.mp hk').1;refine⟨[some (.im (.int (k:Int))),some (.im (AS ws)),some (.im (.int (Cg ws (λk=>hs.getD k 0) ks)))],by rcases hls with rfl|⟨_,x,rfl⟩<;>rfl,⟨_,rfl⟩,C9 ⟨rfl,?_⟩⟩;rw[if_pos rfl];refine⟨_,rfl,As (A3 (A8 (A8 (A2 rfl (A2 rfl (AH (by rw[DG,<- Bs]) (DF hkn) (AR (AH rfl (HE _ _ _ _) ?_))))))))⟩;rw[LR hc hkn];refine A3 (A2 rfl (AB ⟨by simp,(OU (hc k hkn).2.1 _).mono ?_⟩));rintro r x rfl;exact⟨_,rfl,rfl,rfl⟩
 rw[EI];exact⟨_,HU (by simpa using hlast),rfl,_,rfl⟩
def Q2{ws:List Wg}{W:List (Nat×Nat)}{rk:Nat->Nat}{cs:Nat->Cost}{M:Nat->Nat->Bool}{h:Nat->Int}{ks:List Nat}(hn:ws.length<=8)(hcm:∀k,k<ws.length->0<=B9 ws k)(hW:W.length<=16)(R:Rk (λk=>k<ws.length) W rk)(hrk:∀k,k<ws.length->rk k<ws.length)
 (Hh:IsHead (λk=>k<ws.length) (B9 ws) (Aq ws) W h) (hM:Mt ws.length (BA W) M) (hc:NV ws cs) (hne:ks≠[]) (hk:∀k∈ks,k<ws.length) (hl:ks.length<=8) (hlast:B1 M ks≠[]):
 WF Cm [.im (AS ws),.im (.tup (W.map AM)),.im (AN ks)] [] λd x=>d=.im (.int (bnd ws cs h M ks)):=by
 unfold Cm;refine Aw rfl ?_;refine AD (AZ (As (A3 (A2 rfl (A3 (A2 rfl (AB ⟨by simp,(OK hn hcm hW R hrk Hh).mono ?_⟩)))))));rintro r x rfl;refine⟨_,rfl,A7 ?_⟩;change WS _ [some (.im (AS ws)),some (.im (.tup (W.map AM))),some (.im (AN ks)),some (.im (.tup ((List.range ws.length).map λk=>.int (h k)))),none] [] _;refine AD (AZ (A8 (Bv (Av (CF (A2 rfl ⟨_,rfl,?_⟩))))));rw[CD];refine⟨AK (by simp;omega),?_⟩;refine Au (λk:Nat=>D.im (.int (k:Int))) (λk=>some (.im (.int (h k)))) (λ_ ls=>∃x,ls=[some x,some (.im (.tup ((List.range ws.length).map λk=>.int (h k))))]) _ (AE _) ?_ ?_
 .rintro k hk' ls hls;have hkn:=hk k hk';refine⟨[some (.im (.int (k:Int))),some (.im (.tup ((List.range ws.length).map λk=>.int (h k))))],by rcases hls with rfl|⟨_,x,rfl⟩<;>rfl,⟨_,rfl⟩,C9 ⟨rfl,?_⟩⟩;rw[if_pos rfl];refine⟨_,rfl,A8 (A2 rfl (A2 rfl (AH rfl (GC (k:=k) (x:=.im (.int (h k))) rfl ?_) ⟨rfl,rfl⟩)))⟩;simp[hkn]
 rw[EI];refine⟨_,HU (by simpa using hne),?_⟩;refine As (A3 (A2 rfl (A3 (A2 rfl (AB ⟨by simp,?_⟩)))));have lw:WF Dp [.im (AS ws),.im (AN ks)] [] λd x=>d=.im (.int (ks.map (Aq ws)).sum):=by
  unfold Dp;refine Aw rfl ?_;exact Ay (Rq hk hl rfl rfl rfl)
 refine lw.mono ?_;rintro r x rfl;refine⟨_,rfl,Dt (A7 ?_)⟩;change WS _ [some (.im (AS ws)),some (.im (.tup (W.map AM))),some (.im (AN ks)),some (.im (.tup ((List.range ws.length).map λk=>.int (h k)))),some (.im (.int (Cg ws h ks)))] [] _;have ew:W.map AM=(BA W).map FK:=by rw[map_map];rfl
 have hW':Wsh ws.length (BA W):=⟨by simpa using hW,λp hp=>by
  obtain⟨q,hq,rfl⟩:=mem_map.mp hp;have:=R.ins q hq;exact⟨q.1,q.2,this.1,this.2,rfl⟩⟩
 refine Ay (Bv (Av (CF (As (A3 (C1 (A3 (A2 rfl (AB (Bl rfl rfl ?_)))))))))) ;refine A3 (A2 rfl (A3 (A2 rfl (AB ⟨by simp,?_⟩))));rw[ew];have eln:(((ws.map wgI).map D.im).length:Int)=(ws.length:Int):=by simp
 rw[eln];refine(Ru hW' hM hk hl).mono ?_;rintro r x rfl;refine⟨_,rfl,_,rfl,?_⟩;rw[CD];have hll:(B1 M ks).length<=8:=le_trans (length_filter_le _ _) hl;refine⟨AK (by simp only[AG,length_map];omega),?_⟩;refine Au (λk:Nat=>D.im (.int (k:Int))) (λk=>some (.im (.int ((cs k).at (Cg ws h ks))))) (λ_ ls=>∃x,ls=[some x,some (.im (AS ws)),some (.im (.int (Cg ws h ks)))]) _ (AE _) ?_ ?_
 .rintro k hk' ls hls;have hkn:=hk k (mem_filter.mp hk').1;refine⟨[some (.im (.int (k:Int))),some (.im (AS ws)),some (.im (.int (Cg ws h ks)))],by rcases hls with rfl|⟨_,x,rfl⟩<;>rfl,⟨_,rfl⟩,C9 ⟨rfl,?_⟩⟩;rw[if_pos rfl];refine⟨_,rfl,As (A3 (A8 (A8 (A2 rfl (A2 rfl (AH (by rw[DG,<- Bs]) (DF hkn) (AR (AH rfl (HE _ _ _ _) ?_))))))))⟩;rw[LR hc hkn];refine A3 (A2 rfl (AB ⟨by simp,?_⟩));rw[Ky];exact WP.eq (Jh _ _ (Rg (hc k hkn).2.1)) ⟨_,rfl,rfl,rfl⟩
 rw[EI];exact⟨_,HU (by simpa using hlast),rfl⟩
def YO(rk:Nat->Nat):∀ks:List Nat,ks≠[]->∃u∈ks,∀v∈ks,rk v<=rk u:=by
 intro ks
 induction ks with
 |nil=>intro h;exact absurd rfl h
 |cons x r ih=>
  intro _;by_cases hr:r=[]
  .subst hr;exact⟨x,by simp,by simp⟩
  .obtain⟨u,hu,hm⟩:=ih hr;by_cases q:rk u<=rk x
   .refine⟨x,by simp,λv hv=>?_⟩;rcases mem_cons.mp hv with rfl|hv
    .exact le_refl _
    .exact le_trans (hm v hv) q
   .refine⟨u,by simp[hu],λv hv=>?_⟩;rcases mem_cons.mp hv with rfl|hv
    .omega
    .exact hm v hv
def Xu{M:Nat->Nat->Bool}{rk:Nat->Nat}{ks:List Nat}(hne:ks≠[])(h:∀u∈ks,∀v∈ks,M u v=true->rk u<rk v):B1 M ks≠[]:=by
 obtain⟨u,hu,hm⟩:=YO rk ks hne;have:u∈B1 M ks:=by
  refine mem_filter.mpr ⟨hu,?_⟩;rw[Bool.not_eq_true',List.any_eq_false];intro v hv q;have:=h u hu v hv q;have:=hm v hv;omega
 intro e;rw[e]at this;simp at this
def M7(t:Int):∀{rows:List (Int×Int)} {x:Int},HF x rows->x<=BO t rows x
 |[],x,_=>Int.le_refl _
 |(b,a)::r,x,h=>by
   unfold BO;have:=M7 t h.2;have:=h.1;split<;>omega
def J8{t t':Int}(ht:t<=t'):∀{rows:List (Int×Int)} {x:Int},HF x rows->BO t rows x<=BO t' rows x
 |[],x,_=>Int.le_refl _
 |(b,a)::r,x,h=>by
   unfold BO;have h1:=J8 ht h.2;have h2:=M7 t' h.2;have:=h.1;by_cases c1:t<b
   .rw[if_pos c1];split<;>omega
   .rw[if_neg c1,if_neg (by omega)];exact h1
def OZ{c:Cost}(h:CZ c){t t':Int}(ht:t<=t'):c.at t<=c.at t':=by
 cases c with
 |late d=>show t-d<=t'-d;omega
 |tardy d w=>
  obtain⟨h0,_⟩:=h;show(if t-d<=0 then 0 else w*(t-d))<=(if t'-d<=0 then 0 else w*(t'-d));have h2:w*(t-d)<=w*(t'-d):=Int.mul_le_mul_of_nonneg_left (by omega) h0;by_cases c1:t-d<=0
  .rw[if_pos c1];split
   .exact Int.le_refl _
   .exact Int.mul_nonneg h0 (by omega)
  .rw[if_neg c1,if_neg (by omega)];exact h2
 |miss d w=>
  obtain⟨h0,_⟩:=h;show(if t-d<=0 then 0 else w)<=(if t'-d<=0 then 0 else w);split<;>split<;>omega
 |ends w=>exact Int.mul_le_mul_of_nonneg_left ht h.1
 |steps rows=>exact J8 ht h.2.1
open Classical in
def Mc(W:List (Nat×Nat)):Nat->Nat->Bool:=λi j=>decide (Rc (BA W) i j)
def cU(n:Nat)(W:List (Nat×Nat)):Mt n (BA W) (Mc W):=λi j _ _=>by simp[Mc]
def cT{n:Nat}{W:List (Nat×Nat)}{rk:Nat->Nat}(R:Rk (λk=>k<n) W rk){u v:Nat}(h:Mc W u v=true):rk u<rk v:=by
 have h:Rc (BA W) u v:=by simpa [Mc]using h
 obtain⟨_,j,ej,_,hlt,_⟩:=Ma R h u rfl;have:v=j:=by omega
 rw[this];exact hlt
open Sx (Blk spl Fb)
def GB(B:Blk):I:=.tup [.int B.1,.int B.2.1,.tup (B.2.2.map I.int)]
abbrev C7(B:Blk):D:=.im (GB B)
def ba(bs:List Blk):bs.map C7=(bs.map GB).map D.im:=by rw[map_map];rfl
def allIm_map:∀is:List I,BL (is.map D.im)=some is
 |[]=>rfl
 |i::r=>by simp[BL,allIm_map r]
def XC{hd:Hd}{n:Nat}{bs:List Blk}(e:hd[n]?=some (.lst (bs.map C7))):pyD hd (.mu n)=some (.list (I.pys (bs.map GB))):=by
 simp only[pyD,e,ba,allIm_map,map_some]
def VY:∀ns:List Int,PyData.canLayAll0 (I.pys (ns.map I.int))=true
 |[]=>by simp[I.pys,PyData.canLayAll0]
 |n::r=>by simp[I.pys,I.py,PyData.canLayAll0,PyData.canLay0,VY r]
def VZ:∀bs:List Blk,PyData.canLayAll0 (I.pys (bs.map GB))=true
 |[]=>by simp[I.pys,PyData.canLayAll0]
 |b::r=>by simp[I.pys,I.py,GB,PyData.canLayAll0,PyData.canLay0,VZ r,VY]
def cu(bs:List Blk)(hd:Hd)(neg:Bool):G4 neg (.list (I.pys (bs.map GB))) (.list (I.pys [])) hd=some (.im (.bl (if neg then !decide (bs=[])else decide (bs=[]))),hd):=by
 unfold G4;rw[if_pos]
 .cases bs with
  |nil=>simp[I.pys,PyData.eqv,PyData.eqvAll]
  |cons b r=>simp[I.pys,PyData.eqv,PyData.eqvAll]
 .refine⟨by simp[PyData.canLay0,VZ],by simp[I.pys,PyData.canLay0,PyData.canLayAll0],?_⟩;have:(PyData.list (I.pys [])).depth<=60:=by simp[I.pys,PyData.depth,PyData.depthAll]
  omega
def Vo{neg:Bool}{ma:ME}{ls:Ls}{hd:Hd}{QE:D->Hd->Prop}(h:WE ma ls hd λd x=>∃bs:List Blk,pyD x d=some (.list (I.pys (bs.map GB)))/\QE (.im (.bl (if neg then !decide (bs=[])else decide (bs=[])))) x):WE (Cd neg ma (Aj A4)) ls hd QE:=by
 obtain⟨d,x,e,bs,e2,q⟩:=h;refine⟨_,x,?_,q⟩;unfold Cd;rw[e];simp[e2,BL,cu]
def QK{mi:MI}{ls:Ls}{hd:Hd}{QA:List D->Hd->Prop}(h:WI mi ls hd λp x=>∃ns:List Int,p.1=intD ns/\ns.length<64/\QA (intD (AW ns)) x):WA (Bm mi) ls hd QA:=by
 obtain⟨p,x,e,ns,e1,hl,q⟩:=h;refine⟨_,_,?_,q⟩;simp only[Bm,e,bind_some,e1,DC,hl,if_true]
def Vk{is js:List I}{hd:Hd}{QE:D->Hd->Prop}(h0:is≠[])(h1:is.length+js.length<=100)(q:QE (.im (.tup (is++js))) hd):WP (An (.im (.tup is)) (.im (.tup js)) hd) QE:=by
 have cat:Px (is.map D.im) (js.map D.im):=⟨by simpa using h0,AK (by simp;omega)⟩
 refine WP.eq (z:=.im (.tup (is++js))) (h:=hd) ?_ q;show(match KL (.im (.tup is)) (.im (.tup js)) hd with|some z=>some z|none=>G3 (.im (.tup is)) (.im (.tup js)) hd)=_;rw[show KL (.im (.tup is)) (.im (.tup js)) hd=none from rfl];unfold G3;rw[show AX (.im (.tup is))=some (is.map D.im)from rfl,show AX (.im (.tup js))=some (js.map D.im)from rfl,bind_some,bind_some,if_pos cat,<- map_append,BJ]
def Ag(ws:List Wg)(k:Nat):Int:=max 1 (Aq ws k)
def D4(ws:List Wg)(k:Nat):1<=Ag ws k:=by unfold Ag;omega
def Rr{ws:List Wg}(h:GZ ws){k:Nat}(hk:k<ws.length):1<=Aq ws k/\Aq ws k<=20:=by
 have:=(h.2.2 ws[k] (List.getElem_mem hk)).1;simpa [Aq,hk]using this
def Ji{ws:List Wg}(h:GZ ws){k:Nat}(hk:k<ws.length):0<=B9 ws k/\B9 ws k<=60:=by
 have:=(h.2.2 ws[k] (List.getElem_mem hk)).2.1;simpa [B9,hk]using this
def FQ{ws:List Wg}(h:GZ ws){k:Nat}(hk:k<ws.length):Ag ws k=Aq ws k:=by
 have:=Rr h hk;unfold Ag;omega
def MB(m:Nat):AW (Sx.cst [m])=[(m:Int)]:=by simp[AW,Sx.cst]
def QZ(C:List Nat)(m:Nat):AW (AW (Sx.cst C)++[(m:Int)])=AW (Sx.cst (C++[m])):=by
 refine Cc ((Bq _).trans (((Bq _).append_right _).trans ?_)) (CT _) (CT _);have:Sx.cst C++[(m:Int)]=Sx.cst (C++[m]):=by simp[Sx.cst]
 rw[this];exact(Bq _).symm
def NG:∀{ms:List Int},(∀x∈ms,0<=x)->Sx.cst (ms.map Int.toNat)=ms
 |[],_=>rfl
 |x::r,h=>by
  have h0:=h x (by simp);have ih:=NG (ms:=r) λy hy=>h y (by simp[hy]);unfold Sx.cst at ih ⊢;rw[map_cons,map_cons,ih,show((x.toNat:Nat):Int)=x by omega]
def Vw{h l:Nat->Int}{b e:Int}{C:List Nat}{m:Nat}{r:List Nat}(q:e<=h m):spl h l b e C (m::r)=(b,e,AW (Sx.cst C))::spl h l (h m) (h m+l m) [m] r:=by rw[spl,if_pos q]
def Vx{h l:Nat->Int}{b e:Int}{C:List Nat}{m:Nat}{r:List Nat}(q:¬ e<=h m):spl h l b e C (m::r)=spl h l b (e+l m) (C++[m]) r:=by rw[spl,if_neg q]
abbrev Lb(d0 d1 d2:D)(hs:List I)(z5 z6 z7 z8:Option D):Ls:=[some d0,some d1,some d2,some (.im (.tup hs)),some (.mu 0),z5,z6,z7,z8]
def OL{n k:Nat}(h:Nat->Int)(hk:k<n):atI (((List.range n).map λk=>I.int (h k)).map D.im) (k:Int)=some (.im (.int (h k))):=GC rfl (by simp[hk])
def br{ws:List Wg}{W:List (Nat×Nat)}{rk:Nat->Nat}{h:Nat->Int}{ks:List Nat}(hok:GZ ws)(hW:W.length<=16)(R:Rk (λk=>k<ws.length) W rk)(hrk:∀k,k<ws.length->rk k<ws.length)(H:IsHead (λk=>k<ws.length) (B9 ws) (Aq ws) W h)
 (hb:∀k,k<ws.length->0<=h k/\h k<=1000000) (hs:ks.Pairwise (·<·)) (hk:∀k∈ks,k<ws.length) (hl:ks.length<=8):
 WF Ck [.im (AS ws),.im (.tup (W.map AM)),.im (AN ks)] [] λd x=>∃bs:List Blk,d=.mu 0/\x=[.lst (bs.map C7)]/\Sx.Rows h (Ag ws) ks bs:=by
 have hn:=hok.2.1;unfold Ck;refine Aw rfl ?_;refine AD (AZ (As (A3 (A2 rfl (A3 (A2 rfl (AB ⟨by simp,(OK hn (λk hk=>(Ji hok hk).1) hW R hrk H).mono ?_⟩)))))));rintro r x rfl;refine⟨_,rfl,A7 ?_⟩;refine AD (AZ (BW (CP (AB ⟨DN,A7 ?_⟩))));change WS _ (Lb (.im (AS ws)) (.im (.tup (W.map AM))) (.im (AN ks)) ((List.range ws.length).map λk=>I.int (h k)) none none none none) [.lst []] _;have pokk:∀k,k<ws.length->pok (h k,(k:Int)):=λk hk=>by have:=hb k hk;unfold pok;dsimp only;omega
 have nd:ks.Nodup:=hs.imp λq=>by omega
 refine AD (CM (Of (Sm (A2 rfl ⟨Sx.cst ks,λn=>(h n.toNat,n),?_,?_,?_,?_,?_,?_,λms pm pw=>?_⟩))))
 .show AX (.im (AN ks))=_;simp[Sx.cst]
 .simp[Sx.cst];omega
 .unfold Sx.cst;rw[List.nodup_iff_pairwise_ne,pairwise_map];exact hs.imp λq=>by omega
 .intro n hn';obtain⟨k,hk',rfl⟩:=mem_map.mp hn';dsimp only;rw[toNat_natCast];exact pokk k (hk k hk')
 .intro a ha b hb' e;obtain⟨k,hk1,rfl⟩:=mem_map.mp ha;obtain⟨j,hk2,rfl⟩:=mem_map.mp hb';dsimp only at e;rw[toNat_natCast,toNat_natCast]at e;have:=Mk (pokk k (hk k hk1)) (pokk j (hk j hk2)) e;exact congrArg Prod.snd this
 .intro n hn';obtain⟨k,hk',rfl⟩:=mem_map.mp hn';have hkn:=hk k hk';dsimp only;rw[toNat_natCast];have:=OL h hkn;simp only[bI,KO,Li,DP,List.getElem?_cons_zero,List.getElem?_cons_succ,map_cons,map_nil,Option.join_some,bind_some,Vc,DG,this,map_some,Jd,length_cons,length_nil,Nat.reduceAdd,E2,if_true,FN,AQ]
 obtain⟨msN,rfl,pmN⟩:∃msN:List Nat,ms=Sx.cst msN/\msN.Perm ks:=by
  refine⟨ms.map Int.toNat,?_,?_⟩
  .refine(NG λx hx=>?_).symm;obtain⟨k,_,rfl⟩:=mem_map.mp (pm.mem_iff.mp hx);omega
  .have:=pm.map Int.toNat
   have e:(Sx.cst ks).map Int.toNat=ks:=by simp[Sx.cst,Function.comp_def]
   rwa [e]at this
 have pwN:msN.Pairwise λa b=>h a<=h b:=by
  unfold Sx.cst at pw;rw[pairwise_map]at pw;refine pw.imp_of_mem λ{a b} ha hb' q=>?_
  have h1:=hb a (hk a (pmN.mem_iff.mp ha));have h2:=hb b (hk b (pmN.mem_iff.mp hb'));have l1:=hk a (pmN.mem_iff.mp ha);have l2:=hk b (pmN.mem_iff.mp hb');unfold Ao at q;dsimp only at q;rw[toNat_natCast,toNat_natCast]at q;omega
 have hkN:∀k∈msN,k<ws.length:=λk hk'=>hk k (pmN.mem_iff.mp hk');have hlN:msN.length<=8:=by rw[pmN.length_eq];exact hl
 have rows:=Sx.rows_stret (h:=h) (D4 ws) msN.length msN ks rfl hs pmN pwN;have ec:((Sx.cst msN).map λn=>D.im (.int n))=AG msN:=by simp[Sx.cst,AG]
 rw[ec];refine BE (λr ls hd=>∃(rest:List Nat) (tl:List Blk) (z5 z6 z7 z8:Option D),r=AG rest/\ls=Lb (.im (AS ws)) (.im (.tup (W.map AM))) (.im (AN ks)) ((List.range ws.length).map λk=>I.int (h k)) z5 z6 z7 z8/\hd=[.lst (tl.map C7)]/\(∀k∈rest,k<ws.length)/\tl.length+rest.length<=8 /\
  ((tl=[]/\rest=msN)∨∃done b e C,tl=done++[(b,e,AW (Sx.cst C))]/\C≠[]/\C.length+rest.length<=8/\done++spl h (Ag ws) b e C rest=Fb h (Ag ws) msN)) ⟨msN,[],none,none,none,none,rfl,rfl,rfl,hkN,by simpa using hlN,.inl ⟨rfl,rfl⟩⟩ ?_ ?_
 .rintro d r ls hd ⟨rest,tl,z5,z6,z7,z8,er,rfl,rfl,hkr,hlen,cs⟩;cases rest with
  |nil=>cases er
  |cons m rest=>
   obtain⟨rfl,rfl⟩:=List.cons.inj er;have hm:m<ws.length:=hkr m (by simp);have hkr':∀k∈rest,k<ws.length:=λk hk'=>hkr k (by simp[hk']);have hm':=OL h hm;have e1:=FQ hok hm;refine⟨Lb (.im (AS ws)) (.im (.tup (W.map AM))) (.im (AN ks)) ((List.range ws.length).map λk=>I.int (h k)) (some (.im (.int (m:Int)))) z6 z7 z8,rfl,?_⟩;have lenx:∀{ls:Ls} {hd:Hd} {QE:D->Hd->Prop},ls[0]?=some (some (.im (AS ws)))->ls[5]?=some (some (.im (.int (m:Int))))->QE (.im (.int (Aq ws m))) hd->WE (mOp gIx (mOp gIx (A0 0) (A0 5)) (mC (.int 0))) ls hd QE:=λa b q=>
    A8 (A8 (A2 a (A2 b (AH (by rw[DG,<- Bs]) (DF hm) (AR (AH rfl (CI _ _) (by rw[Lo hm];exact q)))))))
   have app:∀(Q:Fl->Hd->Prop),Q (.nx (Lb (.im (AS ws)) (.im (.tup (W.map AM))) (.im (AN ks)) ((List.range ws.length).map λk=>I.int (h k)) (some (.im (.int (m:Int)))) z6 z7 z8)) [.lst ((tl++[(h m,h m+Ag ws m,[(m:Int)])]).map C7)] ->
    WS (B8 (mMt Ae (A0 4) (A1 (BC (A1 (mOp gIx (A0 3) (A0 5)) (A1 (mOp An (mOp gIx (A0 3) (A0 5)) (mOp gIx (mOp gIx (A0 0) (A0 5)) (mC (.int 0)))) (A1 (BC (A1 (A0 5) A4)) A4)))) A4))) (Lb (.im (AS ws)) (.im (.tup (W.map AM))) (.im (AN ks)) ((List.range ws.length).map λk=>I.int (h k)) (some (.im (.int (m:Int)))) z6 z7 z8) [.lst (tl.map C7)] Q:=by
    intro Q q;refine D6 (Eg (A2 rfl ⟨⟨_,rfl⟩,A3 (Bj (A3 (A8 (A2 rfl (A2 rfl (AH rfl hm' ?_)))))) ⟩));refine A3 (A8 (A8 (A2 rfl (A2 rfl (AH rfl hm' (lenx rfl rfl (Dt ?_)))))));refine A3 (Bj (A3 (A2 rfl (AB ⟨Eb,AB ⟨E1,AB (Cp rfl (BD (by simp at hlen ⊢;omega)) ?_)⟩⟩))));rw[OB,EH,<- e1];rw[map_append]at q;exact q
   refine BG (DE (AJ (Vo (A2 rfl ⟨tl,XC rfl,_,rfl,?_⟩))));rcases cs with⟨rfl,rfl⟩|⟨done,b,e,C,rfl,hC,hCl,es⟩
   .rw[if_pos (by simp)];refine⟨λ_=>app _ ?_,λq=>by cases q⟩;refine⟨AE _,rest,_,_,_,_,_,rfl,rfl,rfl,hkr',by simp at hlen ⊢;omega,.inr ⟨[],h m,h m+Ag ws m,[m],by rw[MB],by simp,by simp at hlN ⊢;omega,rfl⟩⟩
   .rw[if_neg (by simp)];have el:Ad [MO.lst ((done++[(b,e,AW (Sx.cst C))]).map C7)] (.mu 0)=some (done.map C7++[C7 (b,e,AW (Sx.cst C))]):=by
     rw[J0,Es];simp
    refine AJ (A8 (A8 (A2 rfl (A2 rfl (AH rfl hm' ?_)))));refine A8 (A8 (A2 rfl (Lu (AR ⟨_,rfl,AH el (NP _ _) (AR (AH rfl (FB _ _ _) (Od ⟨_,rfl,λq=>?_,λq=>?_⟩)))⟩))))
    .have q:e<=h m:=of_decide_eq_true q;refine app _ ⟨AE _,rest,_,_,_,_,_,rfl,rfl,rfl,hkr',by simp at hlen ⊢;omega,.inr ⟨done++[(b,e,AW (Sx.cst C))],h m,h m+Ag ws m,[m],by rw[MB],by simp,by simp at hCl ⊢;omega,?_⟩⟩;rw[<- es];rw[Vw q];simp
    .have q:¬ e<=h m:=of_decide_eq_false q;refine AD (GM (A8 (A2 rfl (Lu (AR ⟨_,rfl,AH el (NP _ _) ⟨_,rfl,A7 ?_⟩⟩)))));change WS _ (Lb (.im (AS ws)) (.im (.tup (W.map AM))) (.im (AN ks)) ((List.range ws.length).map λk=>I.int (h k)) (some (.im (.int (m:Int)))) (some (.im (.int b))) (some (.im (.int e))) (some (.im (.tup ((AW (Sx.cst C)).map I.int))))) _ _;have sl:(AW (Sx.cst C)).length=C.length:=by rw[(Bq _).length_eq];simp[Sx.cst]
     refine FC (Bj (A3 (A2 rfl (A3 (A8 (A2 rfl (lenx rfl rfl (Dt ?_))))))));refine A3 (Bv (QK (CF (A8 (A2 rfl (Bj (A3 (A2 rfl (AB ⟨Eb,?_⟩)))))))));rw[OB];refine Vk (by intro z;have:=congrArg List.length z;simp[sl]at this;exact hC this) (by simp[sl];simp at hCl;omega) ⟨_,rfl,AW (Sx.cst C)++[(m:Int)],by simp[intD],by simp[sl];simp at hCl;omega,?_⟩;refine⟨_,rfl,AB ⟨E1,?_⟩⟩;rw[QZ];have em:B4 (intD (AW (Sx.cst (C++[m]))))=.im (.tup ((AW (Sx.cst (C++[m]))).map I.int)):=by
      have:intD (AW (Sx.cst (C++[m])))=((AW (Sx.cst (C++[m]))).map I.int).map D.im:=by simp[intD]
      rw[this,BJ]
     rw[em,EH,<- e1];refine A2 rfl (Lu (AR ⟨_,rfl,0,-1,done.length,(done++[(b,e,AW (Sx.cst C))]).map C7,rfl,rfl,rfl,?_,?_⟩))
     .simp[ixN];omega
     refine⟨AE _,rest,done++[(b,e+Ag ws m,AW (Sx.cst (C++[m])))],_,_,_,_,rfl,rfl,?_,hkr',by simp at hlen ⊢;omega,.inr ⟨done,b,e+Ag ws m,C++[m],rfl,by simp,by simp at hCl ⊢;omega,?_⟩⟩
     .simp[GB]
     .rw[<- es];rw[Vx q]
 .rintro ls hd ⟨rest,tl,z5,z6,z7,z8,er,rfl,rfl,hkr,hlen,cs⟩;have:rest=[]:=by cases rest with
   |nil=>rfl
   |cons _ _=>cases er
  subst this;refine A7 (Ay (A2 rfl ⟨tl,rfl,rfl,?_⟩));rcases cs with⟨rfl,e⟩|⟨done,b,e,C,rfl,hC,hCl,es⟩
  .rw[<- e]at rows;exact rows
  .have:Fb h (Ag ws) msN=done++[(b,e,AW (Sx.cst C))]:=by rw[<- es];rfl
   rw[this]at rows;exact rows
structure Ev(ws:List Wg)(cs:Nat->Cost)(W:List (Nat×Nat))(rk:Nat->Nat)(h:Nat->Int):Prop where
 ok:GZ ws
 hcs:NV ws cs
 hW:W.length<=16
 R:Rk (λk=>k<ws.length) W rk
 hrk:∀k,k<ws.length->rk k<ws.length
 H:IsHead (λk=>k<ws.length) (B9 ws) (Aq ws) W h
 hb:∀k,k<ws.length->0<=h k/\h k<=1000000
section
variable{ws:List Wg}{cs:Nat->Cost}{W:List (Nat×Nat)}{rk:Nat->Nat}{h:Nat->Int}
def Ev.hM(E:Ev ws cs W rk h):Mt ws.length (BA W) (Mc W):=cU _ _
def Ev.lne(E:Ev ws cs W rk h){ks:List Nat}(hne:ks≠[]):B1 (Mc W) ks≠[]:=Xu (rk:=rk) hne λu _ v _ q=>cT E.R q
def Ev.sh(E:Ev ws cs W rk h):Wsh ws.length (BA W):=⟨by simpa using E.hW,λp hp=>by
 obtain⟨q,hq,rfl⟩:=mem_map.mp hp;have:=E.R.ins q hq;exact⟨q.1,q.2,this.1,this.2,rfl⟩⟩
structure St(ws:List Wg)(ks:List Nat):Prop where
 ne:ks≠[]
 lt:∀k∈ks,k<ws.length
 l8:ks.length<=8
def YK(E:Ev ws cs W rk h){ks:List Nat}(S:St ws ks):WF Cm [.im (AS ws),.im (.tup (W.map AM)),.im (AN ks)] [] λd x=>d=.im (.int (bnd ws cs h (Mc W) ks)):=
 Q2 E.ok.2.1 (λk hk=>(Ji E.ok hk).1) E.hW E.R E.hrk E.H E.hM E.hcs S.ne S.lt S.l8 (E.lne S.ne)
def kfC(cs:Nat->Cost)(t:Int):D->Int|.im (.int i)=>(cs i.toNat).at t|_=>0
def Pw(E:Ev ws cs W rk h){ks:List Nat}(S:St ws ks)(t:Int):WF CL [.im (AS ws),.im (.tup (W.map AM)),.im (AN ks),.im (.int t)] [] λd x=>∃u:Nat,d=.im (.int (u:Int))/\u∈B1 (Mc W) ks/\(cs u).at t=DH ((B1 (Mc W) ks).map λk=>(cs k).at t):=by
 unfold CL;refine Aw rfl ?_;refine Ay (QJ (As (A3 (C1 (A3 (A2 rfl (AB (Bl rfl rfl ?_))))))));refine A3 (A2 rfl (A3 (A2 rfl (AB ⟨by simp,?_⟩))));have ew:W.map AM=(BA W).map FK:=by rw[map_map];rfl
 have eln:(((ws.map wgI).map D.im).length:Int)=(ws.length:Int):=by simp
 rw[eln,ew];refine(Ru E.sh E.hM S.lt S.l8).mono ?_;rintro r x rfl;refine⟨_,rfl,?_⟩;have hne:=E.lne S.ne;have hlt:∀k∈B1 (Mc W) ks,k<ws.length:=λk hk=>S.lt k (mem_filter.mp hk).1;generalize B1 (Mc W) ks=L at hne hlt;cases L with
 |nil=>exact absurd rfl hne
 |cons b r=>
  have bm:=Il (kfC cs t) (AG r) (.im (.int (b:Int)));refine⟨.im (.int (b:Int)),AG r,kfC cs t,?_,λy hy=>?_,?_⟩
  .show some (((b::r).map λk:Nat=>I.int (k:Int)).map D.im)=_;simp[AG]
  .obtain⟨k,hk,rfl⟩:=mem_map.mp (show y∈AG (b::r)from hy);have hkn:=hlt k hk;have w:WE (AC 0 F_cost_at (A1 (mOp gIx (mOp gIx (A0 2) (A0 0)) (mC (.int 2))) (A1 (A0 1) A4))) [some (.im (.int (k:Int))),some (.im (.int t)),some (.im (AS ws))] [] λd x=>d=.im (.int ((cs k).at t))/\x=[]:=by
    refine As (A3 (A8 (A8 (A2 rfl (A2 rfl (AH (by rw[DG,<- Bs]) (DF hkn) (AR (AH rfl (HE _ _ _ _) ?_))))))));rw[LR E.hcs hkn];refine A3 (A2 rfl (AB ⟨by simp,?_⟩));rw[Ky];exact WP.eq (Jh _ _ (Rg (E.hcs k hkn).2.1)) ⟨_,rfl,rfl,rfl⟩
   obtain⟨d,x,e,rfl,rfl⟩:=w;exact e
  .obtain⟨h1,h2⟩:=bm;obtain⟨u,hu,eu⟩:=mem_map.mp (show Ba (λn m=>decide (n<m)) (AG r) ((AG r).map (kfC cs t)) (.im (.int (b:Int))) (kfC cs t (.im (.int (b:Int))))∈AG (b::r)from h1);rw[<- eu]at h2 ⊢;refine⟨u,rfl,hu,?_⟩;have h3:∀k∈b::r,(cs u).at t<=(cs k).at t:=λk hk=>by
    have:=h2 (.im (.int (k:Int))) (show _∈AG (b::r)from mem_map.mpr ⟨k,hk,rfl⟩);simpa [kfC]using this
   have ms:=D9 (xs:=(b::r).map λk=>(cs k).at t) (by simp);have g1:=ms.2 _ (mem_map.mpr ⟨u,hu,rfl⟩);obtain⟨v,hv,ev⟩:=mem_map.mp ms.1;have g2:=h3 v hv
   try dsimp only at ev g1
   omega
def QB(ks:List Nat)(u:Nat)(hl:ks.length<=8):WF Ez [.im (AN ks),.im (.int (u:Int))] [] λd x=>d=.im (AN (ks.filter λk=>decide (k≠u))):=by
 unfold Ez;refine Aw rfl ?_;refine Ay (Bv (Av (CF (A2 rfl ⟨_,rfl,?_⟩))));rw[CD];refine⟨AK (by simp[AG];omega),?_⟩;refine Au (λk:Nat=>D.im (.int (k:Int))) (λk=>if k≠u then some (.im (.int (k:Int)))else none) (λ_ ls=>∃x,ls=[some x,some (.im (.int (u:Int)))]) _ (AE _) ?_ ?_
 .rintro k hk ls hls;refine⟨[some (.im (.int (k:Int))),some (.im (.int (u:Int)))],by rcases hls with rfl|⟨_,x,rfl⟩<;>rfl,⟨_,rfl⟩,AJ (A8 (A2 rfl (A2 rfl (GO ⟨_,rfl,rfl,?_⟩))))⟩;by_cases h:k=u
  .subst h;simp
  .have h1:¬ ((k:Int)=(u:Int)):=by omega
   simp only[h1,decide_false,Bool.not_false,if_true];exact⟨_,by simp[h],A2 rfl ⟨rfl,rfl⟩⟩
 rw[Ja];exact⟨_,rfl,Fm _⟩
def Kf{ss:List (List Nat)}{d:D}(h:d∈ss.map Ak):∃s∈ss,d=Ak s:=by
 obtain⟨s,h1,h2⟩:=mem_map.mp h;exact⟨s,h1,h2.symm⟩
def Pt:I->Nat|.int i=>i.toNat|_=>0
def kfB(ws:List Wg)(cs:Nat->Cost)(h:Nat->Int)(W:List (Nat×Nat)):D->Int|.im (.tup is)=>bnd ws cs h (Mc W) (is.map Pt)|_=>0
def KI(s:List Nat):kfB ws cs h W (Ak s)=bnd ws cs h (Mc W) s:=by
 show bnd ws cs h (Mc W) ((s.map λk:Nat=>I.int (k:Int)).map Pt)=_;rw[map_map]
 congr 1
 have:(Pt ∘ λk:Nat=>I.int (k:Int))=id:=by funext k;simp[Pt]
 rw[this,map_id]
def Y7(E:Ev ws cs W rk h){hd:Hd}{k:Nat}{ss:List (List Nat)}(e:hd[k]?=some (.lst (ss.map Ak)))(hne:ss≠[])(hs:∀s∈ss,St ws s):WF C8 [.im (AS ws),.im (.tup (W.map AM)),.mu k] hd λd x=>∃s∈ss,d=Ak s/\∀s'∈ss,bnd ws cs h (Mc W) s'<=bnd ws cs h (Mc W) s:=by
 unfold C8;refine Aw rfl ?_;cases ss with
 |nil=>exact absurd rfl hne
 |cons b r=>
  have bm:=Im (kfB ws cs h W) (r.map Ak) (Ak b);refine Ay (Sk (A2 rfl ⟨Ak b,r.map Ak,kfB ws cs h W,?_,λy hy=>?_,?_⟩))
  .simp only[Ar,e];rfl
  .obtain⟨s,hs',rfl⟩:=Kf (ss:=b::r) hy;have w:WE (AC 0 Cm (A1 (A0 1) (A1 (A0 2) (A1 (A0 0) A4)))) [some (Ak s),some (.im (AS ws)),some (.im (.tup (W.map AM)))] hd λd x=>d=.im (.int (bnd ws cs h (Mc W) s))/\x=hd:=by
    refine As (A3 (A2 rfl (A3 (A2 rfl (A3 (A2 rfl (AB ⟨by simp,(YK E (hs s hs')).mono ?_⟩)))))));rintro d x rfl;exact⟨_,rfl,rfl,rfl⟩
   obtain⟨d,x,e,rfl,rfl⟩:=w;rw[KI];exact e
  .obtain⟨h1,h2⟩:=bm;obtain⟨s,hs',es⟩:=Kf (ss:=b::r) h1;rw[es]at h2 ⊢;refine⟨s,hs',rfl,λs' h'=>?_⟩;have:=h2 (Ak s') (show _∈(b::r).map Ak from mem_map.mpr ⟨s',h',rfl⟩);rw[KI,KI]at this;exact this
end
open Sx (Blk)
open Bk (Pc gf Brk)
def pcI(p:Pc):I:=.tup [.int (p.1:Int),.int p.2.1,.int p.2.2]
abbrev pcD(p:Pc):D:=.im (pcI p)
def N3{u:Nat}{e:Int}:∀{qs:List Pc} {a:Int},(gf u a e qs).length<=2*qs.length+1
 |[],a=>by simp[gf]
 |q::r,a=>by
  have ih:=N3 (u:=u) (e:=e) (qs:=r) (a:=q.2.2);rw[gf];simp only[length_append,length_cons];split<;>simp<;>omega
inductive I_gap(u:Nat)(b e:Int)(k:Nat)(qs:List Pc)(hd0:Hd)(r:List D)(ls:Ls)(hd:Hd):Prop
 |mk (rest told:List Pc) (at_:Int) (z6:Option D) (h0:r=rest.map pcD) (h1:ls=[some (.im (.int (u:Int))),some (.im (.int b)),some (.im (.int e)),some (.mu k),some (.mu hd0.length),some (.im (.int at_)),z6]) (h2:hd=hd0++[.lst (told.map pcD)]) (h3:told++gf u at_ e rest=gf u b e qs):I_gap u b e k qs hd0 r ls hd
def IF(H:Hd)(x y:MO):(H++[x]).set H.length y=H++[y]:=by simp
def CY(H:Hd)(x:MO):(H++[x])[H.length]?=some x:=by simp
def KH(H:Hd)(ds:List D):Ar (H++[.lst ds]) (.mu H.length)=some ds:=by rw[Es,CY]
def cg{u:Nat}{b e:Int}{k:Nat}{qs:List Pc}{hd:Hd}(ek:hd[k]?=some (.lst (qs.map pcD)))(hl:qs.length<=1000):WF Cy [.im (.int (u:Int)),.im (.int b),.im (.int e),.mu k] hd λd x=>d=.mu hd.length/\x=hd++[.lst ((gf u b e qs).map pcD)]:=by
 have gl:=N3 (u:=u) (e:=e) (qs:=qs) (a:=b);unfold Cy;refine Aw rfl ?_;refine AD (AZ (BW (CP (AB ⟨DN,A7 ?_⟩))));refine AD (AZ (A2 rfl (A7 ?_)));refine AD (CM (Jw (A2 rfl ⟨k,_,rfl,Ef ek _,?_⟩)));refine BE (I_gap u b e k qs hd) ⟨qs,[],b,none,rfl,rfl,rfl,rfl⟩ ?_ ?_
 .rintro d r ls hd' ⟨rest,told,at_,z6,er,rfl,rfl,h3⟩;cases rest with
  |nil=>cases er
  |cons q rest=>
   obtain⟨rfl,rfl⟩:=List.cons.inj er;have tl:told.length+2<=3000:=by
    have:=congrArg List.length h3;rw[gf]at this;simp only[length_append,length_cons]at this;omega
   refine⟨_,rfl,?_⟩;dsimp only[set_cons_zero,set_cons_succ];have fin:∀(tl2:List Pc),tl2.length<=3000->tl2++q::gf u q.2.2 e rest=gf u b e qs->WS (A5 (B8 (mMt Ae (A0 4) (A1 (A0 6) A4))) (AF 5 (mOp gIx (A0 6) (mC (.int 2))))) [some (.im (.int (u:Int))),some (.im (.int b)),some (.im (.int e)),some (.mu k),some (.mu hd.length),some (.im (.int at_)),some (pcD q)] (hd++[.lst (tl2.map pcD)]) (Ol [(k,qs.map pcD)] (I_gap u b e k qs hd (rest.map pcD)) (LS (A5 (B8 (mMt Ae (A0 4) (A1 (BC (A1 (A0 0) (A1 (A0 5) (A1 (A0 2) A4)))) A4))) (AL (A0 4))) λf x=>match f with
    |.rt d=>d=.mu hd.length/\x=hd++[.lst ((gf u b e qs).map pcD)]
    |.nx _=>D.im .non=.mu hd.length/\x=hd++[.lst ((gf u b e qs).map pcD)]
    | _=>False)):=by
    intro tl2 l2 e2;refine AD (D6 (Eg (A2 rfl ⟨⟨_,KH _ _⟩,A3 (A2 rfl (AB (Cp (CY _ _) (BD (by simp;omega)) (A7 ?_))))⟩)));rw[IF];refine AZ (A8 (A2 rfl (AR (AH rfl (HE _ _ _ _) ?_))));refine⟨λp hp=>?_,rest,tl2++[q],q.2.2,some (pcD q),rfl,rfl,by simp,by simpa using e2⟩;rw[mem_singleton]at hp;subst hp;exact Ef ek _
   rw[gf]at h3;refine AD (BG (AJ (A8 (A2 rfl (A8 (A2 rfl (AR (AH rfl (FB _ _ _) (HH ⟨_,rfl,λc=>?_,λc=>Am (A7 ?_)⟩)))))))))
   .have c:at_<q.2.1:=of_decide_eq_true c;rw[if_pos c]at h3;refine D6 (Eg (A2 rfl ⟨⟨_,KH _ _⟩,A3 (Bj (A3 (A2 rfl (A3 (A2 rfl (A3 (A8 (A2 rfl (AR (AH rfl (FB _ _ _) (AB ⟨E1,?_⟩)))))))))))⟩));refine AB (Cp (CY _ _) (BD (by simp;omega)) (A7 ?_));rw[IF,EH];have e2:told.map pcD++[D.im (.tup [.int (u:Int),.int at_,.int q.2.1])]=(told++[(u,at_,q.2.1)]).map pcD:=by rw[map_append];rfl
    rw[e2];exact fin _ (by simp;omega) (by simpa using h3)
   .have c:¬ at_<q.2.1:=of_decide_eq_false c;rw[if_neg c]at h3;exact fin told (by omega) h3
 .rintro ls hd' ⟨rest,told,at_,z6,er,rfl,rfl,h3⟩;have:rest=[]:=by cases rest with
   |nil=>rfl
   |cons t r=>cases er
  subst this;refine A7 ?_;have tl:told.length<=3000:=by
   have:=congrArg List.length h3;simp only[length_append]at this;omega
  refine AD (D6 (Eg (A2 rfl ⟨⟨_,KH _ _⟩,A3 (Bj (A3 (A2 rfl (A3 (A2 rfl (A3 (A2 rfl (AB ⟨E1,?_⟩))))))))⟩)));refine AB (Cp (CY _ _) (BD (by simp;omega)) (A7 ?_));rw[IF,EH];refine Ay (A2 rfl ⟨rfl,?_⟩);rw[<- h3,gf,map_append];rfl
open Sx (Blk)
open Bk (Pc gf Brk)
def GP{F:List D->Hd->Option (D×Hd)}{m:MA}{ls:Ls}{hd:Hd}{QE:D->Hd->Prop}(h:WA m ls hd λds rest=>Ap 0 ds=true/\WF F ds [] λd x=>∃k es,d=.mu k/\x[k]?=some (.lst es)/\Ap 0 es=true/\QE (.mu rest.length) (rest++[.lst es])):WE (AC 0 F m) ls hd QE:=by
 obtain⟨ds,rest,e,hc,d,x,e2,k,es,rfl,e3,c3,q⟩:=h;refine⟨_,_,?_,q⟩;have t3:¬ k<0:=by omega
 simp only[AC,e,bind_some,List.take_zero,hc,e2,fin,if_neg t3,e3,c3,if_true];simp
def TW{h l:Nat->Int}{left:List Nat}{B:Blk}{bs:List Blk}(r:Sx.Rows h l left (B::bs)):∃C R b,B=(b,b+Sx.S l C,Sx.cst (left.filter λk=>decide (k∈C)))/\left.Perm (C++R)/\Sx.ChOk h l b C R/\Sx.Rows h l (left.filter λk=>!decide (k∈C)) bs:=by
 cases r with
 |cons pm K r=>exact⟨_,_,_,rfl,pm,K,r⟩
def TV{h l:Nat->Int}{left:List Nat}(r:Sx.Rows h l left []):left=[]:=by cases r;rfl
def ao{x y:Nat}(hx:1<=x)(hy:1<=y):x+y<=x*y+1:=by
 obtain⟨a,rfl⟩:∃a,x=a+1:=⟨x-1,by omega⟩
 obtain⟨b,rfl⟩:∃b,y=b+1:=⟨y-1,by omega⟩
 rw[Nat.add_mul,Nat.mul_add];omega
def bH(m a:Nat):2^m+2^a<=2^(m+a)+1:=by
 rw[Nat.pow_add];exact ao (Nat.pos_of_ne_zero (by simp)) (Nat.pos_of_ne_zero (by simp))
def N7(p:Nat->Bool):∀L:List Nat,(L.filter p).length+(L.filter λx=>!p x).length=L.length
 |[]=>rfl
 |x::r=>by
  have ih:=N7 p r;by_cases h:p x=true
  .rw[filter_cons_of_pos h,filter_cons_of_neg (by simp[h])];simp only[length_cons];omega
  .rw[filter_cons_of_neg h,filter_cons_of_pos (by simpa using h)];simp only[length_cons];omega
def SB{u:Nat}{L:List Nat}(h:u∈L):(L.filter λk=>decide (k≠u)).length<L.length:=by
 induction L with
 |nil=>cases h
 |cons x r ih=>
  by_cases e:x=u
  .subst e;have:=length_filter_le (λk=>decide (k≠x)) r;simp;simpa using Nat.lt_succ_of_le this
  .have h:u∈r:=by rcases mem_cons.mp h with q|q;exact absurd q.symm e;exact q
   have:=ih h;rw[filter_cons_of_pos (by simpa using e)];simp only[length_cons];omega
def LX(k:Nat){α:Type}(f:α->I):∀L:List α,D1 k (L.map λx=>D.im (f x))=L.map λx=>D.im (f x)
 |[]=>rfl
 |x::r=>by simp only[map_cons,D1,shD,LX k f r]
def VA(k:Nat)(L:List Pc):D1 k (L.map pcD)=L.map pcD:=LX k pcI L
def Qa(k:Nat)(L:List (List Nat)):D1 k (L.map Ak)=L.map Ak:=LX k AN L
abbrev chz(cs:Nat->Cost)(W:List (Nat×Nat)):List Nat->Int->Nat->Prop:=λM e u=>u∈B1 (Mc W) M/\(cs u).at e=DH ((B1 (Mc W) M).map λk=>(cs k).at e)
inductive I_brk(ws:List Wg)(cs:Nat->Cost)(W:List (Nat×Nat))(h:Nat->Int)(ks:List Nat)(bs:List Blk)(r:List D)(ls:Ls)(hd:Hd):Prop
 |mk (left:List Nat) (bs':List Blk) (ps:List Pc) (ss:List (List Nat)) (g:Hd) (z5 z6 z7 z8 z9 z10:Option D) (h0:r=bs'.map C7) (h1:ls=[some (.im (AS ws)),some (.im (.tup (W.map AM))),some (.im (AN ks)),some (.mu 0),some (.mu 1),z5,z6,z7,z8,z9,z10]) (h2:hd=.lst (ps.map pcD)::.lst (ss.map Ak)::.lst (bs.map C7)::g)
  (h3:Sx.Rows h (Ag ws) left bs') (h4:left.Sublist ks) (h5:∀pR sR,Brk h (Ag ws) (chz cs W) left pR sR->Brk h (Ag ws) (chz cs W) ks (ps++pR) (ss++sR)) (h6:ps.length+2^left.length<=2^ks.length) (h7:ss.length+left.length<=ks.length):I_brk ws cs W h ks bs r ls hd
section
variable{ws:List Wg}{cs:Nat->Cost}{W:List (Nat×Nat)}{rk:Nat->Nat}{h:Nat->Int}
set_option maxHeartbeats 1000000 in
def Ve(E:Ev ws cs W rk h):∀(n:Nat) {ks:List Nat},ks.length<n->ks.Pairwise (·<·)->(∀k∈ks,k<ws.length)->ks.length<=8->WF (Cb n) [.im (AS ws),.im (.tup (W.map AM)),.im (AN ks)] [] λd x=>∃(ps:List Pc) (ss:List (List Nat)) (g:Hd),d=.tm [.mu 0,.mu 1]/\x=.lst (ps.map pcD)::.lst (ss.map Ak)::g/\Brk h (Ag ws) (chz cs W) ks ps ss/\ps.length+1<=2^ks.length/\ss.length<=ks.length
 |0,ks,h0,_,_,_=>by omega
 |n+1,ks,hn,hs,hk,hl=>by
  have ih:=λ{ks}=>Ve E n (ks:=ks)
  show WF (mkF 3 11 (Gc (Cb n))) _ _ _;refine Aw rfl ?_;refine AD (AZ (BW (CP (AB ⟨DN,A7 ?_⟩))));refine AD (AZ (BW (CP (AB ⟨DN,A7 ?_⟩))));refine AD (CM (Jw (GP (A3 (A2 rfl (A3 (A2 rfl (A3 (A2 rfl (AB ⟨by simp,(br E.ok E.hW E.R E.hrk E.H E.hb hs hk hl).mono ?_⟩))))))))));rintro d x ⟨bs,rfl,rfl,rows⟩;refine⟨0,_,rfl,rfl,NH 0 GB bs,2,_,rfl,rfl,?_⟩;have e8:2^ks.length<=256:=Mj hl;refine BE (I_brk ws cs W h ks bs) ⟨ks,bs,[],[],[],none,none,none,none,none,none,rfl,rfl,rfl,rows,List.Sublist.refl _,λpR sR B=>B,by simp,by simp⟩ ?_ ?_
  .rintro d r ls hd ⟨left,bs',ps,ss,g,z5,z6,z7,z8,z9,z10,er,rfl,rfl,rows',sub,clo,lp,ls'⟩;cases bs' with
   |nil=>cases er
   |cons B bs'=>
    obtain⟨rfl,rfl⟩:=List.cons.inj er;obtain⟨C,R,b,rfl,pm,K,rows2⟩:=TW rows';have nd:left.Nodup:=(hs.sublist sub).imp λq=>by omega
    have mM:∀k,k∈left.filter (λk=>decide (k∈C))↔k∈C:=λk=>by
     rw[mem_filter];exact⟨λz=>by simpa using z.2,λz=>⟨pm.mem_iff.mpr (mem_append_left _ z),by simpa using z⟩⟩
    have ne:left.filter (λk=>decide (k∈C))≠[]:=by
     obtain⟨c,C',e1,_⟩:=K.fst;exact ne_nil_of_mem ((mM c).mpr (by rw[e1];simp))
    have subM:(left.filter λk=>decide (k∈C)).Sublist ks:=filter_sublist.trans sub;have lM:(left.filter λk=>decide (k∈C)).length<=8:=le_trans subM.length_le hl;have S:St ws (left.filter λk=>decide (k∈C)):=⟨ne,λk hk'=>hk k (subM.subset hk'),lM⟩
    have fl:=N7 (λk=>decide (k∈C)) left;refine⟨_,rfl,?_⟩;have eM:((Sx.cst (left.filter λk=>decide (k∈C))).map I.int)=(left.filter λk=>decide (k∈C)).map λk:Nat=>I.int (k:Int):=by simp[Sx.cst]
    dsimp only[set_cons_zero,set_cons_succ];rw[eM];refine AD (AZ (As (A3 (A2 rfl (A3 (A2 rfl (A3 (A2 rfl (A3 (A2 rfl (AB ⟨by simp,(Pw E S _).mono ?_⟩)))))))))));rintro d x ⟨u,rfl,hu,ec⟩;refine⟨_,rfl,A7 ?_⟩;have uM:=(mem_filter.mp hu).1;have flt:=SB uM;have subN:((left.filter λk=>decide (k∈C)).filter λk=>decide (k≠u)).Sublist ks:=filter_sublist.trans subM;refine AD (GM (Hz (A3 (A2 rfl (A3 (A2 rfl (A3 (As (A3 (A2 rfl (A3 (A2 rfl (AB ⟨by simp,(QB _ u lM).mono ?_⟩)))))))))))));rintro d x rfl;refine⟨_,rfl,AB ⟨by simp,(ih (by have:=subM.length_le;omega) (hs.sublist subN) (λk hk'=>hk k (subN.subset hk')) (by omega)).mono ?_⟩⟩;rintro d x ⟨qs,ts,g',rfl,rfl,BN,l1,l2⟩;refine⟨_,rfl,A7 ?_⟩;generalize eH:(MO.lst (ps.map pcD)::MO.lst (ss.map Ak)::MO.lst (bs.map C7)::g)=H;have eh:((MO.lst (qs.map pcD)::MO.lst (ts.map Ak)::g').map (shO H.length))=MO.lst (qs.map pcD)::MO.lst (ts.map Ak)::g'.map (shO H.length):=by
     simp only[map_cons,shO,VA,Qa]
    rw[eh];generalize g'.map (shO H.length)=g2;have p1:2^((left.filter λk=>decide (k∈C)).filter λk=>decide (k≠u)).length*2<=2^(left.filter λk=>decide (k∈C)).length:=by
     rw[<- Nat.pow_succ];exact Nat.pow_le_pow_right (by omega) (by omega)
    have p2:=bH (left.filter λk=>decide (k∈C)).length (left.filter λk=>!decide (k∈C)).length;rw[fl]at p2;have p3:0<2^(left.filter λk=>!decide (k∈C)).length:=Nat.pos_of_ne_zero (by simp);have gl:=N3 (u:=u) (e:=b+Sx.S (Ag ws) C) (qs:=qs) (a:=b);have h00:(H++MO.lst (qs.map pcD)::MO.lst (ts.map Ak)::g2)[0+H.length]?=some (.lst (qs.map pcD)):=by rw[zero_add];exact hg0 _ _ _
    have h01:(H++MO.lst (qs.map pcD)::MO.lst (ts.map Ak)::g2)[1+H.length]?=some (.lst (ts.map Ak)):=by rw[Nat.add_comm];exact hg1 _ _ _ _
    refine AD (Nm rfl (CO (A3 (A2 rfl (A3 (A2 rfl (A3 (A2 rfl (A3 (A2 rfl (AB ((cg (u:=u) h00 (by omega)).mono ?_))))))))))));rintro d x ⟨rfl,rfl⟩;subst eH;refine⟨_,ps.map pcD,_,rfl,rfl,CY _ _,AK (by simp;omega),A7 ?_⟩;generalize eg:(g++MO.lst (qs.map pcD)::MO.lst (ts.map Ak)::g2)++[MO.lst ((gf u b (b+Sx.S (Ag ws) C) qs).map pcD)]=g3;have h02:(MO.lst (ps.map pcD++(gf u b (b+Sx.S (Ag ws) C) qs).map pcD)::MO.lst (ss.map Ak)::MO.lst (bs.map C7)::g3)[1+(MO.lst (ps.map pcD)::MO.lst (ss.map Ak)::MO.lst (bs.map C7)::g).length]?=some (.lst (ts.map Ak)):=by
     rw[<- eg];show([MO.lst (ps.map pcD++(gf u b (b+Sx.S (Ag ws) C) qs).map pcD),MO.lst (ss.map Ak),MO.lst (bs.map C7)]++((g++MO.lst (qs.map pcD)::MO.lst (ts.map Ak)::g2)++[MO.lst ((gf u b (b+Sx.S (Ag ws) C) qs).map pcD)]))[1+(g.length+1+1+1)]?=_;rw[List.getElem?_append_right (by simp;omega),List.getElem?_append_left (by simp;omega)];have:=hg1 g (MO.lst (qs.map pcD)) (MO.lst (ts.map Ak)) g2;rw[<- this];congr 1;simp;omega
    change WS _ _ (MO.lst (ps.map pcD++(gf u b (b+Sx.S (Ag ws) C) qs).map pcD)::MO.lst (ss.map Ak)::MO.lst (bs.map C7)::(g++MO.lst (qs.map pcD)::MO.lst (ts.map Ak)::g2)++[MO.lst ((gf u b (b+Sx.S (Ag ws) C) qs).map pcD)]) _;rw[show(MO.lst (ps.map pcD++(gf u b (b+Sx.S (Ag ws) C) qs).map pcD)::MO.lst (ss.map Ak)::MO.lst (bs.map C7)::(g++MO.lst (qs.map pcD)::MO.lst (ts.map Ak)::g2)++[MO.lst ((gf u b (b+Sx.S (Ag ws) C) qs).map pcD)])=MO.lst (ps.map pcD++(gf u b (b+Sx.S (Ag ws) C) qs).map pcD)::MO.lst (ss.map Ak)::MO.lst (bs.map C7)::g3 by rw[<- eg];rfl];refine Nm rfl (BW (Lw (BW (CP (A3 (A2 rfl (AB ⟨Eb,A2 rfl ⟨_,_,_,_,rfl,rfl,CY _ _,Ef h02 _,AK (by simp;omega),?_⟩⟩)))))));refine⟨_,ss.map Ak,_,rfl,rfl,CY _ _,AK (by simp;omega),?_⟩;refine⟨λp hp=>?_,left.filter (λk=>!decide (k∈C)),bs',ps++gf u b (b+Sx.S (Ag ws) C) qs,ss++((left.filter λk=>decide (k∈C))::ts),(g3++[MO.lst [Ak (left.filter λk=>decide (k∈C))]]++[MO.lst ([Ak (left.filter λk=>decide (k∈C))]++ts.map Ak)]),_,_,_,_,_,_,rfl,rfl,?_,rows2,filter_sublist.trans sub,λpR sR B=>?_,?_,?_⟩
    .rw[mem_singleton]at hp;subst hp;rfl
    .rw[map_append,map_append];rfl
    .have:=clo _ _ (.cons pm K ⟨hu,ec⟩ ((mM u).mp uM) BN B);rw[append_assoc,append_assoc];exact this
    .simp only[length_append];omega
    .simp only[length_append,length_cons];omega
  .rintro ls hd ⟨left,bs',ps,ss,g,z5,z6,z7,z8,z9,z10,er,rfl,rfl,rows',sub,clo,lp,ls'⟩;have:bs'=[]:=by cases bs' with
    |nil=>rfl
    |cons t r=>cases er
   subst this;have:=TV rows';subst this;refine A7 (Ay (Bj (A3 (A2 rfl (A3 (A2 rfl (AB ⟨E2,?_⟩)))))));have B:=clo [] [] .nil;rw[append_nil,append_nil]at B;exact⟨ps,ss,_,rfl,rfl,B,by simpa using lp,by simpa using ls'⟩
end
open Sx (Blk)
open Bk (Pc gf Brk)
def gr(ws:List Wg)(cs:Nat->Cost)(en:Nat->Int):Int:=DI ((List.range ws.length).map λk=>(cs k).at (en k))
def c7{W:List (Nat×Nat)}{en:Nat->Int}(hw:∀p∈W,en p.1<en p.2){x y:Int}(r:Rc (BA W) x y):∀i:Nat,x=i->∃j:Nat,y=j/\en i<en j:=by
 induction r with
 |one h=>
  rintro i rfl;obtain⟨⟨a,b⟩,hp,e⟩:=mem_map.mp h;simp only[Prod.mk.injEq]at e;obtain⟨e1,rfl⟩:=e;have:a=i:=by omega
  subst this;exact⟨b,rfl,hw _ hp⟩
 |step _ h ih=>
  intro i hi;obtain⟨m,rfl,lm⟩:=ih i hi;obtain⟨⟨a,b⟩,hp,e⟩:=mem_map.mp h;simp only[Prod.mk.injEq]at e;obtain⟨e1,rfl⟩:=e;have:a=m:=by omega
  subst this;have l:=hw _ hp;exact⟨b,rfl,Int.lt_trans lm l⟩
section
variable{ws:List Wg}{cs:Nat->Cost}{W:List (Nat×Nat)}{rk:Nat->Nat}{h:Nat->Int}
def Ev.hs(E:Ev ws cs W rk h):Bk.Hs ws.length (B9 ws) (Ag ws) W h where
 pos k _:=D4 ws k
 ins p hp:=E.R.ins p hp
 lo k hk:=E.H.lo k hk
 st p hp:=by have:=E.H.up p hp (E.R.ins p hp).2;rw[FQ E.ok (E.R.ins p hp).1];exact this
 eq k hk:=by
  rcases E.H.eq k hk with e|⟨p,hp,e1,e2⟩
  .exact .inl e
  .exact .inr ⟨p,hp,e1,by rw[FQ E.ok (E.R.ins p hp).1];exact e2⟩
def Ev.hch(E:Ev ws cs W rk h):∀M e u,chz cs W M e u->∀w∈W,w.1=u->w.2∉M:=by
 rintro M e u ⟨hu,_⟩ w hw rfl hM;have h3:=(mem_filter.mp hu).2;rw[Bool.not_eq_true',List.any_eq_false]at h3;refine h3 w.2 hM ?_;have:Rc (BA W) (w.1:Int) (w.2:Int):=.one (mem_map.mpr ⟨w,hw,rfl⟩);simp[Mc,this]
def Ev.bok(E:Ev ws cs W rk h){ks:List Nat}{ps:List Pc}{ss:List (List Nat)}(B:Brk h (Ag ws) (chz cs W) ks ps ss)(nd:ks.Nodup):Bk.Ok h (Ag ws) W (chz cs W) ks ps ss:=B.ok (D4 ws) E.hs.st E.hch nd
def Vf(E:Ev ws cs W rk h){ks:List Nat}(hk:∀k∈ks,k<ws.length):Sx.S (Ag ws) ks=(ks.map (Aq ws)).sum:=by
 unfold Sx.S
 congr 1
 exact map_congr_left λk hk'=>FQ E.ok (hk k hk')
def YZ(E:Ev ws cs W rk h){M:List Nat}{e:Int}(hM:∀k∈M,k<ws.length)(w:Bk.Wd h (Ag ws) M e):e=Cg ws h M:=by
 obtain⟨⟨c,hc,e1⟩,e2⟩:=w;have ms:=D9 (xs:=M.map h) (ne_nil_of_mem (mem_map.mpr ⟨c,hc,rfl⟩));have g1:=ms.2 _ (mem_map.mpr ⟨c,hc,rfl⟩);obtain⟨v,hv,ev⟩:=mem_map.mp ms.1;have g2:=e2 v hv;unfold Cg;rw[Vf E hM]at e1 g2;omega
def cf{en:Nat->Int}{k:Nat}(hk:k<ws.length):(cs k).at (en k)<=gr ws cs en:=
 (CW (xs:=(List.range ws.length).map λk=>(cs k).at (en k)) (ne_nil_of_mem (mem_map.mpr ⟨k,by simpa using hk,rfl⟩))).2 _ (mem_map.mpr ⟨k,by simpa using hk,rfl⟩)
def low(E:Ev ws cs W rk h){left en:Nat->Int}{t:Int}(I:Bk.Inv ws.length (Ag ws) h W left en t)(h0:∀k,k<ws.length->left k=0){ks:List Nat}(S:St ws ks)(nd:ks.Nodup):bnd ws cs h (Mc W) ks<=gr ws cs en:=by
 have ms:=D9 (xs:=ks.map h) (by simpa using S.ne);obtain⟨u,hu,h1,h2⟩:=I.low E.hs h0 S.ne nd S.lt (b:=DH (ks.map h)) λk hk=>ms.2 _ (mem_map.mpr ⟨k,hk,rfl⟩);rw[Vf E S.lt]at h1;have hw:∀p∈W,en p.1<en p.2:=λp hp=>(I.wi p hp (by
  have:=h0 p.2 (E.R.ins p hp).2;have:=D4 ws p.2;omega)).2
 have hlast:u∈B1 (Mc W) ks:=by
  refine mem_filter.mpr ⟨hu,?_⟩;rw[Bool.not_eq_true',List.any_eq_false];intro b hb q;have q:Rc (BA W) u b:=by simpa [Mc]using q
  obtain⟨j,ej,lt⟩:=c7 hw q u rfl;have:b=j:=by omega
  subst this;have:=h2 b hb;omega
 have g1:=(D9 (xs:=(B1 (Mc W) ks).map λk=>(cs k).at (Cg ws h ks)) (ne_nil_of_mem (mem_map.mpr ⟨u,hlast,rfl⟩))).2 _ (mem_map.mpr ⟨u,hlast,rfl⟩);refine Int.le_trans g1 (Int.le_trans (OZ (E.hcs u (S.lt u hu)).2.1 ?_) (cf (S.lt u hu)));exact h1
def Ot(E:Ev ws cs W rk h){ps:List Pc}{ss:List (List Nat)}(B:Brk h (Ag ws) (chz cs W) (List.range ws.length) ps ss):∀s∈ss,St ws s/\s.Nodup:=λs hs=>by
 have O:=E.bok B nodup_range;obtain⟨h1,h2⟩:=O.set s hs;refine⟨⟨h1,λk hk=>by simpa using h2.subset hk,?_⟩,nodup_range.sublist h2⟩;have:=h2.length_le;have:=E.ok.2.1;simp at *;omega
def up(E:Ev ws cs W rk h){ps:List Pc}{ss:List (List Nat)}{s:List Nat}{en:Nat->Int}(B:Brk h (Ag ws) (chz cs W) (List.range ws.length) ps ss)(hb:∀s'∈ss,bnd ws cs h (Mc W) s'<=bnd ws cs h (Mc W) s)(he:∀k,k<ws.length->∃q∈ps,q.1=k/\en k=q.2.2):gr ws cs en<=bnd ws cs h (Mc W) s:=by
 have O:=E.bok B nodup_range;have h0:=E.ok.1;have ms:=(CW (xs:=(List.range ws.length).map λk=>(cs k).at (en k)) (ne_nil_of_mem (mem_map.mpr ⟨0,mem_range.mpr (by omega),rfl⟩))).1;obtain⟨k,hk,ek⟩:=mem_map.mp ms;have hkn:k<ws.length:=by simpa using hk
 obtain⟨M,hM,e,⟨_,hc⟩,hw,hq⟩:=O.cst k hk;have hM':=(Ot E B M hM).1;have ee:=YZ E hM'.lt hw;obtain⟨q,hq1,hq2,hq3⟩:=he k hkn;have h1:=OZ (E.hcs k hkn).2.1 (hq q hq1 hq2);rw[<- hq3,hc]at h1;unfold gr;rw[<- ek];refine Int.le_trans h1 (Int.le_trans ?_ (hb M hM));unfold bnd;rw[ee];exact Int.le_refl _
def aD(E:Ev ws cs W rk h):WF CK [.im (AS ws),.im (.tup (W.map AM))] [] λd x=>∃(ps:List Pc) (ss:List (List Nat)) (s:List Nat),d=.im (.tup [.tup (ps.map pcI),AN s])/\Brk h (Ag ws) (chz cs W) (List.range ws.length) ps ss/\s∈ss/\(∀s'∈ss,bnd ws cs h (Mc W) s'<=bnd ws cs h (Mc W) s)/\ps.length<=256:=by
 have hn:=E.ok.2.1;have h0:=E.ok.1;unfold CK;refine Aw rfl ?_;have rn:B4 (AT 0 ws.length)=.im (AN (List.range ws.length)):=by rw[C3,Fm]
 have rgl:HJ (ws.length:Int):=IK (by omega) (by omega);refine AD (GM (Hz (A3 (A2 rfl (A3 (A2 rfl (A3 (WP.eq (z:=.im (AN (List.range ws.length))) (h:=[]) (by simp[BF,rgl,rn]) (AB ⟨by simp,(Ve E 10 (by simp;omega) List.pairwise_lt_range (by simp) (by simpa using hn)).mono ?_⟩)))))))));rintro d x ⟨ps,ss,g,rfl,rfl,B,l1,l2⟩;refine⟨_,rfl,A7 ?_⟩;rw[nil_append];have eh:((MO.lst (ps.map pcD)::MO.lst (ss.map Ak)::g).map (shO ([]:Hd).length))=MO.lst (ps.map pcD)::MO.lst (ss.map Ak)::g.map (shO ([]:Hd).length):=by
  simp only[map_cons,shO,VA,Qa]
 rw[eh];have O:=E.bok B nodup_range;have sst:=Ot E B;obtain⟨M,hM,_⟩:=O.cst 0 (mem_range.mpr h0);rw[length_range]at l1;have p8:=Mj hn;refine Ay (Bj (A3 (C1 (A3 (A2 rfl (AB (Bl rfl rfl ?_)))))));refine A3 (CO (A3 (A2 rfl (A3 (A2 rfl (A3 (A2 rfl (AB ((Y7 E (ss:=ss) rfl (ne_nil_of_mem hM) (λs hs=>(sst s hs).1)).mono ?_)))))))));rintro d x ⟨s,hs,rfl,hb⟩;refine AB ⟨E2,ps,ss,s,?_,B,hs,hb,by omega⟩;rw[show ps.map pcD=(ps.map pcI).map D.im by simp,BJ];rfl
end
open PySem L2 Bd Hds
open Bk (Pc Brk upd)
abbrev fl(n:Nat)(f:Nat->Int):List D:=intD ((List.range n).map f)
def Lh{n k:Nat}(f:Nat->Int)(hk:k<n):atI (fl n f) (k:Int)=some (.im (.int (f k))):=GC rfl (by simp[intD,hk])
def Vb{n k:Nat}(f:Nat->Int)(hk:k<n):ixN (fl n f).length (k:Int)=some k:=by unfold ixN;simp[intD,hk]
def S7{n k:Nat}(f:Nat->Int)(v:Int):(fl n f).set k (.im (.int v))=fl n (upd f k v):=by
 refine ext_getElem? λi=>?_;rw[List.getElem?_set];by_cases hi:k=i
 .subst hi;by_cases hk:k<n
  .simp[intD,hk,Bk.upd_self]
  .simp[intD,hk]
 .simp only[hi,if_false,intD,List.getElem?_map,map_map];by_cases hi2:i<n
  .simp[hi2,Bk.upd_ne (f:=f) (v:=v) (λz:i=k=>hi z.symm)]
  .simp[hi2]
def Ur{n:Nat}{f g:Nat->Int}(h:∀k,k<n->f k=g k):fl n f=fl n g:=by
 unfold fl
 congr 1
 exact map_congr_left λk hk=>h k (by simpa using hk)
def Y9{ws:List Wg}(ok:GZ ws):(ws.filterMap λw=>some (D.im (.int w.len)))=fl ws.length (Ag ws):=by
 rw[List.filterMap_eq_map'];unfold fl intD;rw[map_map];refine List.ext_getElem (by simp) λi h1 h2=>?_;have hi:i<ws.length:=by simpa using h1
 simp only[List.getElem_map,Function.comp,List.getElem_range];rw[FQ ok hi,<- Lo hi]
def OM(n:Nat):(List.replicate n [D.im (.int 0)]).flatten=fl n λ_=>0:=by
 simp only[intD,map_map,Function.comp_def];rw[show(λ_:Nat=>D.im (.int 0))=Function.const Nat (D.im (.int 0))from rfl,List.map_const,length_range];simp
def QL{ml:MA}{mb:ME}{ls:Ls}{hd:Hd}{QA:List D->Hd->Prop}(h:WA ml ls hd λds x=>WE mb ls x λe y=>∃k,e=.im (.int k)/\(0<=k/\k<=1000)/\BT (ds.length*k.toNat)/\QA (List.replicate k.toNat ds).flatten y):WA (IV ml mb) ls hd QA:=by
 obtain⟨ds,x,e1,d,y,e2,k,rfl,h1,h2,q⟩:=h;exact⟨_,_,by simp only[IV,e1,bind_some,e2,h1,h2,and_self,if_true],q⟩
def lay_ints(ns:List Int):PyData.canLayAll0 (ns.map PyData.int)=true:=by
 induction ns with
 |nil=>rfl
 |cons x r ih=>simp[PyData.canLayAll0,PyData.canLay0]at ih ⊢;try exact ih
def Uu(ns:List Int):PyData.depthAll (ns.map PyData.int)<=1:=by
 induction ns with
 |nil=>simp[PyData.depthAll]
 |cons x r ih=>simp[PyData.depthAll,PyData.depth]at ih ⊢;try omega
def cG{hd:Hd}{n:Nat}{ns:List Int}(e:hd[n]?=some (.lst (intD ns))):pyD hd (.mu n)=some (.list (ns.map PyData.int)):=by simp only[pyD,e,intD,DT,map_some,D2]
def QH{ma:ME}{ml:MA}{ls:Ls}{hd:Hd}{QE:D->Hd->Prop}(h:WE ma ls hd λd x=>WA ml ls x λds y=>∃ns:List Int,ds=intD ns/\pyD y d=some (.list (ns.map PyData.int))/\QE (.im (.bl true)) y):WE (Cd false ma ml) ls hd QE:=by
 obtain⟨d,x,e1,ds,y,e2,ns,rfl,e3,q⟩:=h;refine⟨_,_,?_,q⟩;have c1:(PyData.list (ns.map PyData.int)).canLay0=true:=by rw[PyData.canLay0,lay_ints]
 have c2:min (PyData.list (ns.map PyData.int)).depth (PyData.list (ns.map PyData.int)).depth<=60:=by
  have:=Uu ns;rw[PyData.depth];omega
 simp only[Cd,e1,bind_some,e2,e3];rw[show intD ns=ns.map λi=>D.im (.int i)from rfl,DT,bind_some,D2];unfold G4;rw[if_pos ⟨c1,c1,c2⟩,PySem.SeqAt.eqv_refl _ c1];rfl
def Uh(i:Int):WF GH [.im (.int i)] [] λd x=>d=.im (.bl true):=by
 unfold GH;refine Aw rfl ?_;refine Ay (Np (AJ (Iv (A2 rfl ⟨true,rfl,_,rfl,?_⟩))));rw[if_pos rfl];exact Vn (AJ (Iv (A2 rfl ⟨false,rfl,_,rfl,rfl⟩)))
inductive I_ends(ws:List Wg)(W:List (Nat×Nat))(h:Nat->Int)(ps:List Pc)(r:List D)(ls:Ls)(hd:Hd):Prop
 |mk (pre rest:List Pc) (left en:Nat->Int) (at_:Int) (z6 z7 z8 z9:Option D) (h0:r=rest.map pcD) (h1:ls=[some (.im (AS ws)),some (.im (.tup (W.map AM))),some (.im (.tup (ps.map pcI))),some (.mu 0),some (.mu 1),some (.im (.int at_)),z6,z7,z8,z9]) (h2:hd=[.lst (fl ws.length left),.lst (fl ws.length en)])
  (h3:ps=pre++rest) (h4:Bk.Inv ws.length (Ag ws) h W left en at_) (h5:∀k,k<ws.length->left k=Ag ws k-Bk.tot k pre) (h6:∀k,k<ws.length->(∃q∈pre,q.1=k/\en k=q.2.2)∨∀q∈pre,q.1≠k) (h7:Bk.Row at_ rest):I_ends ws W h ps r ls hd
section
variable{ws:List Wg}{cs:Nat->Cost}{W:List (Nat×Nat)}{rk:Nat->Nat}{h:Nat->Int}
set_option maxHeartbeats 1000000 in
def bV(E:Ev ws cs W rk h){ps:List Pc}{ss:List (List Nat)}(B:Brk h (Ag ws) (chz cs W) (List.range ws.length) ps ss):WF Js [.im (AS ws),.im (.tup (W.map AM)),.im (.tup (ps.map pcI))] [] λd x=>∃(left en:Nat->Int) (t:Int),d=.mu 1/\x=[.lst (fl ws.length left),.lst (fl ws.length en)]/\Bk.Inv ws.length (Ag ws) h W left en t/\(∀k,k<ws.length->left k=0)/\∀k,k<ws.length->∃q∈ps,q.1=k/\en k=q.2.2:=by
 have hn:=E.ok.2.1;have O:=E.bok B nodup_range;have eln:(((ws.map wgI).map D.im).length:Int)=(ws.length:Int):=by simp
 unfold Js;refine Aw rfl ?_;refine AD (BG (GL (Ll (Iv (A2 rfl ⟨true,rfl,_,rfl,(λz=>by cases z),λ_=>Am (A7 ?_)⟩)))));refine AD (AZ (BW (Av (CF (A2 rfl ⟨_,rfl,?_⟩)))));rw[<- Bs];refine⟨AK (by simp;omega),?_⟩;refine Au (λw=>D.im (wgI w)) (λw=>some (.im (.int w.len))) (λ_ ls=>∃x,ls=[some x]) _ (AE _) ?_ ?_
 .rintro w hw ls hls;refine⟨[some (.im (wgI w))],by rcases hls with rfl|⟨_,x,rfl⟩<;>rfl,⟨_,rfl⟩,C9 ⟨rfl,?_⟩⟩;rw[if_pos rfl];exact⟨_,rfl,A8 (A2 rfl (AR (AH rfl (CI _ _) ⟨rfl,rfl⟩)))⟩
 rw[Y9 E.ok];refine A7 ?_;refine AD (AZ (BW (QL (CP (A3 (AR (AB ⟨AK (by simp),?_⟩)))))));refine C1 (A3 (A2 rfl (AB (Bl rfl rfl ⟨_,rfl,by simp;omega,AK (by simp;omega),A7 ?_⟩))));rw[eln,toNat_natCast,OM];refine AD (AZ (AR (A7 ?_)));refine AD (CM (CF (A2 rfl ⟨_,rfl,?_⟩)));rw[show(ps.map pcI).map D.im=ps.map pcD by simp];refine BE (I_ends ws W h ps) ⟨[],ps,Ag ws,λ_=>0,0,none,none,none,none,rfl,rfl,rfl,rfl,Bk.Inv.start (λp hp=>E.R.ins p hp) (λk _=>D4 ws k) (λk _=>rfl),λk _=>by simp[Bk.tot],λk _=>.inr (by simp),O.row 0 (λk hk=>(E.hb k (by simpa using hk)).1)⟩ ?_ ?_
 .rintro d r ls hd ⟨pre,rest,left,en,at_,z6,z7,z8,z9,er,rfl,rfl,eps,I,hleft,hen,row⟩;cases rest with
  |nil=>cases er
  |cons p rest=>
   obtain⟨rfl,rfl⟩:=List.cons.inj er;obtain⟨k,b,e⟩:=p;have hp:(k,b,e)∈ps:=by rw[eps];simp
   have hk:k<ws.length:=by simpa using (O.mem _ hp).1
   have hkb:h k<=b:=(O.mem _ hp).2;have r1:at_<=b:=row.1;have r2:b<e:=row.2.1;have r3:Bk.Row e rest:=row.2.2;have rge:=r3.ge;have hcom:B9 ws k<=b:=Int.le_trans (E.H.lo k hk) hkb;have tots:∀j,j<ws.length->Bk.tot j pre+((if k=j then e-b else 0)+Bk.tot j rest)=Ag ws j:=λj hj=>by
    have:=O.tot j (by simpa using hj);rw[eps,Bk.tot_app,Bk.tot]at this;exact this
   have fst0:∀w∈W,w.2=k->left w.1=0:=λw hw ew=>by
    have wn:=(E.R.ins w hw).1;have hq:∀q∈ps,q.1=w.1->q.2.2<=b:=λq hq eq=>O.wis w hw (by simpa using wn) (by simpa using (E.R.ins w hw).2) q hq _ hp eq ew.symm;have t1:=tots w.1 wn;rw[Bk.tot_none (a:=rest) λq hq' eq=>by
     have:=hq q (by rw[eps];simp[hq']) eq;have:=rge q hq';omega]at t1
    rw[if_neg λz:k=w.1=>by
     have:=hq _ hp z;have:e<=b:=this;omega]at t1
    rw[hleft w.1 wn];omega
   have mk:e-b<=left k:=by
    have t1:=tots k hk;rw[if_pos rfl]at t1;have:=Bk.tot_nn (k:=k) (a:=rest) λq hq=>(rge q hq).2;rw[hleft k hk];omega
   have st:=I.step E.hs hk r1 hcom fst0 (m:=e-b) (by omega) mk;rw[show b+(e-b)=e by omega]at st;refine⟨_,rfl,?_⟩;dsimp only[set_cons_zero,set_cons_succ];refine AD (BG (DE (GL (Ll (Iv (A2 rfl ⟨true,rfl,_,rfl,?_⟩))))));rw[if_neg (by simp)];refine DE (AJ (A8 (C1 (A3 (A2 rfl (AB (Bl rfl rfl (AR (GO ⟨_,rfl,?_⟩)))))))));rw[if_neg (by simp)];refine AJ (YY (AR (Av (CF (A2 rfl ⟨_,rfl,?_⟩)))));refine⟨E1,?_⟩;refine Au (xs:=[(k:Int),b,e]) (λi:Int=>D.im (.int i)) (λ_=>some (.im (.bl true))) (λ_ ls=>∃x,ls=[some x]) _ (AE _) ?_ ?_
   .rintro i _ ls hls;refine⟨[some (.im (.int i))],by rcases hls with rfl|⟨_,x,rfl⟩<;>rfl,⟨_,rfl⟩,C9 ⟨rfl,?_⟩⟩;rw[if_pos rfl];refine⟨_,rfl,As (A3 (A2 rfl (AB ⟨by simp,(Uh i).mono ?_⟩)))⟩;rintro d x rfl;exact⟨_,rfl,rfl,rfl⟩
   refine⟨_,.bl false,[.bl true,.bl true,.bl true],rfl,rfl,rfl,_,rfl,(λz=>by cases z),λ_=>Am (A7 ?_)⟩;refine AD (GM (A2 rfl ⟨_,rfl,A7 ?_⟩));refine AD (BG (DE (GL (AJ (Sj (AR (A2 rfl (Ir ⟨_,rfl,λ_=>?_,λz=>?_⟩))))))))
   rotate_left
   .exact absurd (of_decide_eq_false z) (by omega)
   refine C1 (A3 (A2 rfl (AB (Bl rfl rfl (HH ⟨_,rfl,?_⟩)))));rw[eln,if_neg (by simp;exact hk)];refine DE (AJ (A8 (A2 rfl (A2 rfl (HH ⟨_,rfl,?_⟩)))));rw[if_neg (by simp;exact r1)];refine DE (AJ (A8 (A2 rfl (A2 rfl (Ir ⟨_,rfl,?_⟩)))));rw[if_neg (by simp;exact r2)];refine AJ (A8 (A2 rfl (A8 (A8 (A2 rfl (A2 rfl (AH (by rw[DG,<- Bs]) (DF hk) (AR (AH rfl (FB _ _ _) (HH ⟨_,rfl,(λz=>?_),λ_=>Am (A7 ?_)⟩))))))))))
   .have z:=of_decide_eq_true z;simp[B9,hk]at hcom;dsimp only at z;omega
   refine AD (BG (AJ (Hy (Av (CF (A2 rfl ⟨_,rfl,?_⟩))))));rw[show(W.map AM).map D.im=W.map λp=>D.im (AM p) by simp];have hW:=E.hW;refine⟨AK (by simp;omega),?_⟩;refine Au (λp=>D.im (AM p)) (λ_=>none) (λ_ ls=>∃x y,ls=[some x,some y,some (.im (.int (k:Int))),some (.mu 0),some (.mu 1),some (.im (.int b))]) _ (AE _) ?_ ?_
   .rintro w hw ls hls;have wn:=(E.R.ins w hw).1;refine⟨[some (.im (.int (w.1:Int))),some (.im (.int (w.2:Int))),some (.im (.int (k:Int))),some (.mu 0),some (.mu 1),some (.im (.int b))],by rcases hls with rfl|⟨_,x,y,rfl⟩<;>rfl,⟨_,_,rfl⟩,Lm (AJ (A8 (A2 rfl (A2 rfl (FE ⟨_,rfl,?_⟩)))))⟩;by_cases ew:w.2=k
    .rw[if_pos (by simp[ew])];have f0:=fst0 w hw ew;have lp:=D4 ws w.1;have et:=I.et w.1 wn (by omega);refine DE (AJ (A8 (A8 (A2 rfl (A2 rfl (AH rfl (Lh left wn) (AR (Iu ⟨_,rfl,?_⟩))))))));rw[if_neg (by rw[f0];simp)];refine AJ (A8 (A8 (A2 rfl (A2 rfl (AH rfl (Lh en wn) (A2 rfl (Iu ⟨_,rfl,rfl,?_⟩)))))));rw[if_neg (by simp;omega)]
    .rw[if_neg (by simp;omega)];exact⟨rfl,by rw[if_neg (by simp)]⟩
   have en0:(W.filterMap λ_=>(none:Option D))=intD []:=by simp[intD]
   rw[en0];refine⟨[],rfl,_,rfl,(λz=>by simp at z),λ_=>Am (A7 ?_)⟩;refine AD (FC (A8 (A8 (A2 rfl (A2 rfl (AH rfl (Lh left hk) (A8 (A2 rfl (A2 rfl (GN (GN (A2 rfl (A2 rfl ⟨0,_,k,_,rfl,rfl,rfl,Vb left hk,A7 ?_⟩)))))))))))));rw[S7];refine AD (FC (A2 rfl (A2 rfl (A2 rfl ⟨1,_,k,_,rfl,rfl,rfl,Vb en hk,A7 ?_⟩))));rw[S7];refine AZ (A2 rfl ⟨AE _,pre++[(k,b,e)],rest,_,_,e,_,_,_,_,rfl,rfl,rfl,by rw[eps];simp,st,λj hj=>?_,λj hj=>?_,r3⟩)
   .rw[Bk.tot_app];have:=hleft j hj;by_cases ej:j=k
    .subst ej;rw[Bk.upd_self];simp[Bk.tot];omega
    .rw[Bk.upd_ne ej,this];simp only[Bk.tot];rw[if_neg λz:k=j=>ej z.symm];omega
   .by_cases ej:j=k
    .subst ej;rw[Bk.upd_self];exact .inl ⟨(j,b,e),by simp,rfl,rfl⟩
    .rw[Bk.upd_ne ej];rcases hen j hj with⟨q,hq,z⟩|z
     .exact .inl ⟨q,by simp[hq],z⟩
     .refine .inr λq hq=>?_;rcases mem_append.mp hq with y|y
      .exact z q y
      .rw[mem_singleton]at y;subst y;exact λz=>ej z.symm
 .rintro ls hd ⟨pre,rest,left,en,at_,z6,z7,z8,z9,er,rfl,rfl,eps,I,hleft,hen,row⟩;have:rest=[]:=by cases rest with
   |nil=>rfl
   |cons t r=>cases er
  subst this;rw[append_nil]at eps;subst eps;have l0:∀k,k<ws.length->left k=0:=λk hk=>by
   rw[hleft k hk,O.tot k (by simpa using hk)];omega
  refine A7 (Ay (FF (AJ (QH (A2 rfl (QL (CP (A3 (AR (AB ⟨AK (by simp),?_⟩))))))))));refine C1 (A3 (A2 rfl (AB (Bl rfl rfl ⟨_,rfl,by simp;omega,AK (by simp;omega),?_⟩))));rw[eln,toNat_natCast,OM];refine⟨_,rfl,?_,_,rfl,λ_=>A2 rfl ⟨left,en,at_,rfl,rfl,I,l0,λk hk=>?_⟩,(λz=>by cases z)⟩
  .rw[Ur l0];exact cG rfl
  .rcases hen k hk with z|z
   .exact z
   .have:=O.tot k (by simpa using hk);rw[Bk.tot_none z]at this;have:=D4 ws k;omega
end
def Xw{ns:List Int}(h:ns≠[]):E5 (intD ns)=some (.im (.int (DI ns))):=by unfold E5;rw[DC];simp[h]
section
variable{ws:List Wg}{cs:Nat->Cost}{W:List (Nat×Nat)}{rk:Nat->Nat}{h:Nat->Int}
def dP(E:Ev ws cs W rk h){en:Nat->Int}{hd:Hd}{j:Nat}(e:hd[j]?=some (.lst (fl ws.length en))):WF EE [.im (AS ws),.mu j] hd λd x=>d=.im (.int (gr ws cs en))/\x=hd:=by
 have hn:=E.ok.2.1;have h0:=E.ok.1;unfold EE;refine Aw rfl ?_;have eln:(((ws.map wgI).map D.im).length:Int)=(ws.length:Int):=by simp
 refine Ay (Bv (Av (Hx (A3 (C1 (A3 (A2 rfl (AB (Bl rfl rfl ?_)))))))));rw[eln];refine AB ⟨_,rfl,EF (by omega) (by omega),?_⟩;rw[toNat_natCast,C3];refine⟨AK (by simp[AG];omega),?_⟩;refine Au (λk:Nat=>D.im (.int (k:Int))) (λk=>some (.im (.int ((cs k).at (en k))))) (λ_ ls=>∃x,ls=[some x,some (.im (AS ws)),some (.mu j)]) _ (AE _) ?_ ?_
 .rintro k hk' ls hls;have hkn:k<ws.length:=by simpa using hk'
  refine⟨[some (.im (.int (k:Int))),some (.im (AS ws)),some (.mu j)],by rcases hls with rfl|⟨_,x,rfl⟩<;>rfl,⟨_,rfl⟩,C9 ⟨rfl,?_⟩⟩;rw[if_pos rfl];refine⟨_,rfl,As (A3 (A8 (A8 (A2 rfl (A2 rfl (AH (by rw[DG,<- Bs]) (DF hkn) (AR (AH rfl (HE _ _ _ _) ?_))))))))⟩;rw[LR E.hcs hkn];refine A3 (A8 (A2 rfl (A2 rfl (AH (ds:=fl ws.length en) (by simp[Ad,e]) (Lh en hkn) (AB ⟨by simp,(OU (E.hcs k hkn).2.1 _).mono ?_⟩)))));rintro d x rfl;exact⟨_,rfl,rfl,rfl⟩
 rw[EI];refine⟨_,Xw ?_,rfl,rfl⟩;intro z;have:=congrArg List.length z;rw[length_map,length_range]at this;simp only[length_nil]at this;omega
end
open Bk (Pc Brk)
def Sh:FX [] []=some (.mu 0,[W5]):=by simp[FX,mkF]
def Yi(k:Nat)(l:List Nat):D1 k (l.map D.mu)=l.map λi=>D.mu (i+k):=by
 induction l with
 |nil=>rfl
 |cons x r ih=>simp only[map_cons,D1,shD,ih]
def Yh(k:Nat)(l:List Nat):D1 k (AG l)=AG l:=LX k (λk:Nat=>I.int (k:Int)) l
def cw(H0:Hd)(h5:H0.length=5){hs:List Int}(h4:H0[4]?=some (.lst (intD hs)))(n:Nat)(f:Nat->List Nat):Bh (H0++(RH n f).map (shO 5)) n f hs:=by
 have g:∀p o,(RH n f)[p]?=some o->(H0++(RH n f).map (shO 5))[p+5]?=some (shO 5 o):=by
  intro p o e;rw[List.getElem?_append_right (by omega),h5,Nat.add_sub_cancel,List.getElem?_map,e];rfl
 have t:=Qq n f [];rw[append_nil]at t;refine⟨?_,λi hi=>?_,Ef h4 _⟩
 .rw[g n _ t];show some (MO.lst (D1 5 _))=_;rw[Yi]
 .have r:=GW (f:=f) hi [];rw[append_nil]at r;rw[g i _ r];show some (MO.lst (D1 5 _))=_;rw[Yh]
def QX{n:Nat}{s:List Nat}(h:s.Sublist (List.range (n+1))):s.Sublist (List.range n)∨∃t,s=t++[n]/\t.Sublist (List.range n):=by
 rw[List.range_succ]at h;obtain⟨t,u,e,h1,h2⟩:=List.sublist_append_iff.mp h;rcases List.sublist_cons_iff.mp h2 with q|⟨r,q1,q2⟩
 .have:u=[]:=by simpa using q
  subst this;rw[e,append_nil];exact .inl h1
 .have:r=[]:=by simpa using q2
  subst this;exact .inr ⟨t,by rw[e,q1],h1⟩
def Ik:∀{n:Nat} {s:List Nat},s.Sublist (List.range n)->∃m,m<2^n/\D5 n m=s
 | 0,s,h=>⟨0,by simp,by
  have:s=[]:=by simpa using h
  subst this;rfl⟩
 |n+1,s,h=>by
  have tb:∀m k:Nat,decide (m/2^k%2=1)=m.testBit k:=λm k=>Nat.testBit_eq_decide_div_mod_eq.symm;rcases QX h with q|⟨t,rfl,q⟩
  .obtain⟨m,h1,h2⟩:=Ik q;refine⟨m,by rw[Nat.pow_succ];omega,?_⟩;unfold D5 at h2 ⊢;rw[List.range_succ,filter_append,h2,filter_cons_of_neg (by rw[tb,Nat.testBit_lt_two_pow h1];simp)];simp
  .obtain⟨m,h1,h2⟩:=Ik q;refine⟨2^n+m,by rw[Nat.pow_succ];omega,?_⟩;unfold D5 at h2 ⊢;rw[List.range_succ,filter_append,filter_cons_of_pos (by rw[tb,Nat.testBit_two_pow_add_eq,Nat.testBit_lt_two_pow h1];rfl),<- h2]
   congr 1
   refine List.filter_congr λk hk=>?_;rw[tb,tb,Nat.testBit_two_pow_add_gt (by simpa using hk)]
def SZ{ws:List Wg}{cs:Nat->Cost}{h:Nat->Int}{M M':Nat->Nat->Bool}{ks:List Nat}(e:∀i j,i<ws.length->j<ws.length->M i j=M' i j)(hk:∀k∈ks,k<ws.length):bnd ws cs h M ks=bnd ws cs h M' ks:=by
 have:B1 M ks=B1 M' ks:=by
  refine List.filter_congr λa ha=>?_
  congr 1
  rw[Bool.eq_iff_iff,any_eq_true,any_eq_true];constructor
  .rintro⟨b,hb,q⟩;exact⟨b,hb,by rw[<- e a b (hk a ha) (hk b hb)];exact q⟩
  .rintro⟨b,hb,q⟩;exact⟨b,hb,by rw[e a b (hk a ha) (hk b hb)];exact q⟩
 unfold bnd;rw[this]
def JK:∀(c j:Nat),AT (j:Int) c=AG ((List.range c).map (·+j))
 |0,j=>rfl
 |c+1,j=>by
  rw[AT,show((j:Int)+1)=((j+1:Nat):Int) by omega,JK c,List.range_succ_eq_map];simp only[AG,map_cons,map_map,zero_add]
  congr 1
  refine map_congr_left λx _=>?_;simp only[Function.comp];rw[show x+(j+1)=x+1+j by omega]
inductive Mx(B:Nat->Int):List Nat->D->Prop
 |nil:Mx B [] (.im .non)
 |some {ms:List Nat} {v:Int} (h1:∃m∈ms,v=B m) (h2:∀m∈ms,B m<=v):Mx B ms (.im (.int v))
def Mx.step{B:Nat->Int}{ms:List Nat}{v:Int}{m:Nat}(h1:∃m∈ms,v=B m)(h2:∀m∈ms,B m<=v):Mx B (ms++[m]) (.im (.int (max v (B m)))):=by
 refine .some ?_ λj hj=>?_
 .by_cases q:v<=B m
  .exact⟨m,by simp,by omega⟩
  .obtain⟨k,hk,e⟩:=h1;exact⟨k,by simp[hk],by omega⟩
 .rcases mem_append.mp hj with q|q
  .have:=h2 j q;omega
  .rw[mem_singleton]at q;subst q;omega
inductive I_num(ns:List Int)(ws:List Wg)(W:List (Nat×Nat))(B:Nat->Int)(H:Hd)(r:List D)(ls:Ls)(hd:Hd):Prop
 |mk (dn rest:List Nat) (d6:D) (g:Hd) (z7 z8 z9 z10 z11:Option D) (h0:(List.range (2^ws.length-1)).map (·+1)=dn++rest) (h1:r=AG rest) (h2:ls=[some (.ro ns),some (.mu 1),some (.im (AS ws)),some (.im (.tup (W.map AM))),some (.mu 4),some (.mu (ws.length+5)),some d6,z7,z8,z9,z10,z11]) (h3:hd=H++g) (h4:Mx B dn d6):I_num ns ws W B H r ls hd
def YT{hd:Hd}{s:List Nat}{QE:D->Hd->Prop}(h:s≠[])(q:QE (.im (.bl true)) hd):WP (gNe (.im (AN s)) (.im (.tup [])) hd) QE:=by
 refine⟨_,_,?_,q⟩;have e1:(AN s).py=.tuple ((s.map λk:Nat=>(k:Int)).map PyData.int):=by
  show PyData.tuple (I.pys (s.map λk:Nat=>I.int (k:Int)))=_;rw[<- D2,map_map];rfl
 have c1:(AN s).py.canLay0=true:=by rw[e1,PyData.canLay0,lay_ints]
 have e2:PyData.eqv (AN s).py (.tuple [])=false:=by
  rw[e1];cases s with
  |nil=>exact absurd rfl h
  |cons x r=>simp[PyData.eqv];rfl
 show Eu (E6 true) (G0 true) _ _ _=_;unfold Eu;rw[show E6 true (.im (AN s)) (.im (.tup [])) hd=none from rfl];show G0 true (.im (AN s)) (.im (.tup [])) hd=_;unfold G0;rw[show pyD hd (.im (AN s))=some (AN s).py from rfl,show pyD hd (.im (.tup []))=some (.tuple [])from rfl];show(if(AN s).py.canLay0=true/\(PyData.tuple []).canLay0=true/\min (AN s).py.depth (PyData.tuple []).depth<=60 then some (D.im (.bl (!PyData.eqv (AN s).py (.tuple []))),hd)else none)=_;rw[if_pos ⟨c1,rfl,le_trans (Nat.min_le_right _ _) (by decide)⟩,e2];rfl
def Qb(n m:Nat)(hn:n<=8){ls:Ls}{hd:Hd}{ws:List Wg}(l2:ls[2]?=some (some (.im (AS ws))))(en:ws.length=n)(l7:ls[7]?=some (some (.im (.int (m:Int))))){Q:D->Hd->Prop}(q:Q (Ak (D5 n m)) hd):
 WE (B7 BK (Ab 1 [7] (CH (A1 (mCB (f1 true BF) (A1 (A0 2) A4)) A4)) (AA 0) (A6 (mOp gEq (mOp N6 (mOp N5 (A0 1) (A0 0)) (mC (.int 1))) (mC (.int 1)))) (A0 0))) ls hd Q:=by
 have eln:(((ws.map wgI).map D.im).length:Int)=(n:Int):=by simp[en]
 refine Bv (Av (Hx (A3 (C1 (A3 (A2 l2 (AB (Bl rfl rfl ?_))))))));rw[eln];refine AB ⟨_,rfl,EF (by omega) (by omega),AK (by simp;omega),?_⟩;rw[toNat_natCast,C3];refine Au (λx:Nat=>D.im (.int (x:Int))) (λx=>if m/2^x%2=1 then some (.im (.int (x:Int)))else none) (λ_ ls=>∃x,ls=[some x,some (.im (.int (m:Int)))]) _ (AE _) ?_ ?_
 .rintro x hx ls' hls;refine⟨[some (.im (.int (x:Int))),some (.im (.int (m:Int)))],by rcases hls with rfl|⟨_,x,rfl⟩<;>first|rfl|simp[AA,Cj,l7],⟨_,rfl⟩,?_⟩;refine AJ (A8 (A8 (A8 (A2 rfl (A2 rfl (YR (Int.natCast_nonneg x) ?_))))));refine AR (YV (AR (FE ⟨_,rfl,rfl,?_⟩)));rw[YM];by_cases hb:m/2^x%2=1
  .rw[if_pos (by simp[hb])];exact⟨_,if_pos hb,A2 rfl ⟨rfl,rfl⟩⟩
  .rw[if_neg (λh=>hb (by have:=of_decide_eq_true h;exact_mod_cast this))];exact if_neg hb
 rw[Ja];exact⟨_,rfl,by rw[Fm];exact q⟩
open PySem L2 Bd Hds
open Bk (Pc Brk)
set_option maxHeartbeats 4000000 in
def ce(ns:List Int):WF fV [.ro ns] [] λd x=>d=.im (.bl true):=by
 unfold fV;refine Aw rfl ?_;refine AD (AZ (CO (A3 (A2 rfl (AB ((bF ns).mono ?_))))));rintro d x ⟨rfl,a,b,hT,rfl⟩;refine A7 ?_;have hT:T (3000+300) a b:=tap.le hT (by omega);refine AD (AZ ?_);have ew:∀ls:Ls,AC 0 FX A4 ls [a,b]=some (.mu 2,[a,b,W5]):=λls=>Pz (ds:=[]) (hd1:=[a,b]) rfl rfl Sh rfl rfl;refine tap.callX (n:=3000) (c:=300) hT [W5,V4] (rest:=[]) (as:=[.im (.int 8),.mu 2,.mu 3]) (by simp[ew]) rfl rfl rfl (Vl _) ?_;rintro i a b hT ⟨ws0,rfl,hok0⟩;refine A7 ?_;change WS _ [some (.ro ns),some (.mu 1),some (.im (AS ws0)),none,none,none,none,none,none,none,none,none] [a,b,W5,V4] _;refine AD (AZ ?_);have hT:T (2900+100) a b:=hT;refine tap.call (n:=2900) (c:=100) hT (as:=[.im (.int (ws0.length:Int))]) (rest:=[W5,V4]) (by simp[BF]) rfl (Si _ ws0.length hok0.2.1) ?_;rintro i a b hT ⟨seq,ps,rfl,pm,al,hW⟩;obtain⟨W,rfl,R,hrk⟩:=V5 pm al;simp only[length_map]at hW;have eW:(W.map λp:Nat×Nat=>((p.1:Int),(p.2:Int))).map Lc=W.map AM:=by rw[map_map];rfl
 rw[eW];refine A7 ?_;change WS _ [some (.ro ns),some (.mu 1),some (.im (AS ws0)),some (.im (.tup (W.map AM))),none,none,none,none,none,none,none,none] [a,b,W5,V4] _;refine AD (AZ ?_);have hT:T (2800+2) a b:=tap.le hT (by omega);refine tap.call (n:=2800) (c:=2) hT (as:=[.im (AS ws0)]) (rest:=[W5,V4]) (by simp) (by simp) (cj _ hok0) ?_;rintro i a b hT ⟨ws,rfl,hok,elen⟩;rw[<- elen]at R hrk;have hn:=hok.2.1;have h0:=hok.1;clear pm al eW elen hok0;refine A7 ?_;change WS _ [some (.ro ns),some (.mu 1),some (.im (AS ws)),some (.im (.tup (W.map AM))),none,none,none,none,none,none,none,none] [a,b,W5,V4] _;refine AD (AZ (GP (A3 (A2 rfl (A3 (A2 rfl (AB ⟨by simp,?_⟩)))))));refine(Ue (ws:=ws) (W:=W) (rk:=λk=>seq.idxOf k) (H0:=[]) (gd:=[]) hn hW R hrk rfl (by simp) (by simp) (λr=>by rw[DG,<- Bs]) (λr i ls e=>by rw[OI (is:=W.map AM) (hd':=[]++r) (by simp[e]),VQ]) (λr=>AE _)).mono ?_;rintro d2 x2 ⟨hs,L2,rest2,rfl,hL2,ex2,e4,l2,H2⟩;refine⟨L2,_,rfl,e4,HB _ _,A7 ?_⟩;change WS _ [some (.ro ns),some (.mu 1),some (.im (AS ws)),some (.im (.tup (W.map AM))),some (.mu 4),none,none,none,none,none,none,none] [a,b,W5,V4,.lst (intD hs)] _;have eln:(((ws.map wgI).map D.im).length:Int)=(ws.length:Int):=by simp
 refine AD (AZ (Hz (A3 (C1 (A3 (A2 rfl (AB (Bl rfl rfl ?_))))))));rw[eln];refine A3 (A2 rfl (AB ⟨by simp,(WU hn hW R hrk).mono ?_⟩));rintro d3 x3 ⟨f,rfl,rfl,hf,lf⟩;refine A7 ?_;have B0:Bh ([a,b,W5,V4,.lst (intD hs)]++(RH ws.length f).map (shO 5)) ws.length f hs:=cw [a,b,W5,V4,.lst (intD hs)] rfl rfl ws.length f;change WS _ [some (.ro ns),some (.mu 1),some (.im (AS ws)),some (.im (.tup (W.map AM))),some (.mu 4),some (.mu (ws.length+5)),none,none,none,none,none,none] ([a,b,W5,V4,.lst (intD hs)]++(RH ws.length f).map (shO 5)) _;generalize [a,b,W5,V4,MO.lst (intD hs)]++(RH ws.length f).map (shO 5)=H at B0;obtain⟨cs,hcs⟩:=cr hok;have hb:∀k,k<ws.length->0<=(λk=>hs.getD k 0) k/\(λk=>hs.getD k 0) k<=1000000:=λk hk=>by
  have h1:=H2.lo k hk;have h2:=Ji hok hk;have h3:=H2.bound R (B:=60) (m:=20) (λk hk=>(Ji hok hk).2) (λk hk=>(Rr hok hk).2) (by omega) _ k rfl hk;have h4:=hrk k hk;have h6:(20:Int)*((seq.idxOf k:Nat):Int)<=20*8:=by omega
  try dsimp only at h1 h3 ⊢
  omega
 have E:Ev ws cs W (λk=>seq.idxOf k) (λk=>hs.getD k 0):=⟨hok,hcs,hW,R,hrk,H2,hb⟩
 have hM:∀i j,i<ws.length->j<ws.length->Mf f i j=Mc W i j:=λi j hi hj=>by
  rw[Bool.eq_iff_iff];simp[Mf,Mc,hf i j hi]
 have bw:∀{ks:List Nat},St ws ks->∀g:Hd,WF EK [.im (AS ws),.mu (ws.length+5),.mu 4,.im (AN ks)] (H++g) λd x=>d=.im (.int (bnd ws cs (λk=>hs.getD k 0) (Mc W) ks))/\∃g',x=(H++g)++g':=λ{ks} S g=>by
  have hl:B1 (Mf f) ks≠[]:=by
   have:B1 (Mf f) ks=B1 (Mc W) ks:=by
    refine List.filter_congr λa ha=>?_
    congr 1
    rw[Bool.eq_iff_iff,any_eq_true,any_eq_true];constructor
    .rintro⟨b,hb,q⟩;exact⟨b,hb,by rw[<- hM a b (S.lt a ha) (S.lt b hb)];exact q⟩
    .rintro⟨b,hb,q⟩;exact⟨b,hb,by rw[hM a b (S.lt a ha) (S.lt b hb)];exact q⟩
   rw[this];exact E.lne S.ne
  have:=Uf (B0.app g) hcs l2 S.ne S.lt S.l8 hl
  rwa [SZ hM S.lt]at this
 have p8:=Mj hn;have p1:2<=2^ws.length:=by
  have:2^1<=2^ws.length:=Nat.pow_le_pow_right (by omega) h0;omega
 have hS:∀m,m≠0->m<2^ws.length->St ws (D5 ws.length m)/\(D5 ws.length m).Nodup:=λm hm0 hm1=>by
  have sb:=V1 ws.length m;refine⟨⟨YL hm0 hm1,λk hk=>by simpa using sb.subset hk,?_⟩,nodup_range.sublist sb⟩;have:=sb.length_le;simp at this;omega
 have hms:∀m∈(List.range (2^ws.length-1)).map (·+1),m≠0/\m<2^ws.length:=λm hm=>by
  obtain⟨j,hj,rfl⟩:=mem_map.mp hm;have:j<2^ws.length-1:=by simpa using hj
  exact⟨by omega,by omega⟩
 refine AD (AZ (AR (A7 ?_)));refine AD (CM (Oe (A3 (AR (A3 (A8 (AR (C1 (A3 (A2 rfl (AB (Bl rfl rfl ?_))))))))))));rw[eln];refine YS (po ws.length hn) ?_;rw[Yg];refine AB ⟨_,_,rfl,WH (by omega) (by omega) (by omega) (by omega),?_⟩;rw[show(((2^ws.length:Nat):Int)-1).toNat=2^ws.length-1 by omega,show AT (1:Int) (2^ws.length-1)=AG ((List.range (2^ws.length-1)).map (·+1))from JK _ 1];refine BE (I_num ns ws W (λm=>bnd ws cs (λk=>hs.getD k 0) (Mc W) (D5 ws.length m)) H) ⟨[],_,_,[],none,none,none,none,none,rfl,rfl,rfl,by simp,.nil⟩ ?_ ?_
 .rintro d r ls hd ⟨dn,rest,d6,g,z7,z8,z9,z10,z11,er,er2,rfl,rfl,mx⟩;cases rest with
  |nil=>cases er2
  |cons m rest=>
   obtain⟨rfl,rfl⟩:=List.cons.inj er2;obtain⟨m0,m1⟩:=hms m (by rw[er];simp);obtain⟨S,_⟩:=hS m m0 m1;refine⟨_,rfl,?_⟩;dsimp only[set_cons_zero,set_cons_succ];refine AD (AZ (Qb ws.length m hn rfl rfl rfl (A7 ?_)));refine AD (AZ (CO (A3 (A2 rfl (A3 (A2 rfl (A3 (A2 rfl (A3 (A2 rfl (AB ((bw S g).mono ?_))))))))))));rintro d x ⟨rfl,g',rfl⟩;refine A7 ?_;cases mx with
   |nil=>
    refine AZ (FF (AJ (WP.eq (z:=.im (.bl true)) (h:=H++g++g') (by simp[Fp]) ⟨_,rfl,λ_=>A2 rfl ?_,(λz=>by cases z)⟩)));exact⟨AE _,[m],rest,_,g++g',_,_,_,_,_,by rw[er];simp,rfl,rfl,by simp,.some ⟨m,by simp,rfl⟩ (by simp)⟩
   |@some _ v h1 h2=>
    refine AZ (FF (AJ (WP.eq (z:=.im (.bl false)) (h:=H++g++g') (by simp[Fp]) ⟨_,rfl,(λz=>by cases z),λ_=>C1 (A3 (A2 rfl (A3 (A2 rfl (AB (Ju ?_))))))⟩)));exact⟨AE _,dn++[m],rest,_,g++g',_,_,_,_,_,by rw[er];simp,rfl,rfl,by simp,.step h1 h2⟩
 .rintro ls hd ⟨dn,rest,d6,g,z7,z8,z9,z10,z11,er,er2,rfl,rfl,mx⟩;have:rest=[]:=by cases rest with
   |nil=>rfl
   |cons t r=>cases er2
  subst this;rw[append_nil]at er;subst er;refine A7 ?_;have mne:(1:Nat)∈(List.range (2^ws.length-1)).map (·+1):=mem_map.mpr ⟨0,mem_range.mpr (by omega),rfl⟩;obtain⟨v,rfl,h1,h2⟩:∃v,d6=D.im (.int v)/\(∃m∈(List.range (2^ws.length-1)).map (·+1),v=bnd ws cs (λk=>hs.getD k 0) (Mc W) (D5 ws.length m))/\∀m∈(List.range (2^ws.length-1)).map (·+1),bnd ws cs (λk=>hs.getD k 0) (Mc W) (D5 ws.length m)<=v:=by
   generalize (List.range (2^ws.length-1)).map (·+1)=L at mx mne;cases mx with
   |nil=>cases mne
   |some h1 h2=>exact⟨_,rfl,h1,h2⟩
  refine AD (GM (As (A3 (A2 rfl (A3 (A2 rfl (AB ⟨by simp,(aD E).mono ?_⟩)))))));rintro d x ⟨pl,ss,s,rfl,B,hs',hbs,lpl⟩;refine⟨_,rfl,_,rfl,A7 ?_⟩;dsimp only[set_cons_zero,set_cons_succ];refine AD (AZ (GP (A3 (A2 rfl (A3 (A2 rfl (A3 (A2 rfl (AB ⟨by simp,(bV E B).mono ?_⟩)))))))));rintro d x ⟨left,en,t,rfl,rfl,I,l0,hen⟩;refine⟨1,_,rfl,rfl,HB _ _,A7 ?_⟩;dsimp only[set_cons_zero,set_cons_succ];have sst:=Ot E B s hs';have hup:gr ws cs en<=bnd ws cs (λk=>hs.getD k 0) (Mc W) s:=up E B hbs hen;have hlow:∀ks,St ws ks/\ks.Nodup->bnd ws cs (λk=>hs.getD k 0) (Mc W) ks<=gr ws cs en:=λks hk=>low E I l0 hk.1 hk.2;have O:=E.bok B nodup_range;obtain⟨m,hm,em⟩:=Ik (O.set s hs').2;have m0:m≠0:=λz=>by
   subst z;have:D5 ws.length 0=[]:=by
    unfold D5;rw[List.filter_eq_nil_iff];intro k _;simp
   rw[this]at em;exact sst.1.ne em.symm
  have hv1:bnd ws cs (λk=>hs.getD k 0) (Mc W) s<=v:=by
   have:=h2 m (mem_map.mpr ⟨m-1,mem_range.mpr (by omega),by show m-1+1=m;omega⟩);rw[<- em];exact this
  have hv2:v<=gr ws cs en:=by
   obtain⟨m',hm',e⟩:=h1;rw[e];obtain⟨q0,q1⟩:=hms m' hm';exact hlow _ (hS m' q0 q1)
  have ev:gr ws cs en=v:=by omega
  have es:bnd ws cs (λk=>hs.getD k 0) (Mc W) s=v:=by omega
  refine AD (BG (DE (AJ (WP.eq (z:=.im (.bl false)) (h:=H++g++[.lst (fl ws.length en)]) (by simp[Fp]) ⟨_,rfl,?_⟩))));rw[if_neg (by simp)];refine AJ (A8 (CO (A3 (A2 rfl (A3 (A2 rfl (AB ((dP E (en:=en) (CY _ _)).mono ?_))))))));rintro d x ⟨rfl,rfl⟩;refine A2 rfl (GO ⟨_,rfl,(λz=>by rw[ev]at z;simp at z),λ_=>Am (A7 ?_)⟩);refine Ay (Np (AJ (A8 (A2 rfl (Bj (AB ⟨DN,?_⟩))))));refine YT sst.1.ne ⟨_,rfl,?_⟩;rw[if_pos rfl];rw[append_assoc];refine A8 (CO (A3 (A2 rfl (A3 (A2 rfl (A3 (A2 rfl (A3 (A2 rfl (AB ((bw sst.1 (g++[.lst (fl ws.length en)])).mono ?_)))))))))));rintro d x ⟨rfl,g',rfl⟩;refine A2 rfl (FE ?_);rw[es];simp
def law_eq(ns:List Int):∃hd,fV [.ro ns] []=some (.im (.bl true),hd):=by
 obtain⟨d,x,e,rfl⟩:=ce ns;exact⟨x,e⟩
open PySem L2 PySem.W PyProof.Rows
abbrev xS:Xs:=[("stretches_of",((("stretches_of":Str)++".<locals>.")++"<lambda>"),15,33),("cheapest_last",((("cheapest_last":Str)++".<locals>.")++"<lambda>"),91,56),("greatest_bound",((("greatest_bound":Str)++".<locals>.")++"<lambda>"),114,25)]
def all_mk{l:PySem.W.OpenLaw}{w:World}{K:PySem.W.Frag}{h:Heap}{mg:Str->Option Value}{fa:Addr}{c P:Str->Addr}(X:K.In h)(G:h.Ns mainGlobals mg)(hfa:mg "law"=some (.ref fa))(hx:HX xS mg h c P)(F:Q4 K):HG l w K xS mg c P fa Ps:=by
 obtain⟨Z,h0,h1,h2,h4,h5,h6,h7,h8,h10,h11,h12,h13,h14,h16,h17,h18,h19,h20,h21,h22,h23,h24,h25,h26,h27,h28,h29,h30,h31,h32,p3,p9,p15,h3,h9,h15,tn⟩:=F;have B:=(zsE Z).blt X G;have nd:((CS (BU K (tbs xS P))).map (·.1)).Nodup:=cS (ps:=[p3,p9,p15]) (by show [P "stretches_of",P "cheapest_last",P "greatest_bound"]=_;rw[((flE (e:=Ch) h3).code X G hx (.head _)).1,((flE (e:=CJ) h9).code X G hx (.tail _ (.head _))).1,((flE (e:=C6) h15).code X G hx (.tail _ (.tail _ (.head _)))).1]) tn;refine Uk X G hfa hx (feE h0) bd1 rfl λbase hd bl=>?_;obtain⟨o_raised,o_heads,o_stretches_of,o_steps_at,o_cost_at,o_later_due,o_moved_cost,o_reached,o_behind,o_last_ones,o_length_of,o_bound_of,o_cheapest_last,o_without,o_gaps_filled,o_broken_off,o_greatest_bound,o_greatest_plan,o_feed,o_next,o_words,o_cost,o_works,o_far_works,o_wishes,o_costs,o_lheads,o_reach,o_bound,o_is_int,o_ends,o_greatest,o_law⟩:=oks (E:=enM l w K xS P mg base) B;have g1:=o_raised ((feE h1).dn X G hx bd4 l w base);have g2:=o_heads ((feE h2).dn X G hx bd2 l w base) g1;have g3:=o_stretches_of ((flE h3).dl X G hx bd3 (.head _) l w hd bl nd rfl) g2;have g4:=o_steps_at ((feE h4).dn X G hx bd2 l w base)
 have g5:=o_cost_at ((feE h5).dn X G hx bd2 l w base) g4;have g6:=o_reached ((feE h6).dn X G hx bd2 l w base);have g7:=o_behind ((feE h7).dn X G hx bd3 l w base) g6;have g8:=o_last_ones ((feE h8).dn X G hx bd3 l w base) g7;have g9:=o_cheapest_last ((flE h9).dl X G hx bd4 (.tail _ (.head _)) l w hd bl nd rfl) g5 g8;have g10:=o_without ((feE h10).dn X G hx bd2 l w base);have g11:=o_gaps_filled ((feE h11).dn X G hx bd4 l w base);have g12:=o_broken_off ((feE h12).dn X G hx bd3 l w base) g3 g9 g10 g11;have g13:=o_length_of ((feE h13).dn X G hx bd2 l w base);have g14:=o_bound_of ((feE h14).dn X G hx bd3 l w base) g2 g5 g8 g13;have g15:=o_greatest_bound ((flE h15).dl X G hx bd3 (.tail _ (.tail _ (.head _))) l w hd bl nd rfl) g14;have g16:=o_greatest_plan ((feE h16).dn X G hx bd2 l w base) g12 g15;have g17:=o_feed ((feE h17).dn X G hx bd1 l w base);have g18:=o_words ((feE h18).dn X G hx bd0 l w base);have g19:=o_next ((feE h19).dn X G hx bd2 l w base);have g20:=o_cost ((feE h20).dn X G hx bd2 l w base) g19;have g21:=o_works ((feE h21).dn X G hx bd4 l w base) g19 g20;have g22:=o_later_due ((feE h22).dn X G hx bd2 l w base);have g23:=o_moved_cost ((feE h23).dn X G hx bd2 l w base) g22;have g24:=o_far_works ((feE h24).dn X G hx bd2 l w base) g23 g19;have g25:=o_wishes ((feE h25).dn X G hx bd2 l w base) g19;have g26:=o_lheads ((feE h26).dn X G hx bd2 l w base);have g27:=o_reach ((feE h27).dn X G hx bd2 l w base);have g28:=o_costs ((feE h28).dn X G hx bd2 l w base);have g29:=o_bound ((feE h29).dn X G hx bd4 l w base) g28;have g30:=o_is_int ((feE h30).dn X G hx bd1 l w base);have g31:=o_ends ((feE h31).dn X G hx bd3 l w base) g30;have g32:=o_greatest ((feE h32).dn X G hx bd2 l w base) g28;exact o_law ((feE h0).dn X G hx bd1 l w base) g16 g17 g18 g21 g24 g25 g26 g27 g29 g31 g32
end T25
theorem PySem.Challenge.cw_benchdays_k25_whole_plans_meet_sets_holds : PySem.Challenge.rw_benchdays_k25_whole_plans_meet_sets.Holds := by
 refine T25.early λK F d hd hdf=>L2.walkL T25.xS (l:=PySem.Challenge.rw_benchdays_k25_whole_plans_meet_sets) (n:=63) (k:=18) (F:=T25.fV) rfl (by decide) hdf ⟨rfl,by decide,by decide,rfl⟩ (by intro x hx;simp only[T25.xS,mem_cons,List.not_mem_nil,or_false]at hx;rcases hx with rfl|rfl|rfl<;>exact⟨_,rfl⟩) T25.law_eq (λw h Y=>Y) λw mg fa h c P X G hmg hx=>?_;rw[hd]at hmg;exact T25.all_mk X G hmg hx (F w)
