import PyProof.Rows.All
import Wide.All
import OpenK.AllK
import Wide.FinOn
import Lean
import PyProof.EqAt
import PyProof.EqKinds
import PyProof.TupleCall
import KE.KSortKey
import PyProof.ListMulRoad
import PyProof.Draws
import PyProof.EnumMake
import PyProof.ListNew
import KE.KRevIter
import KE.KMinKey
import PySem.Challenge.RW_benchdays_k40_late_orders
set_option Elab.async false
set_option linter.all false
set_option maxRecDepth 100000
noncomputable section
set_option hygiene false in
local macro_rules | `(tactic| and_intros) => `(tactic| intro ρ σ H hd ls Q d hd' hR hL hm hQ)
open List(mem_cons mem_filter filterMap_cons mem_cons_self mem_cons_of_mem mem_append mem_append_left mem_append_right size_toArray append_nil nodup_cons of_mem_zip length_take mem_of_getElem? length_append length_map any_cons replicate_succ flatten_cons append_assoc nil_append map_nil map_cons find?_cons length_cons length_nil lookup_cons lookup_append mem_map all_eq_true take_of_length_le mem_singleton mem_iff_getElem? cons_append nodup_append map_map zipIdx_cons not_mem_nil length_eq_zero_iff mergeSort_perm pairwise_mergeSort ext_getElem? map_snd_zip map_congr_left pairwise_map set_cons_succ set_cons_zero map_id nodup_range filter_cons sum_cons map_append range_succ ext_getElem sum_append sum_nil)
open Option(isSome_iff_exists none_or map_some bind_some)
open Nat(lt_of_lt_of_le lt_irrefl ne_of_lt le_trans le_of_lt ne_of_gt le_refl lt_trans zero_le lt_succ_of_lt le_succ lt_succ_self le_add_right zero_add min_self)
open Int(toNat_natCast le_antisymm)
def cu{α β:Type _}{o:Option α}{f:α->Option β}{b:β}(h:o.bind f=some b):∃a,o=some a/\f a=some b:=Option.bind_eq_some_iff.mp h
def cv{α β:Type _}{o:Option α}{f:α->β}{b:β}(h:o.map f=some b):∃a,o=some a/\f a=b:=Option.map_eq_some_iff.mp h
set_option compiler.extract_closed false
local macro_rules | `(tactic| omega) => `(tactic| first | lia | omega (config := {}))
namespace Ea
open PySem PySem.W
def dA(s:Stmt):Arguments:=match s with
 |.FunctionDef _ a _ _ _ _ _ _ _ _=>a
 |_=>{ posonlyargs:=[],args:=[],vararg:=none,kwonlyargs:=[],kw_defaults:=[],kwarg:=none,defaults:=[] }
def dB(s:Stmt):List Stmt:=match s with
 |.FunctionDef _ _ b _ _ _ _ _ _ _=>b
 |_=>[]
def dS(s:Stmt):Scope:=match s with
 |.FunctionDef _ _ _ _ _ _ sc _ _ _=>sc
 |_=>{ kind:=.function,names:=[],isGenerator:=false,isCoroutine:=false }
def tO(o:Obj):Option Addr:=match o.data with
 | .fields vs=>(match (vs[11]?:Option Value)with
  |some (Value.ref P)=>some P
  | _=>none)
 |_=>none
def At(K:Frag)(n:Str)(s:Stmt)(f:Addr)(cd:Value):Prop:=∃oc kV dc pm ct od an sl,nsIn K mainGlobals n=some (some (.ref f))/\K.lookup f=some ⟨oc,od,.func (fnOf n n (dA s) (dB s) (dS s) .none kV dc pm an cd ct),sl⟩/\codeIn K cd n=true/\keepIn K (.ref f)=true
def Fe(K:Frag)(n:Str)(s:Stmt):Prop:=∃f cd,At K n s f cd
def Fl(K:Frag)(n:Str)(s:Stmt)(p:Addr):Prop:=∃f ca ob,At K n s f (.ref ca)/\K.lookup ca=some ob/\tO ob=some p
section
variable{K:Frag}{n:Str}{s:Stmt}{f ca p:Addr}{oc kV dc pm cd ct:Value}{od an:Option Addr}{sl:Array (Option Value)}{ob:Obj}
def feI(a:nsIn K mainGlobals n=some (some (.ref f)))(l:K.lookup f=some ⟨oc,od,.func (fnOf n n (dA s) (dB s) (dS s) .none kV dc pm an cd ct),sl⟩)(c:codeIn K cd n=true)(k:keepIn K (.ref f)=true):Fe K n s:=⟨f,cd,_,_,_,_,_,_,_,_,a,l,c,k⟩
def flI(a:nsIn K mainGlobals n=some (some (.ref f)))(l:K.lookup f=some ⟨oc,od,.func (fnOf n n (dA s) (dB s) (dS s) .none kV dc pm an cd ct),sl⟩)(c:codeIn K cd n=true)(k:keepIn K (.ref f)=true)(u:cd=.ref ca)(t:K.lookup ca=some ob)(v:tO ob=some p):Fl K n s p:=by
 subst u;exact⟨f,ca,ob,⟨_,_,_,_,_,_,_,_,a,l,c,k⟩,t,v⟩
end
abbrev ZJ:List Str:=["list","tuple","len","range","repr","sum","min","max","abs","all","any","sorted","zip","isinstance","int","bool","str","set","enumerate","reversed","dict"]
def Zs(K:Frag):Prop:=∀n∈ZJ,nsIn K mainGlobals n=some none
def Zg(K:Frag)(l:List Str):Prop:=∀n∈l,nsIn K mainGlobals n=some none
def zs0{K:Frag}:Zg K []:=λ_ h=>nomatch h
def zs1{K:Frag}{n:Str}{l:List Str}(h:nsIn K mainGlobals n=some none)(r:Zg K l):Zg K (n::l):=λm hm=>by
 rcases mem_cons.mp hm with rfl|hm
 .exact h
 .exact r m hm
end Ea
namespace T40
open PySem PySem.W PyProof.Rows Ea
def top(i:Nat):Stmt:=PySem.Challenge.pw_benchdays_k40_late_orders.main.body.getD i (.Pass ⟨0,0,0,0⟩)
def vw:PySem.Program:={ PySem.Challenge.pw_benchdays_k40_late_orders with main:={ PySem.Challenge.pw_benchdays_k40_late_orders.main with body:=[1,2,3,5,6,8,9,11,12,13,14,16,17,18,19,20,21,22,23,24,25,27,28,29,31,33,34,36,38,39,41,42,43,44,45,46,47,48,49,50,51,52,53,54,55].map top } }
def PD(K:Frag):Prop:=Zs K/\Fe K "law" (top 55)/\Fe K "same_coming" (top 11)/\Fe K "one_coming" (top 12)/\Fe K "refuse_other_costs" (top 13)/\Fe K "late_coming" (top 16)/\Fe K "weight_of" (top 14)/\Fe K "full_weight" (top 18)/\Fe K "greatest_weight" (top 21)/\Fe K "is_number" (top 5)/\Fe K "is_tuple_of" (top 6)/\Fe K "look_at_shape" (top 22)/\Fe K "no_more" (top 19)/\Fe K "put_behind" (top 20)/\Fe K "look_at_row" (top 23)/\Fe K "look_at_places" (top 24)/\Fe K "lets_table" (top 25)/\Fe K "next_row" (top 27)/\Fe K "table_of" (top 28)/\Fe K "in_time" (top 29)/\Fe K "late_order" (top 31)/\Fe K "is_order" (top 33)/\Fe K "run" (top 34)/\Fe K "ends_of" (top 36)/\Fe K "steps_at" (top 8)/\Fe K "cost_at" (top 9)/\Fe K "costs_of" (top 38)/\Fe K "worth" (top 39)/\Fe K "_law_source" (top 41)/\Fe K "_law_pick" (top 42)/\Fe K "_law_late_works" (top 43)/\Fe K "_law_far" (top 44)/\Fe K "_law_by_dues" (top 45)/\Fe K "_law_sets" (top 46)/\Fe K "_law_is_entry" (top 48)/\Fe K "_law_shape" (top 49)/\Fe K "_law_highest" (top 47)/\Fe K "_law_places" (top 50)/\Fe K "_law_last" (top 51)/\Fe K "_law_late_weight" (top 52)/\Fe K "_law_run_ends" (top 53)/\Fe K "_law_is_line" (top 54)/\∃p11,Fl K "by_dues" (top 17) p11/\([p11]:List Addr).Nodup
def ao{K:Frag}{p11:Addr}(z:Zs K)(h0:Fe K "law" (top 55))(h1:Fe K "same_coming" (top 11))(h2:Fe K "one_coming" (top 12))(h3:Fe K "refuse_other_costs" (top 13))(h4:Fe K "late_coming" (top 16))(h5:Fe K "weight_of" (top 14))(h6:Fe K "full_weight" (top 18))(h7:Fe K "greatest_weight" (top 21))(h8:Fe K "is_number" (top 5))(h9:Fe K "is_tuple_of" (top 6))(h10:Fe K "look_at_shape" (top 22))(h12:Fe K "no_more" (top 19))(h13:Fe K "put_behind" (top 20))(h14:Fe K "look_at_row" (top 23))(h15:Fe K "look_at_places" (top 24))(h16:Fe K "lets_table" (top 25))(h17:Fe K "next_row" (top 27))(h18:Fe K "table_of" (top 28))(h19:Fe K "in_time" (top 29))(h20:Fe K "late_order" (top 31))(h21:Fe K "is_order" (top 33))(h22:Fe K "run" (top 34))(h23:Fe K "ends_of" (top 36))(h24:Fe K "steps_at" (top 8))(h25:Fe K "cost_at" (top 9))(h26:Fe K "costs_of" (top 38))(h27:Fe K "worth" (top 39))(h28:Fe K "_law_source" (top 41))(h29:Fe K "_law_pick" (top 42))(h30:Fe K "_law_late_works" (top 43))(h31:Fe K "_law_far" (top 44))(h32:Fe K "_law_by_dues" (top 45))(h33:Fe K "_law_sets" (top 46))(h34:Fe K "_law_is_entry" (top 48))(h35:Fe K "_law_shape" (top 49))(h36:Fe K "_law_highest" (top 47))(h37:Fe K "_law_places" (top 50))(h38:Fe K "_law_last" (top 51))(h39:Fe K "_law_late_weight" (top 52))(h40:Fe K "_law_run_ends" (top 53))(h41:Fe K "_law_is_line" (top 54))(h11:Fl K "by_dues" (top 17) p11)(tn:([p11]:List Addr).Nodup):PD K:=⟨z,h0,h1,h2,h3,h4,h5,h6,h7,h8,h9,h10,h12,h13,h14,h15,h16,h17,h18,h19,h20,h21,h22,h23,h24,h25,h26,h27,h28,h29,h30,h31,h32,h33,h34,h35,h36,h37,h38,h39,h40,h41,_,h11,tn⟩
local macro_rules | `(tactic| o_head $H) => `(tactic| (refine holds_open (r := PySem.Challenge.rw_benchdays_k40_late_orders.row) (q := T40.vw) (loose := []) (Xt := λ s => xlAt T40.vw [] s && recOk (RowW.records (OpenRow.toRowW PySem.Challenge.rw_benchdays_k40_late_orders.row)) s) (XP := XL T40.vw []) (Yf := Hook.obs $H) (Ya := Hook.val $H) (YP := Hook.says $H) (N := 100000) ?hl (Hook.of $H) (Hook.keeps $H) (λ s e => xl_of s (Bool.and_eq_true_iff.mp e).1) XL.keeps (by rfl) (by rfl) (by rfl) (λ s e => recFacts_of (Bool.and_eq_true_iff.mp e).2) (by rfl) (by first | assumption | decide +kernel) (by decide +kernel) ⟨rfl, rfl, rfl, rfl, rfl, by decide +kernel⟩ ?hw ?hc; (case hl => exact λ w => by kernel_rfl)))
set_option maxRecDepth 100000 in
set_option maxHeartbeats 0 in
def early(hG:∀(K:Params->Frag),(∀w:World,PD (K w.params))->∀d:DefRec,d.name="law"->d.params.defaults=[]->WalkO T40.vw [] (XL T40.vw []) (λw h=>(K w.params).In h) PySem.Challenge.rw_benchdays_k40_late_orders.row.toRowW d [] (λf vs=>PySem.call f vs)):PySem.Challenge.rw_benchdays_k40_late_orders.Holds:=by
 w_on;o_law;k_head;(case hw=>w_witness2)
 k_fill
 refine λw s₀ s₁ mg mb G Y=>hG _ ?F _ rfl rfl w s₀ s₁ mg mb G (km_in_of Y)
 case F=>
  intro w;refine' ao ?z ?h0 ?h1 ?h2 ?h3 ?h4 ?h5 ?h6 ?h7 ?h8 ?h9 ?h10 ?h12 ?h13 ?h14 ?h15 ?h16 ?h17 ?h18 ?h19 ?h20 ?h21 ?h22 ?h23 ?h24 ?h25 ?h26 ?h27 ?h28 ?h29 ?h30 ?h31 ?h32 ?h33 ?h34 ?h35 ?h36 ?h37 ?h38 ?h39 ?h40 ?h41 ?h11 ?tn
  case z=>(refine' zs1 _ (zs1 _ (zs1 _ (zs1 _ (zs1 _ (zs1 _ (zs1 _ (zs1 _ (zs1 _ (zs1 _ (zs1 _ (zs1 _ (zs1 _ (zs1 _ (zs1 _ (zs1 _ (zs1 _ (zs1 _ (zs1 _ (zs1 _ (zs1 _ (zs0)))))))))))))))))))))<;>k_is)
  case h0|h1|h2|h3|h4|h5|h6|h7|h8|h9|h10|h12|h13|h14|h15|h16|h17|h18|h19|h20|h21|h22|h23|h24|h25|h26|h27|h28|h29|h30|h31|h32|h33|h34|h35|h36|h37|h38|h39|h40|h41=>(refine' feI ?a ?l ?c ?k;case a|l|c|k=>k_is)
  case h11=>(refine' flI ?a ?l ?c ?k ?u ?t ?v;(case a|l|c|k=>k_is);(case u=>rfl);(case t=>k_is);(case v=>rfl))
  case tn=>decide
end T40
namespace L2
open PySem PySem.Spec PyProof.Rows
abbrev Key:=Sum Int Str
def HU:Key->Value->Bool
 |.inl k,v=>Value.isInt k v
 |.inr x,v=>Value.isStrOf x v
def al(w:World):Key->Int
 |.inl k=>hashInt k
 |.inr x=>hashStr w x
def BL:∀{k:Key} {v:Value},HU k v=true->(∃i t,k=Sum.inl i/\v=Value.int i t)∨(∃x t,k=Sum.inr x/\v=Value.str x t)
 |.inl i,v,h=>by
  obtain⟨t,e⟩:=Value.isInt_shape (k:=i) (v:=v) h;exact .inl ⟨i,t,rfl,e⟩
 |.inr x,v,h=>by
  obtain⟨t,e⟩:=Value.isStrOf_shape (x:=x) (v:=v) h;exact .inr ⟨x,t,rfl,e⟩
def QU(i:Int)(t:Tok):HU (.inl i) (.int i t)=true:=by simp[HU,Value.isInt]
def QQ(x:Str)(t:Tok):HU (.inr x) (.str x t)=true:=by simp[HU,Value.isStrOf]
def Yx(a b:Int):decide ((Sum.inl a:Key)=Sum.inl b)=(a==b):=by
 by_cases e:a=b
 .subst e;simp
 .have h:¬ (Sum.inl a:Key)=Sum.inl b:=λq=>e (Sum.inl.inj q);rw[decide_eq_false h];exact(beq_eq_false_iff_ne.mpr e).symm
def Yu(a b:Str):decide ((Sum.inr a:Key)=Sum.inr b)=decide (a=b):=by
 by_cases e:a=b
 .subst e;simp
 .have h:¬ (Sum.inr a:Key)=Sum.inr b:=λq=>e (Sum.inr.inj q);rw[decide_eq_false h,decide_eq_false e]
def Yw(a:Int)(b:Str):decide ((Sum.inl a:Key)=Sum.inr b)=false:=decide_eq_false (λq=>nomatch q)
def Yv(a:Str)(b:Int):decide ((Sum.inr a:Key)=Sum.inl b)=false:=decide_eq_false (λq=>nomatch q)
def BD(prog:Program)(w:World):PySem.KeyKind prog w Key where
 is:=HU
 hash:=al w
 inj:=λv a b ha hb=>by
  rcases BL ha with⟨i,t,rfl,rfl⟩|⟨x,t,rfl,rfl⟩
  .rcases BL hb with⟨j,u,rfl,e⟩|⟨y,u,rfl,e⟩
   .injection e with e1 _;rw[e1]
   .exact nomatch e
  .rcases BL hb with⟨j,u,rfl,e⟩|⟨y,u,rfl,e⟩
   .exact nomatch e
   .injection e with e1 _;rw[e1]
 byValue:=λk v h=>by
  rcases BL h with⟨i,t,rfl,rfl⟩|⟨x,t,rfl,rfl⟩<;>rfl
 pyHash:=λhv h=>by
  rcases BL hv with⟨i,t,rfl,rfl⟩|⟨x,t,rfl,rfl⟩
  .exact wpAny_pyHash_int h
  .exact wpAny_pyHash_str h
 eqBool:=λhu hv h=>by
  rcases BL hu with⟨i,t,rfl,rfl⟩|⟨x,t,rfl,rfl⟩
  .rcases BL hv with⟨j,u,rfl,rfl⟩|⟨y,u,rfl,rfl⟩
   .rw[Yx]at h;exact wpAny_eqBool_int h
   .rw[Yw]at h;exact SeqAt.EqAt.int_str i t y u _ _ _ _ h
  .rcases BL hv with⟨j,u,rfl,rfl⟩|⟨y,u,rfl,rfl⟩
   .rw[Yv]at h;exact SeqAt.EqAt.str_int x t j u _ _ _ _ h
   .rw[Yu]at h;exact wpAny_eqBool_str h
 «strs»:=λk x t v h=>by
  rcases BL h with⟨i,u,rfl,e⟩|⟨y,u,rfl,e⟩
  .exact nomatch e
  .injection e with e1 _
   subst e1;cases v<;>rfl
def Mw(prog:Program)(w:World)(i:Int)(t:Tok):(BD prog w).is (.inl i) (.int i t)=true:=QU i t
def Mv(prog:Program)(w:World)(x:Str)(t:Tok):(BD prog w).is (.inr x) (.str x t)=true:=QQ x t
inductive V where
 |non|bl (b:Bool)|int (i:Int)|str (x:Str)|byt (b:Array UInt8)|flt (b:UInt64)|ref (a:Addr)|ty (n:String)
 deriving DecidableEq
def RelV:V->Value->Prop
 |.non,u=>u=Value.none
 |.bl b,u=>u=Value.bool b
 |.int i,u=>∃t,u=Value.int i t
 |.str x,u=>∃t,u=Value.str x t
 |.byt b,u=>∃t,u=Value.bytes b t
 |.flt b,u=>∃t,u=Value.float b t
 |.ref a,u=>u=Value.ref a
 |.ty n,u=>u=Value.type n
abbrev Vals:List V->List Value->Prop:=Paired RelV
def Vals.length{xs:List V}{us:List Value}(r:Vals xs us):xs.length=us.length:=Paired.length r
def Vals.get:∀{xs:List V} {us:List Value} {i:Nat} {x:V},Vals xs us->xs[i]?=some x->∃u,us[i]?=some u/\RelV x u
 |_,_,_,_,.nil,e=>by simp at e
 |_,_,0,_,.cons r _,e=>by simp at e;subst e;exact⟨_,rfl,r⟩
 |_,_,i+1,x,.cons _ t,e=>by
  obtain⟨u,h1,h2⟩:=Vals.get (i:=i) (x:=x) t (by simpa using e);exact⟨u,by simpa using h1,h2⟩
def Vals.set{x:V}{u:Value}(r:RelV x u):∀{xs:List V} {us:List Value} (i:Nat),Vals xs us->Vals (xs.set i x) (us.set i u)
 |_,_,_,.nil=>.nil
 |_,_,0,.cons _ t=>.cons r t
 |_,_,i+1,.cons q t=>.cons q (Vals.set r i t)
def Vals.append:∀{xs ys:List V} {us ws:List Value},Vals xs us->Vals ys ws->Vals (xs++ys) (us++ws)
 |_,_,_,_,.nil,s=>s
 |_,_,_,_,.cons r t,s=>.cons r (Vals.append t s)
def Vals.take:∀{xs:List V} {us:List Value} (n:Nat),Vals xs us->Vals (xs.take n) (us.take n)
 |_,_,0,_=>.nil
 |_,_,_+1,.nil=>.nil
 |_,_,n+1,.cons r t=>.cons r (Vals.take n t)
def Vals.drop:∀{xs:List V} {us:List Value} (n:Nat),Vals xs us->Vals (xs.drop n) (us.drop n)
 |_,_,0,r=>r
 |_,_,_+1,.nil=>.nil
 |_,_,n+1,.cons _ t=>Vals.drop n t
def RelO:Option V->Option Value->Prop
 |some v,some u=>RelV v u
 |none,none=>True
 |_,_=>False
def KV{κ:Type}:List (κ×V)->List (κ×Value)->Prop:=Paired λ(p:κ×V) (q:κ×Value)=>p.1=q.1/\RelV p.2 q.2
def kV:Key->V
 |.inl i=>.int i
 |.inr x=>.str x
inductive HO where
 /-- a list -/
 |lst (xs:List V)
 /-- a tuple (never changes) -/
 |tup (xs:List V)
 /-- a dict whose keys are ints and texts;one whose keys are tuples of ints and texts (the empty one is both) -/
 |dK (kvs:List (Key×V))|dT (kvs:List (List Key×V))
 /-- a set of ints: its members,its size -/
 |set (S:Int->Bool) (n:Nat)
 /-- an instance of the class at C,its dict at dx,its attributes -/
 |ins (C dx:Addr) (fs:List (Str×V))
 /-- the dict of the instance at x -/
 |own (x:Addr)
 /-- the dict of an exception -/
 |xd (fs:List (Str×V))
 /-- a bound method,f of x -/
 |met (f x:Addr)
 /-- a range object lo,lo+1,.. below hi -/
 |rng (lo hi:Int)
 /-- a thing that is known to the object (the script;a dict while a loop walks it): read,never written while it is so -/
 |frz (o:Obj) (u:HO)
 /-- a code object's table -/
 |tbl (ps:Array Value)
 /-- any other thing,by what is true of its one object (a def of one's own: SetO a S n:=HO.ext λh=>..) -/
 |ext (φ:Heap->Prop)
abbrev Hp:=Addr->Option HO
def upd(H:Hp)(a:Addr)(o:HO):Hp:=λb=>if b=a then some o else H b
def AL{H:Hp}{a:Addr}{o:HO}:upd H a o a=some o:=by unfold upd;rw[if_pos rfl]
def AE{H:Hp}{a b:Addr}{o:HO}(h:b≠a):upd H a o b=H b:=by unfold upd;rw[if_neg h]
def Zw{H:Hp}{a b:Addr}{o u:HO}(h:H a=some o)(h':H b=some u)(d:o≠u):a≠b:=by
 intro e;subst e;rw[h]at h';exact d (Option.some.inj h')
def AV{H:Hp}{a b:Addr}{o:HO}(h:H a=some o)(h':H b=none):a≠b:=by
 intro e;subst e;rw[h]at h';cases h'
def IsTupD(h:Heap)(a:Addr)(items:Array Value):Prop:=∃o,h.get? a=some o/\o.cls=.type "tuple"/\(∃n,o.data=.seq items n)/\o.dict=none
def IsTupD.t{h:Heap}{a:Addr}{items:Array Value}(x:IsTupD h a items):IsTup h a items:=let ⟨o,e,c,d,_⟩:=x;⟨o,e,c,d⟩
def IsTupD.new(h:Heap)(items:Array Value):IsTupD (h.push { cls:=.type "tuple",data:=.seq items }) h.objs.size items:=⟨_,Heap.get?_push_size _ rfl,rfl,⟨_,rfl⟩,rfl⟩
section
variable(P:Program)(w:World)
def ObjOk(H:Hp)(h:Heap)(a:Addr):HO->Prop
 |.lst xs=>xs.length<=sizeLine/\∃(its:List Value) (n:Nat),Vals xs its/\h.get? a=some { cls:=.type "list",data:=.seq its.toArray n }
 |.tup xs=>xs.length<=sizeLine/\∃its:List Value,Vals xs its/\IsTupD h a its.toArray
 |.dK kvs=>kvs.length<=sizeLine/\(a==sysModules)=false/\∃vs,KV kvs vs/\h.DictOf (BD P w) a vs
 |.dT kvs=>kvs.length<=sizeLine/\(a==sysModules)=false/\∃xs:List (List Key×Addr×Value),
  Paired (λ(p:List Key×V) (q:List Key×Addr×Value)=>p.1=q.1/\H q.2.1=some (.tup (p.1.map kV))/\RelV p.2 q.2.2) kvs xs /\
  ∃o es ep,h.get? a=some o/\o.ExactDict/\o.data=.dict es ep/\es.toList=xs.map (entryOfKey (tupleKind (BD P w)))/\(xs.map (·.1)).Nodup
 |.set S n=>h.SetOf (intKind P w) a S n
 |.ins C dx fs=>H dx=some (.own a)/\fs.length<=1000/\dx≠a/\h.get? a=some (PySem.W.instObj C dx)/\
  ∃mA,h.Ns1 dx mA/\(∀f,RelO (fs.lookup f) (mA f))/\PySem.Within mA (fs.map (·.1))
 |.own _=>∃o,h.get? a=some o
 |.xd fs=>∃mA,h.Ns1 a mA/\∀f,RelO (fs.lookup f) (mA f)
 |.rng lo hi=>∃t u v,h.get? a=some { cls:=.type "range",data:=.fields #[.int lo t,.int hi u,.int 1 v] }
 |.frz o u=>h.get? a=some o/\ObjOk H h a u
 |.tbl ps=>h.get? a=some { cls:=.none,data:=.fields ps }
 |.met f x=>h.get? a=some (PySem.W.methodObj (.ref f) (.ref x))
 |.ext φ=>φ h/\(∃o,h.get? a=some o)/\∀h1 h2:Heap,φ h1->(∀o,h1.get? a=some o->h2.get? a=some o)->φ h2
def HOk(H:Hp)(h:Heap):Prop:=∀a o,H a=some o->ObjOk P w H h a o
end
section
variable{P:Program}{w:World}{H H':Hp}{h h':Heap}{a:Addr}{o:HO}
def ObjOk.lt(x:ObjOk P w H h a o):a<h.objs.size:=by
 cases o with
 |lst xs=>obtain⟨_,_,_,_,e⟩:=x;exact Heap.lt_size e
 |tup xs=>obtain⟨_,_,_,o,e,_⟩:=x;exact Heap.lt_size e
 |dK kvs=>obtain⟨_,_,_,_,o,_,_,e,_⟩:=x;exact Heap.lt_size e
 |dT kvs=>obtain⟨_,_,_,_,o,_,_,e,_⟩:=x;exact Heap.lt_size e
 |set S n=>obtain⟨o,_,_,_,e,_⟩:=x;exact Heap.lt_size e
 |ins C dx fs=>obtain⟨_,_,_,e,_⟩:=x;exact Heap.lt_size e
 |own y=>obtain⟨_,e⟩:=x;exact Heap.lt_size e
 |xd fs=>obtain⟨_,⟨_,_,_,e,_⟩,_⟩:=x;exact Heap.lt_size e
 |rng lo hi=>obtain⟨_,_,_,e⟩:=x;exact Heap.lt_size e
 |frz ob u=>obtain⟨e,_⟩:=x;exact Heap.lt_size e
 |tbl ps=>exact Heap.lt_size (show h.get? a=some _ from x)
 |met f y=>exact Heap.lt_size (show h.get? a=some _ from x)
 |ext φ=>obtain⟨_,⟨_,e⟩,_⟩:=x;exact Heap.lt_size e
def Paired.mapP{α β:Type}{F G:α->β->Prop}:∀{l₁:List α} {l₂:List β},Paired F l₁ l₂->(∀a b,F a b->G a b)->Paired G l₁ l₂
 |_,_,.nil,_=>.nil
 |_,_,.cons r t,f=>.cons (f _ _ r) (Paired.mapP t f)
def ObjOk.stay(x:ObjOk P w H h a o)(k:∀b u,(b=a∨H b=some (.own a))->h.get? b=some u->h'.get? b=some u)
 (ho:∀b,H b=some (.own a)->H' b=some (.own a)) (ht:∀b xs,H b=some (.tup xs)->H' b=some (.tup xs)):ObjOk P w H' h' a o:=by
 induction o with
 |lst xs=>obtain⟨z,its,n,r,e⟩:=x;exact⟨z,its,n,r,k _ _ (.inl rfl) e⟩
 |tup xs=>obtain⟨z,its,r,ob,e,c⟩:=x;exact⟨z,its,r,ob,k _ _ (.inl rfl) e,c⟩
 |dK kvs=>obtain⟨z,y,vs,r,ob,es,ep,e,c⟩:=x;exact⟨z,y,vs,r,ob,es,ep,k _ _ (.inl rfl) e,c⟩
 |dT kvs=>
  obtain⟨z,y,xs,r,ob,es,ep,e,c⟩:=x;exact⟨z,y,xs,Paired.mapP r λp q z=>⟨z.1,ht _ _ z.2.1,z.2.2⟩,ob,es,ep,k _ _ (.inl rfl) e,c⟩
 |set S n=>obtain⟨ob,es,ep,t,e,c⟩:=x;exact⟨ob,es,ep,t,k _ _ (.inl rfl) e,c⟩
 |ins C dx fs=>
  obtain⟨d,z,ne,e,mA,⟨od,es,ep,e2,c⟩,r⟩:=x;exact⟨ho _ d,z,ne,k _ _ (.inl rfl) e,mA,⟨od,es,ep,k _ _ (.inr d) e2,c⟩,r⟩
 |own y=>obtain⟨ob,e⟩:=x;exact⟨ob,k _ _ (.inl rfl) e⟩
 |xd fs=>obtain⟨mA,⟨od,es,ep,e,c⟩,r⟩:=x;exact⟨mA,⟨od,es,ep,k _ _ (.inl rfl) e,c⟩,r⟩
 |rng lo hi=>obtain⟨t,u,v,e⟩:=x;exact⟨t,u,v,k _ _ (.inl rfl) e⟩
 |frz ob u ih=>obtain⟨e,q⟩:=x;exact⟨k _ _ (.inl rfl) e,ih q⟩
 |tbl ps=>
  have e:h.get? a=some { cls:=.none,data:=.fields ps }:=x;show h'.get? a=some { cls:=.none,data:=.fields ps };exact k a _ (.inl rfl) e
 |met f y=>
  have e:h.get? a=some (PySem.W.methodObj (.ref f) (.ref y)):=x;show h'.get? a=some (PySem.W.methodObj (.ref f) (.ref y));exact k a _ (.inl rfl) e
 |ext φ=>obtain⟨p,⟨o,e⟩,st⟩:=x;exact⟨st _ _ p λo q=>k _ _ (.inl rfl) q,⟨o,k _ _ (.inl rfl) e⟩,st⟩
def HOk.lt(x:HOk P w H h)(e:H a=some o):a<h.objs.size:=(x a o e).lt
def HOk.fresh(x:HOk P w H h)(e:h.objs.size<=a):H a=none:=by
 cases q:H a with
 |none=>rfl
 |some u=>exact absurd (lt_of_lt_of_le (x.lt q) e) (lt_irrefl _)
def HOk.kept(x:HOk P w H h)(k:∀b u,h.get? b=some u->h'.get? b=some u):HOk P w H h':=λa o e=>
 (x a o e).stay (λb u _ q=>k b u q) (λ_ q=>q) λ_ _ q=>q
def HOk.laid(x:HOk P w H h)(k:∀b u,h.get? b=some u->h'.get? b=some u)(hp:h.objs.size<=a)(new:ObjOk P w (upd H a o) h' a o):HOk P w (upd H a o) h':=λb u e=>by
 have hn:=x.fresh hp;by_cases hb:b=a
 .subst hb;rw[AL]at e;cases e;exact new
 .rw[AE hb]at e;exact(x b u e).stay (λc v _ q=>k c v q) (λc q=>by rw[AE (AV q hn)];exact q) λc xs q=>by rw[AE (AV q hn)];exact q
end
def Rd(H:Hp)(a:Addr)(u:HO):Prop:=H a=some u∨∃o,H a=some (.frz o u)
def Rd.ok{P:Program}{w:World}{H:Hp}{h:Heap}{a:Addr}{u:HO}(r:Rd H a u)(x:HOk P w H h):ObjOk P w H h a u:=by
 rcases r with r|⟨o,r⟩
 .exact x a u r
 .obtain⟨_,q⟩:=x a _ r;exact q
def Mut:Option HO->Prop
 |some (.lst _)=>True
 |some (.dK _)=>True
 |some (.dT _)=>True
 |some (.set _ _)=>True
 |some (.ins _ _ _)=>True
 |some (.ext _)=>True
 |_=>False
section
variable{P:Program}{w:World}{H:Hp}{h h':Heap}{x e:Addr}{o':HO}
def HOk.write(ok:HOk P w H h)(mu:Mut (H x))(he:e=x∨H e=some (.own x))(k:∀b u,b≠e->h.get? b=some u->h'.get? b=some u)(heo:∃u,h'.get? e=some u)
 (new:ObjOk P w (upd H x o') h' x o'):HOk P w (upd H x o') h':=λb u q=>by
 have nown:∀c y,H c=some (.own y)->c≠x:=λc y r z=>by subst z;rw[r]at mu;exact mu
 have ntup:∀c xs,H c=some (.tup xs)->c≠x:=λc xs r z=>by subst z;rw[r]at mu;exact mu
 by_cases hb:b=x
 .subst hb;rw[AL]at q;cases q;exact new
 .rw[AE hb]at q;by_cases hbe:b=e
  .have q':H b=some (.own x):=by
    rcases he with z|z
    .exact absurd (hbe.trans z) hb
    .rw[hbe];exact z
   rw[q]at q';cases q';obtain⟨v,hv⟩:=heo;exact⟨v,by rw[hbe];exact hv⟩
  .refine(ok b u q).stay (λc v hc r=>k c v ?_ r) (λc r=>by rw[AE (nown c b r)];exact r) λc xs r=>by rw[AE (ntup c xs r)];exact r
   rcases hc with rfl|hc
   .exact hbe
   .rintro rfl;rcases he with z|z
    .exact nown c b hc z
    .rw[hc]at z;cases z;exact hb rfl
end
structure Un(fs ex:List Addr)(H H':Hp)(h h':Heap):Prop where
 keep:∀b o,h.get? b=some o->H b=none->b∉fs->b∉ex->h'.get? b=some o
 slot:∀b o,h.get? b=some o->H b=none->b∈fs->b∉ex->∃sl,h'.get? b=some { o with slots:=sl }
 free:∀b o,h.get? b=some o->H b=none->b∉ex->H' b=none
 there:∀b o,h.get? b=some o->b∉ex->∃o',h'.get? b=some o'
 tups:∀b xs,H b=some (.tup xs)->H' b=some (.tup xs)
 frzs:∀b o u,H b=some (.frz o u)->H' b=some (.frz o u)
 tbls:∀b ps,H b=some (.tbl ps)->∃more,H' b=some (.tbl (ps++more))
section
variable{fs fs' ex ex':List Addr}{H H1 H2:Hp}{h h1 h2 h':Heap}{a x e:Addr}{o:HO}
def Un.any(u:Un fs ex H H1 h h1){b:Addr}{ob:Obj}(q:h.get? b=some ob)(n:H b=none)(hx:b∉ex):∃sl,h1.get? b=some { ob with slots:=sl }:=by
 by_cases hb:b∈fs
 .exact u.slot b ob q n hb hx
 .exact⟨ob.slots,u.keep b ob q n hb hx⟩
def Un.kept(k:∀b u,h.get? b=some u->h'.get? b=some u):Un fs ex H H h h':=
 ⟨λb ob q _ _ _=>k b ob q,λb ob q _ _ _=>⟨ob.slots,k b ob q⟩,λ_ _ _ n _=>n,λb ob q _=>⟨ob,k b ob q⟩,λ_ _ q=>q,λ_ _ _ q=>q,λ_ ps q=>⟨#[],by rw[q];simp⟩⟩
def Un.refl:Un fs ex H H h h:=Un.kept λ_ _ q=>q
def Un.laid(k:∀b u,h.get? b=some u->h'.get? b=some u)(hp:h.objs.size<=a)(hn:H a=none):Un fs ex H (upd H a o) h h' where
 keep:=λb u q _ _ _=>k b u q
 slot:=λb u q _ _ _=>⟨u.slots,k b u q⟩
 free:=λb u q n _=>by rw[AE (ne_of_lt (lt_of_lt_of_le (Heap.lt_size q) hp))];exact n
 there:=λb u q _=>⟨u,k b u q⟩
 tups:=λb xs q=>by rw[AE (AV q hn)];exact q
 frzs:=λb u xs q=>by rw[AE (AV q hn)];exact q
 tbls:=λb ps q=>⟨#[],by rw[AE (AV q hn),q];simp⟩
def Un.write(mu:Mut (H x))(he:e=x∨H e=some (.own x))(k:∀b u,b≠e->h.get? b=some u->h'.get? b=some u)(heo:∃u,h'.get? e=some u):Un fs ex H (upd H x o) h h':=by
 have hx:∀b,H b=none->b≠x:=λb n z=>by subst z;rw[n]at mu;exact mu
 have hb:∀b,H b=none->b≠e:=λb n z=>by
  subst z;rcases he with r|r
  .exact hx b n r
  .rw[n]at r;cases r
 have hm:∀b u,H b=some u->¬ Mut (some u)->b≠x:=λb u q nm z=>by subst z;rw[q]at mu;exact nm mu
 refine⟨λb u q n _ _=>k b u (hb b n) q,λb u q n _ _=>⟨u.slots,k b u (hb b n) q⟩,λb u q n _=>by rw[AE (hx b n)];exact n,λb u q _=>?_,
  λb xs q=>by rw[AE (hm b _ q λz=>z)];exact q,λb u xs q=>by rw[AE (hm b _ q λz=>z)];exact q,λb ps q=>⟨#[],by rw[AE (hm b _ q λz=>z),q];simp⟩⟩
 by_cases hbe:b=e
 .subst hbe;exact heo
 .exact⟨u,k b u hbe q⟩
end
def trk(h:Heap)(H:Hp):List Addr:=(List.range h.objs.size).filter λa=>(H a).isSome
def Fv(h:Heap)(H:Hp):Heap:=PySem.W.hideAll h (trk h H)
def Qc(h:Heap)(H:Hp):(Fv h H).objs.size=h.objs.size:=PySem.W.hideAll_size _ _
def TC{h:Heap}{H:Hp}{b:Addr}{o:Obj}(e:h.get? b=some o)(n:H b=none):(Fv h H).get? b=some o:=
 PySem.W.hideAll_get _ e λhm=>by
  have q:(H b).isSome=true:=(mem_filter.mp hm).2;rw[n]at q;simp at q
def Vn{h:Heap}{H:Hp}{b:Addr}{o:Obj}(e:(Fv h H).get? b=some o):h.get? b=some o/\H b=none:=by
 have e':h.get? b=some o:=PySem.W.of_hideAll (trk h H) e;refine⟨e',?_⟩;cases q:H b with
 |none=>rfl
 |some x=>
  have hm:b∈trk h H:=mem_filter.mpr ⟨List.mem_range.mpr (Heap.lt_size e'),by simp[q]⟩;have z:(Fv h H).get? b=none:=PySem.W.hideAll_none (trk h H) hm;rw[z]at e;cases e
def WK(g h:Heap)(L:Addr):List (Addr×Obj):=(List.range h.objs.size).filterMap λa=>if a=L∨(g.get? a).isSome=true then none else(h.get? a).map λo=>(a,o)
def rest(g h:Heap)(L d:Addr):List (Addr×Obj):=(WK g h L).filter λp=>decide (p.1≠d)
structure Mod(K:PySem.W.Frag)(mg:Str->Option Value)(base:Heap):Prop where
 kin:K.In base
 glob:base.Ns mainGlobals mg
 blt:∃mb,base.Ns builtinsNs mb/\∀x:Str,x≠"__name__"->mb x=bootBuiltins x
 nolimit:base.NoLimit
structure Cx where
 prog:Program
 w:World
 K:PySem.W.Frag
 mg:Str->Option Value
 base:Heap
 A:Around
 N:List Str
 s₀:Shared
 H₀:Hp
 env:Env
 outer:List Env
 stack:List Env
 ex:List Addr
 fn:Str->Bool
 calm:Bool
 pn:List (Addr×Obj)
 xe:Value->Shared->Prop
def frs(l:List Env):List Addr:=l.filterMap (·.frame)
abbrev Cx.fs(X:Cx):List Addr:=frs X.outer
def Vis(sc:Scope)(x:Str):Prop:=sc.names.lookup x=some .local∨sc.names.lookup x=some .cell∨sc.names.lookup x=some .free
def Loc(sc:Scope)(x:Str):Prop:=sc.names.lookup x=some .local∨sc.names.lookup x=some .cell
def bC(env:Env)(h:Heap)(m:Str->Option Value)(x:Str)(u:Value):Prop:=
 (env.kindOf x=some .local/\m x=some u)∨((env.kindOf x=some .cell∨env.kindOf x=some .free)/\∃c,env.cells.lookup x=some c/\h.IsCell c (some u))
structure Cx.Ok(X:Cx):Prop where
 mod:Mod X.K X.mg X.base
 kind:X.env.scope.kind=.function
 glob:X.env.globals=mainGlobals
 blt:X.env.builtins=builtinsNs
 above:X.s₀.heap.objs.size<=X.env.locals
 inj:∀x y c,X.env.cells.lookup x=some c->X.env.cells.lookup y=some c->x=y
 has:∀x,(X.env.kindOf x=some .cell∨X.env.kindOf x=some .free)->∃c,X.env.cells.lookup x=some c
 cab:∀x c,X.fn x=true->X.env.cells.lookup x=some c->X.s₀.heap.objs.size<=c
 hd:X.calm=true->X.A.handled=none
 frames:X.A.frames=some X.stack
 stk:X.stack=X.outer∨(X.stack=X.env::X.outer/\X.env.frame=some X.env.locals)
 exf:∀b∈X.ex,b≠X.env.locals/\∀x c,X.env.cells.lookup x=some c->c≠b
 bs:∀b o,X.base.get? b=some o->X.s₀.heap.get? b=some o/\X.H₀ b=none
 bsz:X.base.objs.size<=X.s₀.heap.objs.size
 noex:∀b o,X.base.get? b=some o->b∉X.ex
 exfs:∀b∈X.ex,b∉X.fs
 funs:X.s₀.heap.FunFrames X.base X.outer
 frf:∀b∈X.fs,X.H₀ b=none
structure Inv(X:Cx)(pins:List (Addr×Obj))(σ:List (Option V))(H:Hp)(s:Shared):Prop where
 ok:X.Ok
 os:s.os=X.s₀.os
 bare:AllBare s.gens
 base:Un X.fs X.ex X.H₀ H X.s₀.heap s.heap
 loc:∃m,s.heap.Ns X.env.locals m/\∀(i:Nat) (x:Str) (v:V),X.N[i]?=some x->σ[i]?=some (some v)->Vis X.env.scope x->∃u,RelV v u/\bC X.env s.heap m x u
 cell:∀x c,X.env.cells.lookup x=some c->∃v,s.heap.IsCell c v
 free:H X.env.locals=none
 freeC:∀x c,X.env.cells.lookup x=some c->H c=none
 pin:∀p∈X.pn++pins,s.heap.get? p.1=some p.2/\H p.1=none/\p.1≠X.env.locals/\p.1∉X.fs/\∀v,p.2.data≠.cell v
 hok:HOk X.prog X.w H s.heap
 len:σ.length=X.N.length
section
variable{X:Cx}{pins:List (Addr×Obj)}{σ:List (Option V)}{H H':Hp}{s:Shared}{h':Heap}
def Cx.Ok.nofr(ok:X.Ok){b:Addr}{o:Obj}(e:X.base.get? b=some o):b∉X.fs:=λhb=>by
 have:=(ok.funs.mem hb).1;rw[e]at this;cases this
def Inv.bs(I:Inv X pins σ H s):∀b o,X.base.get? b=some o->s.heap.get? b=some o/\H b=none:=λb o e=>
 ⟨I.base.keep b o (I.ok.bs b o e).1 (I.ok.bs b o e).2 (I.ok.nofr e) (I.ok.noex b o e),I.base.free b o (I.ok.bs b o e).1 (I.ok.bs b o e).2 (I.ok.noex b o e)⟩
def Inv.bk(I:Inv X pins σ H s):∀b o,X.base.get? b=some o->s.heap.get? b=some o:=λb o e=>(I.bs b o e).1
def Inv.mod(I:Inv X pins σ H s):Mod X.K X.mg X.base:=I.ok.mod
def Inv.kIn(I:Inv X pins σ H s):X.K.In s.heap:=I.ok.mod.kin.keeps I.bk
def Inv.nolimit(I:Inv X pins σ H s):s.heap.NoLimit:=I.ok.mod.nolimit.keeps I.bk
def Inv.lt(I:Inv X pins σ H s):X.env.locals<s.heap.objs.size:=let ⟨_,hn,_⟩:=I.loc;hn.lt
def Inv.sz(I:Inv X pins σ H s):X.s₀.heap.objs.size<=s.heap.objs.size:=le_trans I.ok.above (le_of_lt I.lt)
def Inv.nofs(I:Inv X pins σ H s){a:Addr}(h:s.heap.objs.size<=a):a∉X.fs:=λhb=>by
 obtain⟨_,o,ho,_⟩:=I.ok.funs.mem hb;exact absurd (lt_of_lt_of_le (Heap.lt_size ho) (le_trans I.sz h)) (lt_irrefl _)
def Inv.cne(I:Inv X pins σ H s):∀x c,X.env.cells.lookup x=some c->c≠X.env.locals:=λx c e z=>by
 obtain⟨v,o,ho,hd⟩:=I.cell x c e;obtain⟨m,⟨o',es,ep,ho',hd',_⟩,_⟩:=I.loc;rw[z,ho']at ho;cases ho;rw[hd']at hd;cases hd
def Inv.funs(I:Inv X pins σ H s):s.heap.FunFrames X.base X.outer:=by
 have all:∀(l:List Env),(∀b∈frs l,b∈X.fs)->X.s₀.heap.FunFrames X.base l->s.heap.FunFrames X.base l:=by
  intro l
  induction l with
  |nil=>intro _ _;trivial
  |cons env r ih=>
   intro hs hl;obtain⟨hk,⟨L,o,hf,hn,ho,hd⟩,hr⟩:=hl;have hL:L∈X.fs:=hs L (by unfold frs;rw[filterMap_cons,hf];exact mem_cons_self);obtain⟨sl,e⟩:=I.base.slot L o ho (I.ok.frf L hL) hL λz=>I.ok.exfs L z hL;exact⟨hk,⟨L,_,hf,hn,e,hd⟩,ih (λb hb=>hs b (by unfold frs;rw[filterMap_cons,hf];exact mem_cons_of_mem _ hb)) hr⟩
 exact all X.outer (λ_ hb=>hb) I.ok.funs
def Inv.stack(I:Inv X pins σ H s):s.heap.FunFrames X.base X.stack:=by
 rcases I.ok.stk with e|⟨e,hf⟩
 .rw[e];exact I.funs
 .rw[e];obtain⟨m,hn,_⟩:=I.loc;refine .cons (by rw[I.ok.kind];decide) hf hn ?_ I.funs;exact Heap.get?_none_of_le (le_trans I.ok.bsz I.ok.above)
def Inv.stkSub(I:Inv X pins σ H s):∀b∈frs X.stack,b∈X.env.locals::X.fs:=λb hb=>by
 rcases I.ok.stk with e|⟨e,hf⟩
 .rw[e]at hb;exact mem_cons_of_mem _ hb
 .rw[e]at hb;unfold frs at hb;rw[filterMap_cons,hf]at hb;exact hb
def Inv.stkFree(I:Inv X pins σ H s):∀b∈frs X.stack,H b=none:=λb hb=>by
 rcases mem_cons.mp (I.stkSub b hb)with e|hb
 .rw[e];exact I.free
 .obtain⟨_,o,ho,_⟩:=I.ok.funs.mem hb;exact I.base.free b o ho (I.ok.frf b hb) λz=>I.ok.exfs b z hb
def Inv.step{g':Array GenState}{t':Nat}{d':Drawn}{ch:List Addr}(I:Inv X pins σ H s)
 (hch:∀b∈ch,(b∈X.ex∨X.s₀.heap.objs.size<=b)/\b≠X.env.locals/\(∀x c,X.env.cells.lookup x=some c->c≠b)/\∀p∈X.pn++pins,p.1≠b)
 (keep:∀b o,b≠X.env.locals->b∉X.fs->b∉ch->s.heap.get? b=some o->H b=none->h'.get? b=some o)
 (slot:∀b o,b≠X.env.locals->b∈X.fs->b∉ch->s.heap.get? b=some o->H b=none->∃sl,h'.get? b=some { o with slots:=sl }) (free:∀b o,b∉ch->s.heap.get? b=some o->H b=none->H' b=none)
 (there:∀b o,b∉ch->s.heap.get? b=some o->∃o',h'.get? b=some o')
 (tups:∀b xs,H b=some (.tup xs)->H' b=some (.tup xs)) (frzs:∀b o u,H b=some (.frz o u)->H' b=some (.frz o u)) (tbls:∀b ps,H b=some (.tbl ps)->∃more,H' b=some (.tbl (ps++more)))
 (ns:∀m,s.heap.Ns X.env.locals m->h'.Ns X.env.locals m) (hok:HOk X.prog X.w H' h') (hg:AllBare g'):
 Inv X pins σ H' { s with heap:=h',gens:=g',drawn:=d',toks:=t' }:=by
 have neL:∀b o,X.s₀.heap.get? b=some o->b≠X.env.locals:=λb o e=>ne_of_lt (lt_of_lt_of_le (Heap.lt_size e) I.ok.above);have neC:∀b o,X.s₀.heap.get? b=some o->b∉X.ex->b∉ch:=λb o e hx hb=>by
  rcases(hch b hb).1 with z|z
  .exact hx z
  .exact absurd (lt_of_lt_of_le (Heap.lt_size e) z) (lt_irrefl _)
 have cellK:∀x c,X.env.cells.lookup x=some c->∀v,s.heap.IsCell c v->h'.IsCell c v:=λx c e v ⟨o,ho,hd⟩=>by
  have nch:c∉ch:=λz=>(hch c z).2.2.1 x c e rfl;by_cases hc:c∈X.fs
  .obtain⟨sl,q⟩:=slot c o (I.cne x c e) hc nch ho (I.freeC x c e);exact⟨_,q,hd⟩
  .exact⟨o,keep c o (I.cne x c e) hc nch ho (I.freeC x c e),hd⟩
 refine⟨I.ok,I.os,hg,⟨λb o e n hb hx=>?_,λb o e n hb hx=>?_,λb o e n hx=>?_,λb o e hx=>?_,λb xs e=>tups b xs (I.base.tups b xs e),λb o xs e=>frzs b o xs (I.base.frzs b o xs e),λb ps e=>?_⟩,?_,λx c e=>?_,?_,λx c e=>?_,λp hp=>?_,hok,I.len⟩
 .exact keep b o (neL b o e) hb (neC b o e hx) (I.base.keep b o e n hb hx) (I.base.free b o e n hx)
 .obtain⟨sl,e1⟩:=I.base.slot b o e n hb hx;obtain⟨sl',e2⟩:=slot b _ (neL b o e) hb (neC b o e hx) e1 (I.base.free b o e n hx);exact⟨sl',e2⟩
 .obtain⟨o',e1⟩:=I.base.there b o e hx;exact free b o' (neC b o e hx) e1 (I.base.free b o e n hx)
 .obtain⟨o',e1⟩:=I.base.there b o e hx;exact there b o' (neC b o e hx) e1
 .obtain⟨m1,e1⟩:=I.base.tbls b ps e;obtain⟨m2,e2⟩:=tbls b _ e1;exact⟨m1++m2,by rw[e2,Array.append_assoc]⟩
 .obtain⟨m,hn,hl⟩:=I.loc;refine⟨m,ns m hn,λi x v e1 e2 e3=>?_⟩;obtain⟨u,r,l⟩:=hl i x v e1 e2 e3;refine⟨u,r,?_⟩;rcases l with l|⟨k,c,e,z⟩
  .exact .inl l
  .exact .inr ⟨k,c,e,cellK x c e _ z⟩
 .obtain⟨v,z⟩:=I.cell x c e;exact⟨v,cellK x c e v z⟩
 .obtain⟨m,⟨o,_,_,ho,_⟩,_⟩:=I.loc;exact free _ o (λz=>(hch _ z).2.1 rfl) ho I.free
 .obtain⟨v,o,ho,hd⟩:=I.cell x c e;exact free c o (λz=>(hch c z).2.2.1 x c e rfl) ho (I.freeC x c e)
 .obtain⟨e,n,ne,nf,d⟩:=I.pin p hp;have nch:p.1∉ch:=λz=>(hch p.1 z).2.2.2 p hp rfl;exact⟨keep p.1 p.2 ne nf nch e n,free p.1 p.2 nch e n,ne,nf,d⟩
def Inv.un{t':Nat}(I:Inv X pins σ H s)(u:Un X.fs [] H H' s.heap h')(hok:HOk X.prog X.w H' h'):Inv X pins σ H' { s with heap:=h',toks:=t' }:=by
 obtain⟨m,⟨o,es,ep,ho,r⟩,_⟩:=id I.loc;obtain⟨sl,hL⟩:=u.any ho I.free (by simp);exact I.step (g':=s.gens) (d':=s.drawn) (ch:=[]) (λ_ z=>nomatch z) (λb o _ hb _ e n=>u.keep b o e n hb (by simp)) (λb o _ hb _ e n=>u.slot b o e n hb (by simp)) (λb o _ e n=>u.free b o e n (by simp)) (λb o _ e=>u.there b o e (by simp)) u.tups u.frzs u.tbls (λm' hm=>by
  obtain⟨o',es',ep',ho',r'⟩:=hm;rw[ho]at ho';cases ho';exact⟨_,es',ep',hL,r'⟩) hok I.bare
def Inv.call{g':Array GenState}{t':Nat}{d':Drawn}{ch:List Addr}(I:Inv X pins σ H s)(u:Un (frs X.stack) ch H H' s.heap h')(hok:HOk X.prog X.w H' h')(hg:AllBare g')
 (hch:∀b∈ch,(b∈X.ex∨X.s₀.heap.objs.size<=b)/\b≠X.env.locals/\(∀x c,X.env.cells.lookup x=some c->c≠b)/\∀p∈X.pn++pins,p.1≠b):
 Inv X pins σ H' { s with heap:=h',gens:=g',drawn:=d',toks:=t' }:=by
 obtain⟨m,⟨o,es,ep,ho,r⟩,_⟩:=id I.loc;obtain⟨sl,hL⟩:=u.any ho I.free λz=>(hch _ z).2.1 rfl;exact I.step (ch:=ch) hch (λb o hL hb hc e n=>u.keep b o e n (λz=>(mem_cons.mp (I.stkSub b z)).elim hL hb) hc) (λb o _ _ hc e n=>u.any e n hc) (λb o hc e n=>u.free b o e n hc) (λb o hc e=>u.there b o e hc) u.tups u.frzs u.tbls (λm' hm=>by
  obtain⟨o',es',ep',ho',r'⟩:=hm;rw[ho]at ho';cases ho';exact⟨_,es',ep',hL,r'⟩) hok hg
def Inv.turned{t':Nat}{it:Addr}(I:Inv X pins σ H s)(k:∀b o,b≠it->s.heap.get? b=some o->h'.get? b=some o)(hn:H it=none)(hL:it≠X.env.locals)
 (h1:it∈X.ex∨X.s₀.heap.objs.size<=it) (h2:∀x c,X.env.cells.lookup x=some c->c≠it) (h3:∀p∈X.pn++pins,p.1≠it):Inv X pins σ H { s with heap:=h',toks:=t' }:=by
 have nit:∀b u,H b=some u->b≠it:=λb u e z=>by rw[z,hn]at e;cases e
 refine I.step (g':=s.gens) (d':=s.drawn) (ch:=[it]) (λb hb=>?_) (λb o _ _ hc e _=>k b o (λz=>hc (by simp[z])) e) (λb o _ _ hc e _=>⟨o.slots,k b o (λz=>hc (by simp[z])) e⟩) (λ_ _ _ _ n=>n)
  (λb o hc e=>⟨o,k b o (λz=>hc (by simp[z])) e⟩) (λ_ _ e=>e) (λ_ _ _ e=>e) (λb ps e=>⟨#[],by rw[e];simp⟩) (λm hm=>?_) (λb u e=>?_) I.bare
 .have e:b=it:=by simpa using hb
  subst e;exact⟨h1,hL,h2,h3⟩
 .obtain⟨o,es,ep,ho,r⟩:=hm;exact⟨o,es,ep,k _ o (Ne.symm hL) ho,r⟩
 .refine(I.hok b u e).stay (λc v hc q=>k c v ?_ q) (λ_ q=>q) λ_ _ q=>q;rcases hc with z|z
  .rw[z];exact nit b u e
  .exact nit c _ z
def Inv.tok(I:Inv X pins σ H s)(t:Nat):Inv X pins σ H { s with toks:=t }:=I.un (h':=s.heap) (t':=t) Un.refl I.hok
def Inv.kept{t':Nat}(I:Inv X pins σ H s)(k:∀b u,s.heap.get? b=some u->h'.get? b=some u):Inv X pins σ H { s with heap:=h',toks:=t' }:=I.un (Un.kept k) (I.hok.kept k)
def Inv.laid{a:Addr}{o:HO}{t':Nat}(I:Inv X pins σ H s)(k:∀b u,s.heap.get? b=some u->h'.get? b=some u)(hp:s.heap.objs.size<=a)(new:ObjOk X.prog X.w (upd H a o) h' a o):
 Inv X pins σ (upd H a o) { s with heap:=h',toks:=t' }:=I.un (Un.laid k hp (I.hok.fresh hp)) (I.hok.laid k hp new)
def Inv.write{x e:Addr}{o:HO}{t':Nat}(I:Inv X pins σ H s)(mu:Mut (H x))(he:e=x∨H e=some (.own x))(k:∀b u,b≠e->s.heap.get? b=some u->h'.get? b=some u)(heo:∃u,h'.get? e=some u)
 (new:ObjOk X.prog X.w (upd H x o) h' x o):Inv X pins σ (upd H x o) { s with heap:=h',toks:=t' }:=I.un (Un.write mu he k heo) (I.hok.write mu he k heo new)
def Inv.pins_of{pins':List (Addr×Obj)}(I:Inv X pins σ H s)(h:∀p∈pins',s.heap.get? p.1=some p.2/\H p.1=none/\p.1≠X.env.locals/\p.1∉X.fs/\∀v,p.2.data≠.cell v):Inv X pins' σ H s:=
 ⟨I.ok,I.os,I.bare,I.base,I.loc,I.cell,I.free,I.freeC,λp hp=>(mem_append.mp hp).elim (λz=>I.pin p (mem_append_left _ z)) (h p),I.hok,I.len⟩
def Lu{N:List Str}(hN:N.Nodup){i j:Nat}{x:Str}(a:N[i]?=some x)(b:N[j]?=some x):i=j:=by
 obtain⟨h1,e1⟩:=List.getElem?_eq_some_iff.mp a;obtain⟨h2,e2⟩:=List.getElem?_eq_some_iff.mp b;exact(List.getElem_inj hN).mp (e1.trans e2.symm)
def Jt{M:Model}{A:Around}{E:Value->Shared->Prop}{i:Nat}{x:Str}{v:V}{u:Value}{Q:Unit->Shared->Prop}(I:Inv X pins σ H s)(hN:X.N.Nodup)(hi:X.N[i]?=some x)(hx:Loc X.env.scope x)(r:RelV v u)
 (h:∀s',Inv X pins (σ.set i (some v)) H s'->(∃a,Heap.SameBut a s.heap s'.heap/\(a=X.env.locals∨X.env.cells.lookup x=some a))->Q () s') (hf:X.fn x=true∨X.env.scope.names.lookup x=some .local:=by first|exact .inl rfl|exact .inr rfl|assumption):wpAny M A (storeName X.env x u) Q E s:=by
 obtain⟨m,hn,hl⟩:=id I.loc;have hcls:(X.env.scope.kind==.class||(X.env.scope.kind==.module&&X.env.locals != X.env.globals))=false:=by rw[I.ok.kind];rfl
 have hiσ:i<σ.length:=by rw[I.len];exact(List.getElem?_eq_some_iff.mp hi).1
 have cne:=I.cne;have tracked:∀{a:Addr} {h':Heap},(∃o,s.heap.get? a=some o/\H a=none)->Heap.SameBut a s.heap h'->HOk X.prog X.w H h':=λ{a h'} ha hs b ob e=>by
  obtain⟨_,_,hfree⟩:=ha;refine(I.hok b ob e).stay (λc w' hc q=>(hs.2 c ?_).trans q) (λ_ q=>q) λ_ _ q=>q;rintro rfl;rcases hc with rfl|hc
  .rw[hfree]at e;cases e
  .rw[hfree]at hc;cases hc
 rcases hx with hk|hk
 .refine wpAny_storeName_local hk hn (λh' hn' hs=>?_) hcls;obtain⟨oL,_,_,hoL,_⟩:=id hn;refine h _ ⟨I.ok,I.os,I.bare,⟨λb o e n hb hx=>?_,λb o e n hb hx=>?_,I.base.free,λb o e hx=>?_,I.base.tups,I.base.frzs,I.base.tbls⟩,⟨_,hn',λj y v' e1 e2 e3=>?_⟩,λy c e=>?_,I.free,I.freeC,λp hp=>?_,tracked ⟨oL,hoL,I.free⟩ hs,by simpa using I.len⟩ ⟨_,hs,.inl rfl⟩
  .exact(hs.2 b (ne_of_lt (lt_of_lt_of_le (Heap.lt_size e) I.ok.above))).trans (I.base.keep b o e n hb hx)
  .obtain⟨sl,e1⟩:=I.base.slot b o e n hb hx;exact⟨sl,(hs.2 b (ne_of_lt (lt_of_lt_of_le (Heap.lt_size e) I.ok.above))).trans e1⟩
  .obtain⟨o',e1⟩:=I.base.there b o e hx;exact⟨o',(hs.2 b (ne_of_lt (lt_of_lt_of_le (Heap.lt_size e) I.ok.above))).trans e1⟩
  .by_cases hj:j=i
   .subst hj;rw[hi]at e1;cases e1;rw[List.getElem?_set_self hiσ]at e2;cases e2;exact⟨u,r,.inl ⟨hk,by simp⟩⟩
   .rw[List.getElem?_set_ne (Ne.symm hj)]at e2;obtain⟨u',r',q⟩:=hl j y v' e1 e2 e3;refine⟨u',r',?_⟩;rcases q with⟨k,e⟩|⟨k,c,e,z⟩
    .refine .inl ⟨k,?_⟩;have:y≠x:=λe=>hj (Lu hN e1 (e ▸ hi));simp[this,e]
    .exact .inr ⟨k,c,e,z.sameBut hs (cne y c e)⟩
  .obtain⟨w',z⟩:=I.cell y c e;exact⟨w',z.sameBut hs (cne y c e)⟩
  .obtain⟨e,n,ne,nf,d⟩:=I.pin p hp;exact⟨(hs.2 p.1 ne).trans e,n,ne,nf,d⟩
 .have hfn:X.fn x=true:=by
   rcases hf with z|z
   .exact z
   .rw[z]at hk;cases hk
  obtain⟨c,hc⟩:=I.ok.has x (.inl hk);obtain⟨w',z⟩:=I.cell x c hc;refine wpAny_storeName_cell I.ok.kind hk hc z (λh' hc' hs=>?_);obtain⟨oc,hoc,hocd⟩:=id z;refine h { s with heap:=h' } ⟨I.ok,I.os,I.bare,⟨λb o e n hb hx=>?_,λb o e n hb hx=>?_,I.base.free,λb o e hx=>?_,I.base.tups,I.base.frzs,I.base.tbls⟩,⟨m,hn.sameBut hs (Ne.symm (cne x c hc)),λj y v' e1 e2 e3=>?_⟩,λy c' e=>?_,I.free,I.freeC,λp hp=>?_,tracked ⟨oc,hoc,I.freeC x c hc⟩ hs,by simpa using I.len⟩ ⟨c,hs,.inr hc⟩
  .exact(hs.2 b (ne_of_lt (lt_of_lt_of_le (Heap.lt_size e) (I.ok.cab x c hfn hc)))).trans (I.base.keep b o e n hb hx)
  .obtain⟨sl,e1⟩:=I.base.slot b o e n hb hx;exact⟨sl,(hs.2 b (ne_of_lt (lt_of_lt_of_le (Heap.lt_size e) (I.ok.cab x c hfn hc)))).trans e1⟩
  .obtain⟨o',e1⟩:=I.base.there b o e hx;exact⟨o',(hs.2 b (ne_of_lt (lt_of_lt_of_le (Heap.lt_size e) (I.ok.cab x c hfn hc)))).trans e1⟩
  .by_cases hj:j=i
   .subst hj;rw[hi]at e1;cases e1;rw[List.getElem?_set_self hiσ]at e2;cases e2;exact⟨u,r,.inr ⟨.inl hk,c,hc,hc'⟩⟩
   .rw[List.getElem?_set_ne (Ne.symm hj)]at e2;obtain⟨u',r',q⟩:=hl j y v' e1 e2 e3;refine⟨u',r',?_⟩;rcases q with q|⟨k,c',e,z'⟩
    .exact .inl q
    .refine .inr ⟨k,c',e,z'.sameBut hs ?_⟩;rintro rfl;exact hj (Lu hN e1 (I.ok.inj _ _ _ e hc ▸ hi))
  .by_cases hcc:c'=c
   .subst hcc;exact⟨_,hc'⟩
   .obtain⟨w2,z2⟩:=I.cell y c' e;exact⟨w2,z2.sameBut hs hcc⟩
  .obtain⟨e,n,ne,nf,d⟩:=I.pin p hp;refine⟨(hs.2 p.1 ?_).trans e,n,ne,nf,d⟩;intro q;rw[q,hoc]at e;have q':oc=p.2:=Option.some.inj e;exact d w' (by rw[<- q'];exact hocd)
def Hr{M:Model}{A:Around}{E:Value->Shared->Prop}{i:Nat}{x:Str}{v:V}{u:Value}{Q:Unit->Shared->Prop}(I:Inv X pins σ H s)(hN:X.N.Nodup)(hi:X.N[i]?=some x)(hx:Loc X.env.scope x)(r:RelV v u)
 (h:∀s',Inv X pins (σ.set i (some v)) H s'->Q () s') (hf:X.fn x=true∨X.env.scope.names.lookup x=some .local:=by first|exact .inl rfl|exact .inr rfl|assumption):wpAny M A (storeName X.env x u) Q E s:=
 Jt I hN hi hx r (λs' I' _=>h s' I') hf
def Inv.call'{s':Shared}{ch:List Addr}(I:Inv X pins σ H s)(ho:s'.os=s.os)(u:Un (frs X.stack) ch H H' s.heap s'.heap)(hok:HOk X.prog X.w H' s'.heap)(hg:AllBare s'.gens)
 (hch:∀b∈ch,(b∈X.ex∨X.s₀.heap.objs.size<=b)/\b≠X.env.locals/\(∀x c,X.env.cells.lookup x=some c->c≠b)/\∀p∈X.pn++pins,p.1≠b):Inv X pins σ H' s':=by
 obtain⟨h',g',d',t',o'⟩:=s';have e:o'=s.os:=ho;subst e;exact I.call (g':=g') (t':=t') (d':=d') u hok hg hch
end
abbrev XK:=Value->Option Addr->Hp->Prop
abbrev St:=List (Option V)
abbrev VK:=V->Hp->Prop
abbrev TE:=St->Hp->VK->Prop
abbrev TT:=St->Hp->(Bool->Hp->Prop)->Prop
abbrev TA:=St->Hp->(List V->Hp->Prop)->Prop
structure Ends where
 nx:St->Hp->Prop
 rt:VK
 bk:St->Hp->Prop:=λ_ _=>False
 ct:St->Hp->Prop:=λ_ _=>False
abbrev TS:=Ends->St->Hp->Prop
def EP(X:Cx)(pins:List (Addr×Obj))(σ:St)(Q:VK)(u:Value)(s':Shared):Prop:=∃v H',Inv X pins σ H' s'/\RelV v u/\Q v H'
def TP(X:Cx)(pins:List (Addr×Obj))(σ:St)(Q:Bool->Hp->Prop)(b:Bool)(s':Shared):Prop:=∃H',Inv X pins σ H' s'/\Q b H'
def AP(X:Cx)(pins:List (Addr×Obj))(σ:St)(Q:List V->Hp->Prop)(us:List Value)(s':Shared):Prop:=∃vs H',Inv X pins σ H' s'/\Vals vs us/\Q vs H'
def SP(X:Cx)(pins:List (Addr×Obj))(D:Ends)(f:Flow)(s':Shared):Prop:=
 match f with
 |.next=>∃σ' H',Inv X pins σ' H' s'/\D.nx σ' H'
 |.brk=>∃σ' H',Inv X pins σ' H' s'/\D.bk σ' H'
 |.cont=>∃σ' H',Inv X pins σ' H' s'/\D.ct σ' H'
 |.ret u=>∃v σ' H',Inv X pins σ' H' s'/\RelV v u/\D.rt v H'
def PE(X:Cx)(e:Expr)(t:TE):Prop:=
 ∀(pins:List (Addr×Obj)) (s:Shared) (σ:St) (H:Hp) (Q:VK),Inv X pins σ H s->t σ H Q->wpAny (model X.prog X.w) X.A (eval e X.env) (EP X pins σ Q) X.xe s
def PT(X:Cx)(e:Expr)(t:TT):Prop:=
 ∀(pins:List (Addr×Obj)) (s:Shared) (σ:St) (H:Hp) (Q:Bool->Hp->Prop),Inv X pins σ H s->t σ H Q->wpAny (model X.prog X.w) X.A (isTrue e X.env (eval e X.env)) (TP X pins σ Q) X.xe s
def PW(X:Cx)(e:Expr)(t:TT):Prop:=
 ∀(whole:Sem Value) (pins:List (Addr×Obj)) (s:Shared) (σ:St) (H:Hp) (Q:Bool->Hp->Prop),Inv X pins σ H s->t σ H Q->wpAny (model X.prog X.w) X.A (isTrue e X.env whole) (TP X pins σ Q) X.xe s
def PW.pt{X:Cx}{e:Expr}{t:TT}(h:PW X e t):PT X e t:=h _
def PA(X:Cx)(es:List Expr)(t:TA):Prop:=
 ∀(pos:Pos) (pins:List (Addr×Obj)) (s:Shared) (σ:St) (H:Hp) (Q:List V->Hp->Prop),Inv X pins σ H s->t σ H Q->wpAny (model X.prog X.w) X.A (spliced (backTo pos (starEach es X.env))) (AP X pins σ Q) X.xe s
def PS(X:Cx)(st:Stmt)(t:TS):Prop:=
 ∀(pins:List (Addr×Obj)) (s:Shared) (σ:St) (H:Hp) (D:Ends),Inv X pins σ H s->t D σ H->wpAny (model X.prog X.w) X.A (exec st X.env) (SP X pins D) X.xe s
def PSs(X:Cx)(st:List Stmt)(t:TS):Prop:=
 ∀(pins:List (Addr×Obj)) (s:Shared) (σ:St) (H:Hp) (D:Ends),Inv X pins σ H s->t D σ H->wpAny (model X.prog X.w) X.A (execs st X.env) (SP X pins D) X.xe s
def thn{α:Type}{t:Sem α}{Q Q':α->Shared->Prop}{M:Model}{A:Around}{E:Value->Shared->Prop}{s:Shared}(h:wpAny M A t Q E s)(hQ:∀a s,Q a s->Q' a s):wpAny M A t Q' E s:=wpAny_mono h hQ λ_ _ x=>x
section
variable{X:Cx}
def bin{a b:Expr}{ta tb:TE}(ha:PE X a ta)(hb:PE X b tb){pins:List (Addr×Obj)}{s:Shared}{σ:St}{H:Hp}{R:V->V->Hp->Prop}(I:Inv X pins σ H s)(h:ta σ H λx H1=>tb σ H1 λy H2=>R x y H2)
 {α:Type} {Q:α->Shared->Prop} {f:Value->Value->Sem α}
 (hf:∀v u s2 x y H2,Inv X pins σ H2 s2->RelV x v->RelV y u->R x y H2->wpAny (model X.prog X.w) X.A (f v u) Q X.xe s2):
 wpAny (model X.prog X.w) X.A (eval a X.env) (λv s₁=>wpAny (model X.prog X.w) X.A (eval b X.env) (λu s₂=>wpAny (model X.prog X.w) X.A (f v u) Q X.xe s₂) X.xe s₁) X.xe s:=by
 refine thn (ha pins s σ H _ I h) λv s1 ⟨x,H1,I1,r1,q1⟩=>?_;refine thn (hb pins s1 σ H1 _ I1 q1) λu s2 ⟨y,H2,I2,r2,q2⟩=>?_;exact hf v u s2 x y H2 I2 r1 r2 q2
def Rh(i:Nat):TE:=λσ H Q=>∃v,σ[i]?=some (some v)/\Q v H
def tC(v:V):TE:=λ_ H Q=>Q v H
def YK{i:Nat}{x:Str}{pos:Pos}(hN:X.N[i]?=some x)(hv:Vis X.env.scope x)(hd:(x==("__debug__":Str))=false:=by decide)(hcd:(x==("__classdict__":Str))=false:=by decide):PE X (.Name x pos) (Rh i):=by
 intro pins s σ H Q I h;obtain⟨v,e,h⟩:=h;obtain⟨m,hn,hl⟩:=I.loc;obtain⟨u,r,l⟩:=hl i x v hN e hv;have fin:EP X pins σ Q u s:=⟨v,H,I,r,h⟩
 rcases l with⟨hk,hm⟩|⟨hk,c,hc,hcell⟩
 .exact wpAny_Name (wpAny_loadName_local I.ok.kind hk hn hm fin) hd
 .rcases hk with hk|hk
  .exact wpAny_Name (wpAny_loadName_cell I.ok.kind hk hc hcell fin) hd
  .exact wpAny_Name (wpAny_loadName_free I.ok.kind hk hc hcell fin hcd) hd
def YT{i j pos}:PE X (.Constant (.int i) j pos) (tC (.int i)):=λ_ _ _ H _ I h=>wpAny_Constant_int ⟨.int i,H,I.tok _,⟨_,rfl⟩,h⟩
def Zq{b j pos}:PE X (.Constant (.bool b) j pos) (tC (.bl b)):=λ_ _ _ H _ I h=>Constant_bool ⟨.bl b,H,I,rfl,h⟩
def YQ{j pos}:PE X (.Constant .none j pos) (tC .non):=λ_ _ _ H _ I h=>Constant_none ⟨.non,H,I,rfl,h⟩
def YM{x j pos}:PE X (.Constant (.str x) j pos) (tC (.str x)):=λ_ _ _ H _ I h=>Calls.Constant_str ⟨.str x,H,I.tok _,⟨_,rfl⟩,h⟩
def Gl(X:Cx)(x:Str):Prop:=X.env.kindOf x=some .globalImplicit
def Vu{E:Value->Shared->Prop}{pins:List (Addr×Obj)}{s:Shared}{σ:St}{H:Hp}{x:Str}{u:Value}{pos:Pos}{Q:Value->Shared->Prop}(I:Inv X pins σ H s)(hg:Gl X x)(hm:X.mg x=some u)(h:Q u s)
 (hd:(x==("__debug__":Str))=false:=by decide):wpAny (model X.prog X.w) X.A (eval (.Name x pos) X.env) Q E s:=
 Calls.Name_function_global I.ok.kind hg (Calls.loadGlobal_global (by rw[I.ok.glob];exact I.mod.glob.keeps I.bk) hm h) hd
def C7{E:Value->Shared->Prop}{pins:List (Addr×Obj)}{s:Shared}{σ:St}{H:Hp}{x:Str}{u:Value}{pos:Pos}{Q:Value->Shared->Prop}(I:Inv X pins σ H s)(hg:Gl X x)(hm:X.mg x=none)(hv:bootBuiltins x=some u)(h:Q u s)
 (hn:x≠"__name__":=by decide) (hd:(x==("__debug__":Str))=false:=by decide):wpAny (model X.prog X.w) X.A (eval (.Name x pos) X.env) Q E s:=by
 obtain⟨mb,h1,h2⟩:=I.mod.blt;exact Calls.Name_function_global I.ok.kind hg (Calls.loadGlobal_builtin (by rw[I.ok.glob];exact I.mod.glob.keeps I.bk) hm (by rw[I.ok.blt];exact h1.keeps I.bk) ((h2 x hn).trans hv) h) hd
variable{a b:Expr}{ta tb:TE}{pos:Pos}
def PC(X:Cx)(op:CmpOp)(a b:Expr)(t:TE):Prop:=
 ∀(pins:List (Addr×Obj)) (s:Shared) (σ:St) (H:Hp) (Q:VK),Inv X pins σ H s->t σ H Q ->
   wpAny (model X.prog X.w) X.A (eval a X.env) (λv s₁=>wpAny (model X.prog X.w) X.A (eval b X.env) (λu s₂=>wpAny (model X.prog X.w) X.A (compareOp op v u) (EP X pins σ Q) X.xe s₂) X.xe s₁) X.xe s
def Lv(b:Expr){op:CmpOp}(h:op≠.In)(h2:op≠.NotIn):behindInMarks op b=false:=by
 have e1:(op==CmpOp.In)=false:=by cases op<;>first|rfl|exact absurd rfl h
 have e2:(op==CmpOp.NotIn)=false:=by cases op<;>first|rfl|exact absurd rfl h2
 cases b<;>simp[behindInMarks,e1,e2]
def O3(ta:TE):TE:=λσ H Q=>ta σ H λx H1=>Q (.bl (decide (x=.non))) H1
def Ko(ta:TE):TE:=λσ H Q=>ta σ H λx H1=>Q (.bl (!decide (x=.non))) H1
def RelV.none_iff{x:V}{v:Value}(r:RelV x v):(v==Value.none)=decide (x=.non):=by
 cases x with
 |non=>cases r;rfl
 |bl _=>cases r;rfl
 |int _=>obtain⟨t,rfl⟩:=r;rfl
 |str _=>obtain⟨t,rfl⟩:=r;rfl
 |byt _=>obtain⟨t,rfl⟩:=r;rfl
 |flt _=>obtain⟨t,rfl⟩:=r;rfl
 |ref _=>cases r;rfl
 |ty _=>cases r;rfl
def Q2{j pos'}(ha:PE X a ta):PC X .Is a (.Constant .none j pos') (O3 ta):=by
 intro pins s σ H Q I h;refine thn (ha pins s σ H _ I h) λv s1 ⟨x,H1,I1,r1,q1⟩=>?_;exact Constant_none (is_none_gen ⟨.bl _,H1,I1,by rw[r1.none_iff];rfl,q1⟩)
def NQ{j pos'}(ha:PE X a ta):PC X .IsNot a (.Constant .none j pos') (Ko ta):=by
 intro pins s σ H Q I h;refine thn (ha pins s σ H _ I h) λv s1 ⟨x,H1,I1,r1,q1⟩=>?_;exact Constant_none (isnot_none_gen ⟨.bl _,H1,I1,by rw[r1.none_iff];rfl,q1⟩)
def tB(t:TE):TT:=λσ H Q=>t σ H λx H1=>∃c,x=.bl c/\Q c H1
def Q0{op:CmpOp}{t:TE}(h:PC X op a b t)(h1:behindInMarks op b=false:=by first|exact Lv _ (by decide) (by decide)|rfl):PE X (.Compare a [op] [b] pos) t:=λpins s σ H Q I hw=>wpAny_Compare1 (h pins s σ H Q I hw) h1
def Ll{op:CmpOp}{t:TE}(h:PC X op a b t)(h1:behindInMarks op b=false:=by first|exact Lv _ (by decide) (by decide)|rfl):PT X (.Compare a [op] [b] pos) (tB t):=by
 intro pins s σ H Q I hw;refine wpAny_isTrue_Compare1 (thn (h pins s σ H _ I hw) λv s1 h1=>thn h1 λu s2 h2=>thn h2 λc s3 ⟨x,H1,I1,r1,q1⟩=>?_) h1;obtain⟨d,rfl,q⟩:=q1;cases r1;exact wpAny_truthy_bool ⟨H1,I1,q⟩
variable{tA tB':TT}{rest:List Expr}
def Rt(t u:TT):TT:=λσ H Q=>t σ H λc H1=>if c=true then u σ H1 Q else Q false H1
def tOr(t u:TT):TT:=λσ H Q=>t σ H λc H1=>if c=true then Q true H1 else u σ H1 Q
def Rm(t:TT):TT:=λσ H Q=>t σ H λc H1=>Q (!c) H1
def VJ(ha:PT X a tA):PW X (.BoolOp .And [a] pos) tA:=by
 intro wh pins s σ H Q I h;refine isTrue_and (thn (ha pins s σ H Q I h) λc s1 e=>?_);cases c with
 |true=>exact isTrue_and_nil e
 |false=>exact e
def Y5(ha:PT X a tA):PW X (.BoolOp .Or [a] pos) tA:=by
 intro wh pins s σ H Q I h;refine isTrue_or (thn (ha pins s σ H Q I h) λc s1 e=>?_);cases c with
 |false=>exact isTrue_or_nil e
 |true=>exact e
def Y6(ha:PT X a tA)(hb:PW X (.BoolOp .And (b::rest) pos) tB'):PW X (.BoolOp .And (a::b::rest) pos) (Rt tA tB'):=by
 intro wh pins s σ H Q I h;refine isTrue_and (thn (ha pins s σ H _ I h) λc s1 ⟨H1,I1,q1⟩=>?_);cases c with
 |true=>exact hb wh pins s1 σ H1 Q I1 q1
 |false=>exact⟨H1,I1,q1⟩
def Zl(ha:PT X a tA)(hb:PW X (.BoolOp .Or (b::rest) pos) tB'):PW X (.BoolOp .Or (a::b::rest) pos) (tOr tA tB'):=by
 intro wh pins s σ H Q I h;refine isTrue_or (thn (ha pins s σ H _ I h) λc s1 ⟨H1,I1,q1⟩=>?_);cases c with
 |true=>exact⟨H1,I1,q1⟩
 |false=>exact hb wh pins s1 σ H1 Q I1 q1
def Y7(ha:PT X a tA):PT X (.UnaryOp .Not a pos) (Rm tA):=by
 intro pins s σ H Q I h;exact isTrue_not (ha pins s σ H (λc H1=>Q (!c) H1) I h)
def O8(ta tb:TE):TE:=λσ H Q=>ta σ H λx H1=>∃c,x=.bl c/\if c=true then tb σ H1 Q else Q (.bl false) H1
def Rl(ta tb:TE):TE:=λσ H Q=>ta σ H λx H1=>∃c,x=.bl c/\if c=true then Q (.bl true) H1 else tb σ H1 Q
def O2(ta:TE):TE:=λσ H Q=>ta σ H λx H1=>∃c,x=.bl c/\Q (.bl (!c)) H1
def YN{op}{t:TE}(h:PE X a t):PE X (.BoolOp op [a] pos) t:=λpins s σ H Q I hw=>BoolOp_one (h pins s σ H Q I hw)
def YV(ha:PE X a ta)(hb:PE X (.BoolOp .And (b::rest) pos) tb):PE X (.BoolOp .And (a::b::rest) pos) (O8 ta tb):=by
 intro pins s σ H Q I h;refine BoolOp_and (thn (ha pins s σ H _ I h) λv s1 ⟨x,H1,I1,r1,q1⟩=>?_);obtain⟨c,rfl,q1⟩:=q1;cases r1;refine wpAny_truthy_bool ?_;cases c with
 |true=>exact hb pins s1 σ H1 Q I1 q1
 |false=>exact⟨.bl false,H1,I1,rfl,q1⟩
def Zo(ha:PE X a ta)(hb:PE X (.BoolOp .Or (b::rest) pos) tb):PE X (.BoolOp .Or (a::b::rest) pos) (Rl ta tb):=by
 intro pins s σ H Q I h;refine BoolOp_or (thn (ha pins s σ H _ I h) λv s1 ⟨x,H1,I1,r1,q1⟩=>?_);obtain⟨c,rfl,q1⟩:=q1;cases r1;refine wpAny_truthy_bool ?_;cases c with
 |false=>exact hb pins s1 σ H1 Q I1 q1
 |true=>exact⟨.bl true,H1,I1,rfl,q1⟩
def YO(ha:PE X a ta):PE X (.UnaryOp .Not a pos) (O2 ta):=by
 intro pins s σ H Q I h;refine UnaryOp_ (thn (ha pins s σ H _ I h) λv s1 ⟨x,H1,I1,r1,q1⟩=>?_);obtain⟨c,rfl,q1⟩:=q1;cases r1;exact not_of (wpAny_truthy_bool ⟨.bl (!c),H1,I1,rfl,q1⟩)
def tIf(t:TT)(ta tb:TE):TE:=λσ H Q=>t σ H λc H1=>if c=true then ta σ H1 Q else tb σ H1 Q
def Su{c:Expr}(hc:PT X c tA)(ha:PE X a ta)(hb:PE X b tb):PE X (.IfExp c a b pos) (tIf tA ta tb):=by
 intro pins s σ H Q I h;refine wpAny_IfExp (thn (hc pins s σ H _ I h) λd s1 ⟨H1,I1,q1⟩=>?_);cases d with
 |true=>exact ha pins s1 σ H1 Q I1 q1
 |false=>exact hb pins s1 σ H1 Q I1 q1
end
def SqL(K:PySem.W.Frag)(H:Hp)(a:Addr)(xs:List V):Prop:=
 Rd H a (.lst xs) ∨
  ∃(o:Obj) (its:Array Value) (n:Nat),K.lookup a=some o/\o.cls=.type "list"/\o.dict=none/\o.data=.seq its n/\its.size<=sizeLine/\Vals xs its.toList
def SqT(K:PySem.W.Frag)(H:Hp)(a:Addr)(xs:List V):Prop:=
 Rd H a (.tup xs) ∨
  ∃(o:Obj) (its:Array Value) (n:Nat),K.lookup a=some o/\o.cls=.type "tuple"/\o.dict=none/\o.data=.seq its n/\its.size<=sizeLine/\Vals xs its.toList
def bA:Value->Option V
 |.none=>some .non
 |.bool b=>some (.bl b)
 |.int i _=>some (.int i)
 |.str x _=>some (.str x)
 |.bytes b _=>some (.byt b)
 |.float b _=>some (.flt b)
 |.ref a=>some (.ref a)
 |.type n=>some (.ty n)
 |_=>none
def RelV.abs{x:V}{u:Value}(r:RelV x u):bA u=some x:=by
 cases x with
 |non=>cases r;rfl
 |bl _=>cases r;rfl
 |int _=>obtain⟨t,rfl⟩:=r;rfl
 |str _=>obtain⟨t,rfl⟩:=r;rfl
 |byt _=>obtain⟨t,rfl⟩:=r;rfl
 |flt _=>obtain⟨t,rfl⟩:=r;rfl
 |ref _=>cases r;rfl
 |ty _=>cases r;rfl
def RelV.inj{x y:V}{u:Value}(r:RelV x u)(q:RelV y u):x=y:=Option.some.inj (r.abs.symm.trans q.abs)
def Vals.inj:∀{xs ys:List V} {us:List Value},Vals xs us->Vals ys us->xs=ys
 |_,_,_,.nil,.nil=>rfl
 |_,_,_,.cons r t,.cons r' t'=>by rw[r.inj r',Vals.inj t t']
section
variable{X:Cx}{pins:List (Addr×Obj)}{σ:St}{H:Hp}{s:Shared}{a:Addr}{xs ys:List V}
def SqL.of{K:PySem.W.Frag}(h:H a=some (.lst xs)):SqL K H a xs:=.inl (.inl h)
def SqT.of{K:PySem.W.Frag}(h:H a=some (.tup xs)):SqT K H a xs:=.inl (.inl h)
def Inv.list(I:Inv X pins σ H s)(h:SqL X.K H a xs):∃its:List Value,Vals xs its/\PlainL s.heap a its.toArray/\xs.length<=sizeLine:=by
 rcases h with h|⟨o,its,n,hk,hc,hd,hs,hz,r⟩
 .obtain⟨z,its,n,r,e⟩:=h.ok I.hok;exact⟨its,r,⟨_,n,e,rfl,rfl,rfl⟩,z⟩
 .refine⟨its.toList,r,⟨o,n,I.kIn a o hk,hc,hd,by simpa using hs⟩,?_⟩;have e:=r.length;simp only[Array.length_toList]at e;omega
def Inv.tuple(I:Inv X pins σ H s)(h:SqT X.K H a xs):∃its:List Value,Vals xs its/\IsTup s.heap a its.toArray/\xs.length<=sizeLine:=by
 rcases h with h|⟨o,its,n,hk,hc,_,hs,hz,r⟩
 .obtain⟨z,its,r,p⟩:=h.ok I.hok;exact⟨its,r,p.t,z⟩
 .refine⟨its.toList,r,⟨o,I.kIn a o hk,hc,n,by simpa using hs⟩,?_⟩;have e:=r.length;simp only[Array.length_toList]at e;omega
def Inv.tupleD(I:Inv X pins σ H s)(h:SqT X.K H a xs):∃ob,s.heap.get? a=some ob/\ob.cls=.type "tuple"/\ob.dict=none:=by
 rcases h with h|⟨o,its,n,hk,hc,hd,_⟩
 .obtain⟨_,_,_,o,e,c,_,d⟩:=h.ok I.hok;exact⟨o,e,c,d⟩
 .exact⟨o,I.kIn a o hk,hc,hd⟩
def Inv.list_inj(I:Inv X pins σ H s)(h:SqL X.K H a xs)(h':SqL X.K H a ys):xs=ys:=by
 obtain⟨its,r,⟨o,n,e,_,_,d⟩,_⟩:=I.list h;obtain⟨its',r',⟨o',n',e',_,_,d'⟩,_⟩:=I.list h';rw[e]at e';cases e';rw[d]at d'
 injection d' with d1 _
 have:its=its':=by simpa using congrArg Array.toList d1
 subst this;exact r.inj r'
def Inv.tuple_inj(I:Inv X pins σ H s)(h:SqT X.K H a xs)(h':SqT X.K H a ys):xs=ys:=by
 obtain⟨its,r,⟨o,e,_,n,d⟩,_⟩:=I.tuple h;obtain⟨its',r',⟨o',e',_,n',d'⟩,_⟩:=I.tuple h';rw[e]at e';cases e';rw[d]at d'
 injection d' with d1 _
 have:its=its':=by simpa using congrArg Array.toList d1
 subst this;exact r.inj r'
end
abbrev Cx.wish(X:Cx)(E:Value->Shared->Prop):Cx:={ X with xe:=E }
abbrev Cx.nox(X:Cx):Cx:=X.wish λ_ _=>False
def Cx.Ok.wish{X:Cx}(ok:X.Ok)(E:Value->Shared->Prop):(X.wish E).Ok:=
 ⟨ok.mod,ok.kind,ok.glob,ok.blt,ok.above,ok.inj,ok.has,ok.cab,ok.hd,ok.frames,ok.stk,ok.exf,ok.bs,ok.bsz,ok.noex,ok.exfs,ok.funs,ok.frf⟩
def Cx.Ok.unwish{X:Cx}{E:Value->Shared->Prop}(ok:(X.wish E).Ok):X.Ok:=
 ⟨ok.mod,ok.kind,ok.glob,ok.blt,ok.above,ok.inj,ok.has,ok.cab,ok.hd,ok.frames,ok.stk,ok.exf,ok.bs,ok.bsz,ok.noex,ok.exfs,ok.funs,ok.frf⟩
section
variable{X:Cx}{pins:List (Addr×Obj)}{σ:St}{H:Hp}{s:Shared}{E:Value->Shared->Prop}
def Inv.wish(I:Inv X pins σ H s)(E:Value->Shared->Prop):Inv (X.wish E) pins σ H s:=⟨I.ok.wish E,I.os,I.bare,I.base,I.loc,I.cell,I.free,I.freeC,I.pin,I.hok,I.len⟩
def Inv.unwish(I:Inv (X.wish E) pins σ H s):Inv X pins σ H s:=⟨I.ok.unwish,I.os,I.bare,I.base,I.loc,I.cell,I.free,I.freeC,I.pin,I.hok,I.len⟩
def SP.unwish{D:Ends}{f:Flow}{s':Shared}(h:SP (X.wish E) pins D f s'):SP X pins D f s':=by
 cases f with
 |next=>obtain⟨σ',H',I,q⟩:=h;exact⟨σ',H',I.unwish,q⟩
 |brk=>obtain⟨σ',H',I,q⟩:=h;exact⟨σ',H',I.unwish,q⟩
 |cont=>obtain⟨σ',H',I,q⟩:=h;exact⟨σ',H',I.unwish,q⟩
 |ret u=>obtain⟨v,σ',H',I,r,q⟩:=h;exact⟨v,σ',H',I.unwish,r,q⟩
def PSs.nox{st:List Stmt}{t:TS}(h:PSs X.nox st t):PSs X st t:=λpins s σ H D I hw=>
 wpAny_mono (h pins s σ H D (I.wish _) hw) (λ_ _ q=>q.unwish) λ_ _ z=>False.elim z
end
section
variable{X:Cx}{st:Stmt}{rest:List Stmt}{t u:TS}{e:Expr}{te:TE}{pos:Pos}
def IR:TS:=λD σ H=>D.nx σ H
def Rj(t u:TS):TS:=λD σ H=>t { D with nx:=u D } σ H
def VM:PSs X [] IR:=λ_ _ σ H _ I h=>wpAny_execs_nil ⟨σ,H,I,h⟩
def Sh(h1:PS X st t)(h2:PSs X rest u):PSs X (st::rest) (Rj t u):=by
 intro pins s σ H D I h;refine wpAny_execs_cons (thn (h1 pins s σ H { D with nx:=u D } I h) λf s1 q=>?_);cases f with
 |next=>
  obtain⟨σ',H',I',q⟩:=q;exact h2 pins s1 σ' H' D I' q
 |ret v=>exact q
 |brk=>exact q
 |cont=>exact q
def VL(h1:PS X st t):PSs X [st] t:=by
 intro pins s σ H D I h;refine wpAny_execs_cons (thn (h1 pins s σ H D I h) λf s1 q=>?_);cases f with
 |next=>exact wpAny_execs_nil q
 |ret v=>exact q
 |brk=>exact q
 |cont=>exact q
def VO:PS X (.Pass pos) IR:=λ_ _ σ H _ I h=>wpAny_Pass ⟨σ,H,I,h⟩
def Inv.quiet{pins:List (Addr×Obj)}{σ:St}{H:Hp}{s:Shared}(I:Inv X pins σ H s):interactive X.env=false:=by simp[interactive,I.ok.kind]
def O4(te:TE):TS:=λD σ H=>te σ H λ_ H1=>D.nx σ H1
def VP(he:PE X e te)(hs:swapsWith e none pos.line X.env=pure false:=by rfl):PS X (.Expr e pos) (O4 te):=by
 intro pins s σ H D I h;exact wpAny_Expr_any (thn (he pins s σ H _ I h) λv s1 ⟨x,H1,I1,r1,q1⟩=>⟨σ,H1,I1,q1⟩) I.quiet hs
def Rk(te:TE):TS:=λD σ H=>te σ H D.rt
def Y9(he:PE X e te):PS X (.Return (some e) pos) (Rk te):=by
 intro pins s σ H D I h;exact wpAny_Return_some (thn (he pins s σ H _ I h) λv s1 ⟨x,H1,I1,r1,q1⟩=>⟨x,σ,H1,I1,r1,q1⟩)
def Rq(c:TT)(t u:TS):TS:=λD σ H=>c σ H λb H1=>if b=true then t D σ H1 else u D σ H1
def Zm{c:Expr}{a b:List Stmt}{tc:TT}(hc:PT X c tc)(ha:PSs X a t)(hb:PSs X b u):PS X (.If c a b pos) (Rq tc t u):=by
 intro pins s σ H D I h;refine wpAny_If (thn (hc pins s σ H _ I h) λd s1 ⟨H1,I1,q1⟩=>?_);cases d with
 |true=>exact ha pins s1 σ H1 D I1 q1
 |false=>exact hb pins s1 σ H1 D I1 q1
def LM:TS:=λ_ _ _=>False
def Si:PS X st LM:=λ_ _ _ _ _ _ h=>h.elim
end
abbrev TG:=V->St->Hp->(St->Hp->Prop)->Prop
abbrev TGs:=List V->St->Hp->(St->Hp->Prop)->Prop
def PG(X:Cx)(target:Expr)(t:TG):Prop:=
 ∀(pins:List (Addr×Obj)) (s:Shared) (σ:St) (H:Hp) (v:V) (u:Value) (Q:St->Hp->Prop),Inv X pins σ H s->RelV v u->t v σ H Q ->
   wpAny (model X.prog X.w) X.A (assign target X.env u) (λ_ s'=>∃σ' H',Inv X pins σ' H' s'/\Q σ' H') X.xe s
def PGs(X:Cx)(ts:List Expr)(t:TGs):Prop:=
 ∀(pins:List (Addr×Obj)) (s:Shared) (σ:St) (H:Hp) (vs:List V) (us:List Value) (Q:St->Hp->Prop),Inv X pins σ H s->Vals vs us->t vs σ H Q ->
   wpAny (model X.prog X.w) X.A (assignInOrder ((assignEach ts X.env).map (·.2)) us) (λ_ s'=>∃σ' H',Inv X pins σ' H' s'/\Q σ' H') X.xe s
abbrev TZ:=V->V->V->Hp->(Hp->Prop)->Prop
def ZK(X:Cx)(t:TZ):Prop:=
 ∀(pins:List (Addr×Obj)) (s:Shared) (σ:St) (H:Hp) (o i v:V) (ov iv u:Value) (Q:Hp->Prop),Inv X pins σ H s->RelV o ov->RelV i iv->RelV v u->t o i v H Q ->
   wpAny (model X.prog X.w) X.A (setItem ov iv u) (λ_ s'=>∃H',Inv X pins σ H' s'/\Q H') X.xe s
abbrev TIp:=V->V->Hp->VK->Prop
def PIp(X:Cx)(op:Operator)(t:TIp):Prop:=
 ∀(pins:List (Addr×Obj)) (s:Shared) (σ:St) (H:Hp) (x y:V) (v u:Value) (Q:VK),Inv X pins σ H s->RelV x v->RelV y u->t x y H Q ->
   wpAny (model X.prog X.w) X.A (inplaceOp op v u) (EP X pins σ Q) X.xe s
section
variable{X:Cx}{pos:Pos}
def Dz(i:Nat):TG:=λv σ H Q=>Q (σ.set i (some v)) H
def Vc{i:Nat}{x:Str}(hN:X.N.Nodup)(hi:X.N[i]?=some x)(hx:Loc X.env.scope x)(hf:X.fn x=true∨X.env.scope.names.lookup x=some .local:=by first|exact .inl rfl|exact .inr rfl|assumption):PG X (.Name x pos) (Dz i):=by
 intro pins s σ H v u Q I r h;exact wpAny_assign_Name (Hr I hN hi hx r (λs' I'=>⟨_,H,I',h⟩) hf)
def TJ:TGs:=λvs σ H Q=>vs=[]/\Q σ H
def Ow(t:TG)(u:TGs):TGs:=λvs σ H Q=>∃v r,vs=v::r/\t v σ H λσ' H'=>u r σ' H' Q
def Va:PGs X [] TJ:=by
 intro pins s σ H vs us Q I r h;obtain⟨e,h⟩:=h;subst e;cases r;exact assignInOrder_nil ⟨σ,H,I,h⟩
def Sq{e:Expr}{es:List Expr}{t:TG}{u:TGs}(h1:PG X e t)(h2:PGs X es u)
 (hs:(assignEach (e::es) X.env).map (·.2)=assign e X.env::(assignEach es X.env).map (·.2):=by rfl):PGs X (e::es) (Ow t u):=by
 intro pins s σ H vs us Q I r h;obtain⟨v,vr,e1,h⟩:=h;subst e1;cases r with
 |cons r rr=>
  rw[hs];refine assignInOrder_cons (thn (h1 pins s σ H _ _ _ I r h) λ_ s1 ⟨σ1,H1,I1,q1⟩=>?_);exact h2 pins s1 σ1 H1 _ _ Q I1 rr q1
def Ov(K:PySem.W.Frag)(n:Nat)(t:TGs):TG:=λv σ H Q=>∃a xs,v=.ref a/\SqT K H a xs/\xs.length=n/\t xs σ H Q
def YG{es:List Expr}{k:Nat}{t:TGs}{n:Nat}(hc:X.calm=true)(h:PGs X es t)
 (hn:(assignEach es X.env).length=n:=by rfl) (hst:(assignEach es X.env).findIdx? (·.1)=none:=by rfl):PG X (.Tuple es k pos) (Ov X.K n t):=by
 intro pins s σ H v u Q I r hw;obtain⟨a,xs,e1,hq,hl,hw⟩:=hw;subst e1;cases r;obtain⟨its,rv,ht,hz⟩:=I.tuple hq;refine assign_Tuple_tuple (I.ok.hd hc) ht (by simp[hn,<- hl,rv.length]) hst λh' hx=>?_;have I1:Inv X pins σ H { s with heap:=h' }:=I.kept (t':=s.toks) λb o e=>hx b o (ne_of_lt (Heap.lt_size e)) e;exact h pins _ σ H xs _ Q I1 (by simpa using rv) hw
def TF(to ti:TE)(t:TZ):TG:=λv σ H Q=>to σ H λo H1=>ti σ H1 λi H2=>t o i v H2 λH3=>Q σ H3
def YH{o i:Expr}{to ti:TE}{t:TZ}(ho:PE X o to)(hi:PE X i ti)(hs:ZK X t)
 (ha:∀v,assign (.Subscript o i pos) X.env v=(do
  let ov <- holding [v] (eval o X.env)
  let iv <- holding [v,ov] (eval i X.env)
  standAt pos
  holding [v,ov,iv] (setItem ov iv v)
  release [v,ov,iv] []):=by intro _;rfl):PG X (.Subscript o i pos) (TF to ti t):=by
 intro pins s σ H v u Q I r h;rw[ha];refine wpAny_bind (wpAny_holding (thn (ho pins s σ H _ I h) λov s1 ⟨x,H1,I1,r1,q1⟩=>?_));refine wpAny_bind (wpAny_holding (thn (hi pins s1 σ H1 _ I1 q1) λiv s2 ⟨y,H2,I2,r2,q2⟩=>?_));refine wpAny_bind (wpAny_standAt (wpAny_bind (wpAny_holding (thn (hs pins s2 σ H2 x y v ov iv u _ I2 r1 r2 r q2) λ_ s3 ⟨H3,I3,q3⟩=>?_))));exact wpAny_release ⟨σ,H3,I3,q3⟩
def Ej(te:TE)(g:TG):TS:=λD σ H=>te σ H λx H1=>g x σ H1 D.nx
def Pw{tg e:Expr}{te:TE}{g:TG}(he:PE X e te)(hg:PG X tg g)(hs:swapsWithSole [tg] e pos.line X.env=pure false:=by rfl)(hw:swappedStores [tg] e X.env=pure none:=by rfl)
 (h1:(assignEach [tg] X.env).map (·.2)=[assign tg X.env]:=by rfl):PS X (.Assign [tg] e pos) (Ej te g):=by
 intro pins s σ H D I h;refine wpAny_Assign_stores (thn (he pins s σ H _ I h) λv s1 ⟨x,H1,I1,r1,q1⟩=>?_) hs hw;rw[h1];exact thn (hg pins s1 σ H1 x v _ I1 r1 q1) λ_ s2 q=>q
def Y8{i:Nat}{x:Str}{e:Expr}{te:TE}{pos':Pos}(hN:X.N.Nodup)(hi:X.N[i]?=some x)(hx:Loc X.env.scope x)(he:PE X e te)(hs:swapsWith e (some (.Name x pos')) pos.line X.env=pure false:=by rfl)(hf:X.fn x=true∨X.env.scope.names.lookup x=some .local:=by first|exact .inl rfl|exact .inr rfl|assumption):
 PS X (.Assign [.Name x pos'] e pos) (Ej te (Dz i)):=by
 intro pins s σ H D I h;refine wpAny_Assign_Name (thn (he pins s σ H _ I h) λv s1 ⟨y,H1,I1,r1,q1⟩=>?_) hs;exact Hr I1 hN hi hx r1 (λs2 I2=>⟨_,H1,I2,q1⟩) hf
def O7(i:Nat)(te:TE)(ti:TIp):TS:=λD σ H=>∃x,σ[i]?=some (some x)/\te σ H λy H1=>ti x y H1 λz H2=>D.nx (σ.set i (some z)) H2
def YB{i:Nat}{x:Str}{e:Expr}{te:TE}{op:Operator}{ti:TIp}{pos':Pos}(hN:X.N.Nodup)(hi:X.N[i]?=some x)(hx:Loc X.env.scope x)(he:PE X e te)(ho:PIp X op ti)(hf:X.fn x=true∨X.env.scope.names.lookup x=some .local:=by first|exact .inl rfl|exact .inr rfl|assumption):
 PS X (.AugAssign (.Name x pos') op e pos) (O7 i te ti):=by
 intro pins s σ H D I h;obtain⟨v,e1,h⟩:=h;obtain⟨m,hn,hl⟩:=I.loc;have vis:Vis X.env.scope x:=by rcases hx with k|k;exact .inl k;exact .inr (.inl k)
 obtain⟨u,r,l⟩:=hl i x v hi e1 vis;refine wpAny_AugAssign_Name ?_;have go:wpAny (model X.prog X.w) X.A (eval e X.env) (λw s₂=>wpAny (model X.prog X.w) X.A (inplaceOp op u w) (λr s₃=>wpAny (model X.prog X.w) X.A (storeName X.env x r) (λ_=>SP X pins D .next) X.xe s₃) X.xe s₂) X.xe s:=by
  refine thn (he pins s σ H _ I h) λw s1 ⟨y,H1,I1,r1,q1⟩=>?_;refine thn (ho pins s1 σ H1 v y u w _ I1 r r1 q1) λz s2 ⟨zv,H2,I2,r2,q2⟩=>?_;exact Hr I2 hN hi hx r2 (λs3 I3=>⟨_,H2,I3,q2⟩) hf
 rcases l with⟨hk,hm⟩|⟨hk,c,hc,hcell⟩
 .exact wpAny_loadName_local I.ok.kind hk hn hm go
 .rcases hk with hk|hk
  .exact wpAny_loadName_cell I.ok.kind hk hc hcell go
  .rcases hx with k|k
   .have:X.env.scope.names.lookup x=some .free:=hk;rw[k]at this;cases this
   .have:X.env.scope.names.lookup x=some .free:=hk;rw[k]at this;cases this
def ipI(f:Int->Int->Int):TIp:=λx y H Q=>∃i j,x=.int i/\y=.int j/\Q (.int (f i j)) H
def Z1:PIp X .Sub (ipI λi j=>i-j):=by
 intro pins s σ H x y v u Q I r1 r2 h;obtain⟨i,j,e1,e2,q⟩:=h;subst e1;subst e2;obtain⟨t,rfl⟩:=r1;obtain⟨t',rfl⟩:=r2;exact isub_int ⟨.int _,H,I.tok _,⟨_,rfl⟩,q⟩
end
structure It where
 go:Nat->Hp->Prop
 yld:Nat->Hp->V->Hp->Prop
 stop:Nat->Hp->Prop
def FpOk(X:Cx)(pins:List (Addr×Obj))(H:Hp)(b:Addr):Prop:=
 H b=none/\b≠X.env.locals/\b∉X.fs/\(b∈X.ex∨X.s₀.heap.objs.size<=b)/\(∀x c,X.env.cells.lookup x=some c->c≠b)/\∀p∈X.pn++pins,p.1≠b
def Inv.fpOk{X:Cx}{pins:List (Addr×Obj)}{σ:St}{H H':Hp}{s:Shared}{b:Addr}(I:Inv X pins σ H s)(hb:s.heap.objs.size<=b)(hn:H' b=none):FpOk X pins H' b:=by
 refine⟨hn,ne_of_gt (lt_of_lt_of_le I.lt hb),I.nofs hb,.inr (le_trans I.sz hb),λx c e z=>?_,λp hp z=>?_⟩
 .obtain⟨v,q⟩:=I.cell x c e;exact absurd (lt_of_lt_of_le q.lt (by rw[z];exact hb)) (lt_irrefl _)
 .exact absurd (lt_of_lt_of_le (Heap.lt_size (I.pin p hp).1) (by rw[z];exact hb)) (lt_irrefl _)
structure Turn(P:Program)(w:World)(K:PySem.W.Frag)(tg:Expr)(J:It)(fp:List Addr)(it:Addr)(tn:Nat->Heap->Prop):Prop where
 mem:it∈fp
 obj:∀i h,tn i h->∀b∈fp,∃o,h.get? b=some o/\∀v,o.data≠.cell v
 keep:∀i h h',tn i h->(∀b∈fp,∀o,h.get? b=some o->h'.get? b=some o)->tn i h'
 item:∀(X:Cx),X.prog=P->X.w=w->X.K=K->X.calm=true->∀(i:Nat) (pins:List (Addr×Obj)) (s:Shared) (σ:St) (H:Hp) (E:Value->Shared->Prop),Inv X pins σ H s->(∀b∈fp,FpOk X pins H b)->tn i s.heap->J.go i H ->
  wpAny (model P w) X.A (pyNext (.ref it)) (λr s1=>∃u,r=some u /\
   wpAny (model P w) X.A (letOwnedTupleGo tg (.ref it) u) (λ_ s2=>∃x H',Inv X pins σ H' s2/\RelV x u/\J.yld i H x H'/\tn (i+1) s2.heap/\∀b∈fp,H' b=none) E s1) E s
 done:∀(X:Cx),X.prog=P->X.w=w->X.K=K->X.calm=true->∀(i:Nat) (pins:List (Addr×Obj)) (s:Shared) (σ:St) (H:Hp) (E:Value->Shared->Prop),Inv X pins σ H s->(∀b∈fp,FpOk X pins H b)->tn i s.heap->J.stop i H ->
  wpAny (model P w) X.A (pyNext (.ref it)) (λr s1=>r=none/\Inv X pins σ H s1) E s
 self:∀(A:Around) (i:Nat) (s:Shared) (Q:Value->Shared->Prop) (E:Value->Shared->Prop),tn i s.heap->Q (.ref it) s->wpAny (model P w) A (pyIter (.ref it)) Q E s
abbrev TI:=St->Hp->(It->Hp->Prop)->Prop
def PIE(X:Cx)(pins:List (Addr×Obj))(σ:St)(tg:Expr)(R:It->Hp->Prop)(itv:Value)(s2:Shared):Prop:=
 ∃(it:Addr) (fp:List Addr) (tn:Nat->Heap->Prop) (J:It) (H':Hp),itv=.ref it/\Inv X pins σ H' s2/\Turn X.prog X.w X.K tg J fp it tn/\tn 0 s2.heap/\(∀b∈fp,FpOk X pins H' b)/\R J H'
def PI(X:Cx)(tg iter:Expr)(wi:TI):Prop:=
 ∀(pins:List (Addr×Obj)) (s:Shared) (σ:St) (H:Hp) (R:It->Hp->Prop),Inv X pins σ H s->wi σ H R ->
   wpAny (model X.prog X.w) X.A (eval iter X.env) (λv s1=>wpAny (model X.prog X.w) X.A (pyIter v) (PIE X pins σ tg R) X.xe s1) X.xe s
def Kz{M:Model}{A:Around}{E:Value->Shared->Prop}{s:Shared}{tg:Expr}{it:Addr}{u:Value}{o:Obj}{n:String}{vs:Array Value}{Q:Unit->Shared->Prop}(ho:s.heap.get? it=some o)(hc:o.cls=.type n)(hd:o.data=.fields vs)
 (hn:["enumerate","zip","dict_itemiterator","dict_reverseitemiterator","odict_iterator","itertools.zip_longest","itertools.pairwise"].contains n=false) (hQ:Q () s):wpAny M A (letOwnedTupleGo tg (.ref it) u) Q E s:=by
 unfold letOwnedTupleGo;cases tg<;>first
  |exact wpAny_pure hQ
  | (cases u<;>first
   |exact wpAny_pure hQ
   | (refine wpAny_bind (wpAny_load ho ?_)
      rw[hc,hd];show wpAny M A (if(["enumerate","zip","dict_itemiterator","dict_reverseitemiterator","odict_iterator","itertools.zip_longest","itertools.pairwise"].contains n&&vs[0]?==some (rawInt _))=true then _ else _) Q E s;rw[if_neg (by intro h;rw[hn,Bool.false_and]at h;cases h)];exact wpAny_pure hQ))
def Itl(K:PySem.W.Frag)(a:Addr):It:=
 ⟨λi H=>∃xs x,SqL K H a xs/\xs[i]?=some x,λi H x H'=>H'=H/\∀xs,SqL K H a xs->xs[i]?=some x,λi H=>∃xs,SqL K H a xs/\xs.length<=i⟩
def Itt(K:PySem.W.Frag)(a:Addr):It:=
 ⟨λi H=>∃xs x,SqT K H a xs/\xs[i]?=some x,λi H x H'=>H'=H/\∀xs,SqT K H a xs->xs[i]?=some x,λi H=>∃xs,SqT K H a xs/\xs.length<=i⟩
def Itr(lo:Int)(n:Nat):It:=⟨λi _=>i<n,λi H x H'=>H'=H/\x=.int (lo+i),λi _=>n<=i⟩
def PU{P:Program}{w:World}{K:PySem.W.Frag}{tg:Expr}(a it:Addr):Turn P w K tg (Itl K a) [it] it (λi h=>h.IsListIter it a i) where
 mem:=by simp
 obj:=λi h st b hb=>by
  have e:b=it:=by simpa using hb
  subst e;obtain⟨o,e,c,d⟩:=st;exact⟨o,e,λv z=>by rw[d]at z;cases z⟩
 keep:=λi h h' st k=>st.at λo e=>k it (by simp) o e
 item:=by
  intro X hP hw hK hc i pins s σ H E I hf st hg;subst hP hw hK;obtain⟨xs,x,hq,hx⟩:=hg;obtain⟨its,rv,p,hz⟩:=I.list hq;obtain⟨u,hu,ru⟩:=rv.get hx;obtain⟨f0,f1,f2,f3,f4,f5⟩:=hf it (by simp);refine wpAny_pyNext_list_item st p.isList (x:=u) (by simpa using hu) λh' st' sb=>?_;have I1:Inv X pins σ H { s with heap:=h' }:=I.turned (t':=s.toks) (λb o hb e=>(sb.2 b hb).trans e) f0 f1 f3 f4 f5;obtain⟨o,e,c,d⟩:=id st';exact⟨u,rfl,Kz (s:={ s with heap:=h' }) e c d (by decide) ⟨x,H,I1,ru,⟨rfl,λys hy=>by rw[I.list_inj hy hq];exact hx⟩,st',λb hb=>(hf b hb).1⟩⟩
 done:=by
  intro X hP hw hK hc i pins s σ H E I hf st hg;subst hP hw hK;obtain⟨xs,hq,hx⟩:=hg;obtain⟨its,rv,p,hz⟩:=I.list hq;obtain⟨f0,f1,f2,f3,f4,f5⟩:=hf it (by simp);have hl:=rv.length;exact wpAny_pyNext_list_end (I.ok.hd hc) st p.isList (by simp;omega) λh' eb=>⟨rfl,I.turned (t':=s.toks) (λb o hb e=>eb b o hb e) f0 f1 f3 f4 f5⟩
 self:=λ_ _ _ _ _ st h=>wpAny_pyIter_listiter st h
def Nv{P:Program}{w:World}{K:PySem.W.Frag}{tg:Expr}(a it:Addr):Turn P w K tg (Itt K a) [it] it (λi h=>h.IsTupleIter it a i) where
 mem:=by simp
 obj:=λi h st b hb=>by
  have e:b=it:=by simpa using hb
  subst e;obtain⟨o,e,c,d⟩:=st;exact⟨o,e,λv z=>by rw[d]at z;cases z⟩
 keep:=λi h h' st k=>st.at λo e=>k it (by simp) o e
 item:=by
  intro X hP hw hK hc i pins s σ H E I hf st hg;subst hP hw hK;obtain⟨xs,x,hq,hx⟩:=hg;obtain⟨its,rv,p,hz⟩:=I.tuple hq;obtain⟨u,hu,ru⟩:=rv.get hx;obtain⟨f0,f1,f2,f3,f4,f5⟩:=hf it (by simp);refine wpAny_pyNext_tuple_item st (show s.heap.IsTuple a its.toArray from p) (x:=u) (by simpa using hu) λh' st' sb=>?_;have I1:Inv X pins σ H { s with heap:=h' }:=I.turned (t':=s.toks) (λb o hb e=>(sb.2 b hb).trans e) f0 f1 f3 f4 f5;obtain⟨o,e,c,d⟩:=id st';exact⟨u,rfl,Kz (s:={ s with heap:=h' }) e c d (by decide) ⟨x,H,I1,ru,⟨rfl,λys hy=>by rw[I.tuple_inj hy hq];exact hx⟩,st',λb hb=>(hf b hb).1⟩⟩
 done:=by
  intro X hP hw hK hc i pins s σ H E I hf st hg;subst hP hw hK;obtain⟨xs,hq,hx⟩:=hg;obtain⟨its,rv,p,hz⟩:=I.tuple hq;obtain⟨f0,f1,f2,f3,f4,f5⟩:=hf it (by simp);have hl:=rv.length;exact wpAny_pyNext_tuple_end (I.ok.hd hc) st (show s.heap.IsTuple a its.toArray from p) (by simp;omega) λh' eb=>⟨rfl,I.turned (t':=s.toks) (λb o hb e=>eb b o hb e) f0 f1 f3 f4 f5⟩
 self:=λ_ _ _ _ _ st h=>wpAny_pyIter_tupleiter st h
def Nw{P:Program}{w:World}{K:PySem.W.Frag}{tg:Expr}(it:Addr)(lo:Int)(n:Nat):Turn P w K tg (Itr lo n) [it] it (λi h=>IsRangeIter h it (lo+(i:Nat)*1) ((n:Int)-(i:Nat)) 1) where
 mem:=by simp
 obj:=λi h st b hb=>by
  have e:b=it:=by simpa using hb
  subst e;exact⟨_,st,λv z=>by
   have z':Data.fields _=Data.cell v:=z;cases z'⟩
 keep:=λi h h' st k=>k it (by simp) _ st
 item:=by
  intro X hP hw hK hc i pins s σ H E I hf st hg;subst hP hw hK;obtain⟨f0,f1,f2,f3,f4,f5⟩:=hf it (by simp);have W:=Walks.range (prog:=X.prog) (w:=X.w) (I.ok.hd hc) it lo 1 n;refine W.item i s _ _ hg st λv h' tk hv st' kk=>?_;obtain⟨t,rfl⟩:=hv;have I1:Inv X pins σ H { s with heap:=h',toks:=tk }:=I.turned (λb o hb e=>kk b o (by simpa using hb) e) f0 f1 f3 f4 f5;refine⟨_,rfl,Kz (s:={ s with heap:=h',toks:=tk }) (n:="range_iterator") st' rfl rfl (by decide) ⟨.int (lo+i),H,I1,⟨t,?_⟩,⟨rfl,rfl⟩,st',λb hb=>(hf b hb).1⟩⟩;rw[Int.mul_one]
 done:=by
  intro X hP hw hK hc i pins s σ H E I hf st hg;subst hP hw hK;obtain⟨f0,f1,f2,f3,f4,f5⟩:=hf it (by simp);exact wpAny_pyNext_range_end (I.ok.hd hc) st (by have:n<=i:=hg;omega) λh' eb=>⟨rfl,I.turned (t':=s.toks) (λb o hb e=>eb b o hb e) f0 f1 f3 f4 f5⟩
 self:=λ_ _ _ _ _ st h=>wpAny_pyIter_rangeiter st h
section
variable{X:Cx}{tg:Expr}
def HW(K:PySem.W.Frag)(tl:TE):TI:=λσ H R=>tl σ H λx H1=>∃a,x=.ref a/\(∃xs,SqL K H1 a xs)/\R (Itl K a) H1
def Os(K:PySem.W.Frag)(tl:TE):TI:=λσ H R=>tl σ H λx H1=>∃a,x=.ref a/\(∃xs,SqT K H1 a xs)/\R (Itt K a) H1
def VY{l:Expr}{tl:TE}(hl:PE X l tl):PI X tg l (HW X.K tl):=by
 intro pins s σ H R I h;refine thn (hl pins s σ H _ I h) λv s1 ⟨x,H1,I1,r1,q1⟩=>?_;obtain⟨a,e,⟨xs,hq⟩,q⟩:=q1;subst e;cases r1;obtain⟨its,rv,p,hz⟩:=I1.list hq;refine wpAny_pyIter_list p.isList ?_;refine⟨s1.heap.objs.size,[s1.heap.objs.size],_,_,H1,rfl,I1.kept (t':=s1.toks) λb o e=>Heap.get?_push_of_some _ e,PU a _,⟨_,Heap.get?_push_size _ rfl,rfl,rfl⟩,λb hb=>?_,q⟩;have e:b=s1.heap.objs.size:=by simpa using hb
 subst e;exact I1.fpOk (le_refl _) (I1.hok.fresh (le_refl _))
def YE{l:Expr}{tl:TE}(hl:PE X l tl):PI X tg l (Os X.K tl):=by
 intro pins s σ H R I h;refine thn (hl pins s σ H _ I h) λv s1 ⟨x,H1,I1,r1,q1⟩=>?_;obtain⟨a,e,⟨xs,hq⟩,q⟩:=q1;subst e;cases r1;obtain⟨its,rv,p,hz⟩:=I1.tuple hq;refine wpAny_pyIter_tuple (show s1.heap.IsTuple a its.toArray from p) ?_;refine⟨s1.heap.objs.size,[s1.heap.objs.size],_,_,H1,rfl,I1.kept (t':=s1.toks) λb o e=>Heap.get?_push_of_some _ e,Nv a _,⟨_,Heap.get?_push_size _ rfl,rfl,rfl⟩,λb hb=>?_,q⟩;have e:b=s1.heap.objs.size:=by simpa using hb
 subst e;exact I1.fpOk (le_refl _) (I1.hok.fresh (le_refl _))
def SJ{pins:List (Addr×Obj)}{σ:St}{H:Hp}{s:Shared}{R:It->Hp->Prop}{E:Value->Shared->Prop}{lo hi:Int}{t u v:Tok}{tk:Nat}(I:Inv X pins σ H s)(h1:-(2^62)<=lo)(h2:lo<2^62)(h3:-(2^62)<=hi)(h4:hi<2^62)
 (q:R (Itr lo (hi-lo).toNat) H):wpAny (model X.prog X.w) X.A (pyIter (.ref s.heap.objs.size)) (PIE X pins σ tg R) E { s with heap:=s.heap.push { cls:=.type "range",data:=.fields #[.int lo t,.int hi u,.int 1 v] },toks:=tk }:=by
 refine wpAny_pyIter_range (IsRange.new ..) (small_one h1 h2 h3 h4) ?_;have I1:Inv X pins σ H { s with heap:=s.heap.push { cls:=.type "range",data:=.fields #[.int lo t,.int hi u,.int 1 v] },toks:=tk }:=I.kept λb o e=>Heap.get?_push_of_some _ e;refine⟨(s.heap.push { cls:=.type "range",data:=.fields #[.int lo t,.int hi u,.int 1 v] }).objs.size,[(s.heap.push { cls:=.type "range",data:=.fields #[.int lo t,.int hi u,.int 1 v] }).objs.size],_,_,H,rfl,
  I1.kept (t':=tk) λb o e=>Heap.get?_push_of_some _ e,Nw _ lo (hi-lo).toNat,?_,λb hb=>?_,q⟩
 .have e1:lo+((0:Nat):Int)*1=lo:=by simp
  have e2:(((hi-lo).toNat:Nat):Int)-((0:Nat):Int)=Builtin.Range.rangeSize lo hi 1:=by rw[rangeSize_one];split<;>omega
  show IsRangeIter _ _ (lo+((0:Nat):Int)*1) ((((hi-lo).toNat:Nat):Int)-((0:Nat):Int)) 1;rw[e1,e2];exact Heap.get?_push_size _ rfl
 .have e:b=(s.heap.push { cls:=.type "range",data:=.fields #[.int lo t,.int hi u,.int 1 v] }).objs.size:=by simpa using hb
  subst e;exact I1.fpOk (le_refl _) (I1.hok.fresh (le_refl _))
def Ot(ta:TA):TI:=λσ H R=>ta σ H λvs H1=>∃j:Int,vs=[.int j]/\-(2^62)<=j/\j<2^62/\R (Itr 0 j.toNat) H1
def Pz{a:Expr}{ta:TA}{p pos:Pos}(hg:Gl X "range")(hm:X.mg "range"=none)(ha:PA X [a] ta)(hs:starEach [a] X.env=[(false,eval a X.env)]:=by rfl):PI X tg (.Call (.Name "range" p) [a] [] pos) (Ot ta):=by
 intro pins s σ H R I h;refine Call_ (C7 I hg hm boot_range (PyProof.Rows.callWith_type1 (thn (ha pos pins s σ H _ I h) λus s1 ⟨vs,H1,I1,r1,q1⟩=>?_) hs rfl));obtain⟨j,e,q1,q2,q⟩:=q1;subst e;cases r1 with
 |cons r rr=>
  cases rr;obtain⟨t,rfl⟩:=r;exact call_range_1 (SJ I1 (by omega) (by omega) q1 q2 (by simpa using q))
def Rr(wi:TI)(g:TG)(tb:TS):TS:=λD σ H=>wi σ H λJ H1=>∃W:Nat->Nat->St->Hp->Prop,(∃m,W 0 m σ H1)/\∀i m σ H,W i m σ H ->
 (J.stop i H/\D.nx σ H)∨(J.go i H/\∃N:St->Hp->Prop,(∀σ' H',N σ' H'->∃m',m'<m/\W (i+1) m' σ' H')/\∀x H',J.yld i H x H'->g x σ H' λσ2 H2=>tb { D with nx:=N,ct:=N,bk:=D.nx } σ2 H2)
def FT(fp:List Addr)(h:Heap):List (Addr×Obj):=fp.filterMap λb=>(h.get? b).map λo=>(b,o)
def Cz{fp:List Addr}{h:Heap}{b:Addr}{o:Obj}(hb:b∈fp)(e:h.get? b=some o):(b,o)∈FT fp h:=List.mem_filterMap.mpr ⟨b,hb,by rw[e];rfl⟩
def Q7{fp:List Addr}{h:Heap}{p:Addr×Obj}(hp:p∈FT fp h):p.1∈fp/\h.get? p.1=some p.2:=by
 obtain⟨b,hb,e⟩:=List.mem_filterMap.mp hp;cases q:h.get? b with
 |none=>rw[q]at e;cases e
 |some o=>
  rw[q]at e;have e':(b,o)=p:=Option.some.inj e;subst e';exact⟨hb,q⟩
def Inv.pinned{pins:List (Addr×Obj)}{σ:St}{H:Hp}{s:Shared}{fp:List Addr}(I:Inv X pins σ H s)(hf:∀b∈fp,FpOk X pins H b)(ho:∀b∈fp,∃o,s.heap.get? b=some o/\∀v,o.data≠.cell v):Inv X (pins++FT fp s.heap) σ H s:=
 I.pins_of λp hp=>(mem_append.mp hp).elim (λz=>I.pin p (mem_append_right _ z)) λz=>by
  obtain⟨hb,e⟩:=Q7 z;obtain⟨f0,f1,f2,_⟩:=hf p.1 hb;obtain⟨o,e',d⟩:=ho p.1 hb;rw[e]at e';cases e';exact⟨e,f0,f1,f2,d⟩
def Inv.unpinned{pins pl:List (Addr×Obj)}{σ:St}{H:Hp}{s:Shared}(I:Inv X (pins++pl) σ H s):Inv X pins σ H s:=I.pins_of λp hp=>I.pin p (mem_append_right _ (mem_append_left _ hp))
def YA{iter:Expr}{body:List Stmt}{wi:TI}{g:TG}{tb:TS}{pos:Pos}(hp:PassesOwn (model X.prog X.w) X.A X.env X.xe)(hc:X.calm=true)(hi:PI X tg iter wi)(hg:PG X tg g)(hb:PSs X body tb)
 (hs:∀x,foldedSetIterable iter X.env x=pure x:=by intro _;rfl):PS X (.For tg iter body [] pos) (Rr wi g tb):=by
 intro pins s σ H D I h;refine wpAny_For (thn (hi pins s σ H _ I h) λv s1 h1=>thn h1 λitv s2 h2=>?_) hs;obtain⟨it,fp,tn,J,H2,e,I2,T,st2,f2,W,⟨m0,w0⟩,turn⟩:=h2;subst e
 -- what stays true of the iterator's objects through the loop
 have stat:∀{H':Hp},(∀b∈fp,H' b=none)->∀b∈fp,FpOk X pins H' b:=λhn b hb=>⟨hn b hb,(f2 b hb).2⟩
 refine codeAny_forLoop_any (λn s'=>∃i σ' H',Inv X pins σ' H' s'/\tn i s'.heap/\(∀b∈fp,H' b=none)/\W i n σ' H') ?_ m0 ⟨0,σ,H2,I2,st2,λb hb=>(f2 b hb).1,w0⟩;rintro n s3 ⟨i,σ3,H3,I3,st3,fr3,w3⟩;rcases turn i n σ3 H3 w3 with⟨stop,qn⟩|⟨go,N,hN,step⟩
 .refine wpAny_passesOwn hp (thn (T.done X rfl rfl rfl hc i pins s3 σ3 H3 X.xe I3 (stat fr3) st3 stop) λr s4 ⟨hr,I4⟩=>?_);subst hr;exact wpAny_execs_nil ⟨σ3,H3,I4,qn⟩
 .refine wpAny_passesOwn hp (thn (T.item X rfl rfl rfl hc i pins s3 σ3 H3 X.xe I3 (stat fr3) st3 go) λr s4 ⟨u,hr,h4⟩=>?_);subst hr;refine wpAny_passesOwn hp (thn h4 λ_ s5 ⟨x,H5,I5,r5,y5,st5,fr5⟩=>?_);have I5':=I5.pinned (stat fr5) (T.obj _ _ st5);refine wpAny_passesOwn hp (thn (hg _ s5 σ3 H5 x u _ I5' r5 (step x H5 y5)) λ_ s6 ⟨σ6,H6,I6,q6⟩=>?_);refine wpAny_passesOwn hp (thn (hb _ s6 σ6 H6 _ I6 q6) λf s7 q7=>?_);have again:∀{σ7:St} {H7:Hp},Inv X (pins++FT fp s5.heap) σ7 H7 s7->N σ7 H7->∃m,m<n/\∃i σ' H',Inv X pins σ' H' s7/\tn i s7.heap/\(∀b∈fp,H' b=none)/\W i m σ' H':=λ{σ7 H7} I7 n7=>by
   obtain⟨m',hm,w7⟩:=hN σ7 H7 n7;refine⟨m',hm,i+1,σ7,H7,I7.unpinned,T.keep _ _ _ st5 λb hb o e=>(I7.pin (b,o) (mem_append_right _ (mem_append_right _ (Cz hb e)))).1,λb hb=>?_,w7⟩;obtain⟨o,e,d⟩:=T.obj _ _ st5 b hb;exact(I7.pin (b,o) (mem_append_right _ (mem_append_right _ (Cz hb e)))).2.1
  cases f with
  |next=>obtain⟨σ7,H7,I7,n7⟩:=q7;exact again I7 n7
  |cont=>obtain⟨σ7,H7,I7,n7⟩:=q7;exact again I7 n7
  |brk=>obtain⟨σ7,H7,I7,q7⟩:=q7;exact⟨σ7,H7,I7.unpinned,q7⟩
  |ret v=>obtain⟨x7,σ7,H7,I7,r7,q7⟩:=q7;exact⟨x7,σ7,H7,I7.unpinned,r7,q7⟩
end
abbrev R2:=V->V->Hp->VK->Prop
def OpR(X:Cx)(f:Value->Value->Sem Value)(r:R2):Prop:=
 ∀(pins:List (Addr×Obj)) (s:Shared) (σ:St) (H:Hp) (x y:V) (v u:Value) (Q:VK),Inv X pins σ H s->RelV x v->RelV y u->r x y H Q ->
   wpAny (model X.prog X.w) X.A (f v u) (EP X pins σ Q) X.xe s
def UnR(X:Cx)(f:Value->Sem Value)(r:V->Hp->VK->Prop):Prop:=
 ∀(pins:List (Addr×Obj)) (s:Shared) (σ:St) (H:Hp) (x:V) (v:Value) (Q:VK),Inv X pins σ H s->RelV x v->r x H Q ->
   wpAny (model X.prog X.w) X.A (f v) (EP X pins σ Q) X.xe s
def CallR(X:Cx)(f:Value)(r:List V->Hp->VK->Prop):Prop:=
 ∀(pins:List (Addr×Obj)) (s:Shared) (σ:St) (H:Hp) (xs:List V) (us:List Value) (Q:VK),Inv X pins σ H s->Vals xs us->r xs H Q ->
   wpAny (model X.prog X.w) X.A (call f us) (EP X pins σ Q) X.xe s
def bB(X:Cx)(r:V->Hp->(Bool->Hp->Prop)->Prop):Prop:=
 ∀(pins:List (Addr×Obj)) (s:Shared) (σ:St) (H:Hp) (x:V) (v:Value) (Q:Bool->Hp->Prop),Inv X pins σ H s->RelV x v->r x H Q ->
   wpAny (model X.prog X.w) X.A (truthy v) (TP X pins σ Q) X.xe s
def tOp(r:R2)(ta tb:TE):TE:=λσ H Q=>ta σ H λx H1=>tb σ H1 λy H2=>r x y H2 Q
def tUn(r:V->Hp->VK->Prop)(ta:TE):TE:=λσ H Q=>ta σ H λx H1=>r x H1 Q
def rI(C:Int->Int->Prop)(g:Int->Int->V):R2:=λx y H Q=>∃i j,x=.int i/\y=.int j/\C i j/\Q (g i j) H
def rI0(g:Int->Int->V):R2:=λx y H Q=>∃i j,x=.int i/\y=.int j/\Q (g i j) H
def rU(g:Int->V):V->Hp->VK->Prop:=λx H Q=>∃i,x=.int i/\Q (g i) H
section
variable{X:Cx}{a b c:Expr}{ta tb tc:TE}{pos:Pos}
def TX(ha:PE X a ta)(hb:PE X b tb){pins:List (Addr×Obj)}{s:Shared}{σ:St}{H:Hp}{R:V->V->Hp->Prop}(I:Inv X pins σ H s)
 (h:ta σ H λx H1=>tb σ H1 λy H2=>R x y H2) {Q:Value->Shared->Prop} {f:Value->Value->Sem Value}
 (hf:∀v u s2 x y H2,Inv X pins σ H2 s2->RelV x v->RelV y u->R x y H2->wpAny (model X.prog X.w) X.A (f v u) Q X.xe s2):
 wpAny (model X.prog X.w) X.A (eval a X.env) (λv s₁=>wpAny (model X.prog X.w) X.A (eval b X.env) (λu s₂=>wpAny (model X.prog X.w) X.A (f v u) Q X.xe s₂) X.xe s₁) X.xe s:=by
 refine thn (ha pins s σ H _ I h) λv s1 ⟨x,H1,I1,r1,q1⟩=>?_;refine thn (hb pins s1 σ H1 _ I1 q1) λu s2 ⟨y,H2,I2,r2,q2⟩=>?_;exact hf v u s2 x y H2 I2 r1 r2 q2
def Kt{op:Operator}{r:R2}(ho:OpR X (binaryOp op) r)(ha:PE X a ta)(hb:PE X b tb):PE X (.BinOp a op b pos) (tOp r ta tb):=by
 intro pins s σ H Q I h;exact wpAny_BinOp (TX ha hb I h λv u s2 x y H2 I2 rx ry q=>ho pins s2 σ H2 x y v u Q I2 rx ry q)
def Zn{op:UnaryOp}{r:V->Hp->VK->Prop}(ho:UnR X (unaryOp op) r)(ha:PE X a ta):PE X (.UnaryOp op a pos) (tUn r ta):=by
 intro pins s σ H Q I h;exact UnaryOp_ (thn (ha pins s σ H _ I h) λv s1 ⟨x,H1,I1,r1,q1⟩=>ho pins s1 σ H1 x v Q I1 r1 q1)
def opI{f:Value->Value->Sem Value}{C:Int->Int->Prop}{g:Int->Int->Int}
 (rule:∀(i j:Int) (t u:Tok) (s:Shared) (Q:Value->Shared->Prop) (E:Value->Shared->Prop),C i j->Q (.int (g i j) s.toks) { s with toks:=s.toks+1 }->wpAny (model X.prog X.w) X.A (f (.int i t) (.int j u)) Q E s):
 OpR X f (rI C λi j=>.int (g i j)):=by
 intro pins s σ H x y v u Q I rx ry h;obtain⟨i,j,rfl,rfl,hc,q⟩:=h;obtain⟨t,rfl⟩:=rx;obtain⟨t',rfl⟩:=ry;exact rule i j t t' s _ _ hc ⟨.int (g i j),H,I.tok _,⟨_,rfl⟩,q⟩
def Yj{f:Value->Value->Sem Value}{g:Int->Int->Int}
 (rule:∀(i j:Int) (t u:Tok) (s:Shared) (Q:Value->Shared->Prop) (E:Value->Shared->Prop),Q (.int (g i j) s.toks) { s with toks:=s.toks+1 }->wpAny (model X.prog X.w) X.A (f (.int i t) (.int j u)) Q E s):
 OpR X f (rI0 λi j=>.int (g i j)):=by
 intro pins s σ H x y v u Q I rx ry h;obtain⟨i,j,rfl,rfl,q⟩:=h;obtain⟨t,rfl⟩:=rx;obtain⟨t',rfl⟩:=ry;exact rule i j t t' s _ _ ⟨.int (g i j),H,I.tok _,⟨_,rfl⟩,q⟩
def Oa{f:Value->Value->Sem Value}{g:Int->Int->Bool}
 (rule:∀(i j:Int) (t u:Tok) (s:Shared) (Q:Value->Shared->Prop) (E:Value->Shared->Prop),Q (.bool (g i j)) s->wpAny (model X.prog X.w) X.A (f (.int i t) (.int j u)) Q E s):
 OpR X f (rI0 λi j=>.bl (g i j)):=by
 intro pins s σ H x y v u Q I rx ry h;obtain⟨i,j,rfl,rfl,q⟩:=h;obtain⟨t,rfl⟩:=rx;obtain⟨t',rfl⟩:=ry;exact rule i j t t' s _ _ ⟨.bl (g i j),H,I,rfl,q⟩
def ZM(i j:Int):Prop:=0<j/\j<1073741824
def ZL(i j:Int):Prop:=0<=j/\j<=1000000/\i.natAbs<2^64
def CMul(i j:Int):Prop:=(-(2^64)<i/\i<2^64)∨(-(2^64)<j/\j<2^64)
def CMul.ok{i j:Int}(h:CMul i j):IntMulOk i j:=by
 rcases h with⟨h1,h2⟩|⟨h1,h2⟩
 .exact .of_left (intBits_le_64 h1 h2)
 .exact .of_right (intBits_le_64 h1 h2)
def Q6:OpR X (binaryOp .Add) (rI0 λi j=>.int (i+j)):=Yj λ_ _ _ _ _ _ _ q=>add_int q
def YX:OpR X (binaryOp .Sub) (rI0 λi j=>.int (i-j)):=Yj λ_ _ _ _ _ _ _ q=>sub_int q
def Yc:OpR X (binaryOp .Mult) (rI CMul λi j=>.int (i*j)):=opI λ_ _ _ _ _ _ _ hc q=>mul_int q hc.ok
def Vj:OpR X (binaryOp .FloorDiv) (rI ZM λi j=>.int (i/j)):=opI λi j _ _ _ _ _ hc q=>by
 have h1:(0:Int)<j:=hc.1;have h2:j<1073741824:=hc.2;exact floordiv_int (by omega) (by rw[Int.fdiv_eq_ediv_of_nonneg i (by omega)];exact q) (.inl (PyProof.noPylong_small (by omega)))
def Yd:OpR X (binaryOp .Mod) (rI (λ_ j=>0<j) λi j=>.int (i%j)):=opI λi j _ _ _ _ _ hc q=>by
 have h1:(0:Int)<j:=hc;exact mod_int' (by omega) (by rw[Int.fmod_eq_emod_of_nonneg i (by omega)];exact q)
def YZ:OpR X (binaryOp .Pow) (rI ZL λi j=>.int (i^j.toNat)):=opI λ_ _ _ _ _ _ _ hc q=>pow_int_small hc.1 hc.2.1 hc.2.2 q
def unI{f:Value->Sem Value}{g:Int->Int}
 (rule:∀(i:Int) (t:Tok) (s:Shared) (Q:Value->Shared->Prop) (E:Value->Shared->Prop),Q (.int (g i) s.toks) { s with toks:=s.toks+1 }->wpAny (model X.prog X.w) X.A (f (.int i t)) Q E s):
 UnR X f (rU λi=>.int (g i)):=by
 intro pins s σ H x v Q I rx h;obtain⟨i,rfl,q⟩:=h;obtain⟨t,rfl⟩:=rx;exact rule i t s _ _ ⟨.int (g i),H,I.tok _,⟨_,rfl⟩,q⟩
def Wa:UnR X (unaryOp .USub) (rU λi=>.int (-i)):=unI λ_ _ _ _ _ q=>neg_int q
end
def LS:V->V->Bool
 |.non,.non=>true|.non,.int _=>true|.int _,.non=>true|.non,.bl _=>true|.bl _,.non=>true|.non,.str _=>true|.str _,.non=>true
 |.int _,.int _=>true|.bl _,.bl _=>true|.str _,.str _=>true|.byt _,.byt _=>true
 |.int _,.str _=>true|.str _,.int _=>true|.bl _,.str _=>true|.str _,.bl _=>true
 |_,_=>false
def rEq:R2:=λx y H Q=>LS x y=true/\Q (.bl (decide (x=y))) H
def rNe:R2:=λx y H Q=>LS x y=true/\Q (.bl (!decide (x=y))) H
def Nj{i j:Int}:decide (V.int i=V.int j)=(i==j):=by
 rw[Bool.eq_iff_iff];simp
def Qs{i j:Bool}:decide (V.bl i=V.bl j)=(i==j):=by
 rw[Bool.eq_iff_iff];simp
def Ni{i j:Str}:decide (V.str i=V.str j)=(i==j):=by
 rw[Bool.eq_iff_iff];simp
def Nk{i j:Array UInt8}:decide (V.byt i=V.byt j)=(i.toList==j.toList):=by
 rw[Bool.eq_iff_iff];cases i;cases j;simp
section
variable{X:Cx}{a b c:Expr}{ta tb tc:TE}{pos:Pos}
def Aj{pins:List (Addr×Obj)}{σ:St}{H:Hp}{s:Shared}{Q:VK}{k k':Bool}(I:Inv X pins σ H s)(q:Q (.bl k) H)(e:k=k'):EP X pins σ Q (.bool k') s:=by
 subst e;exact⟨.bl k,H,I,rfl,q⟩
def U3:OpR X (compareOp .Eq) rEq:=by
 intro pins s σ H x y v u Q I rx ry h;obtain⟨hs,q⟩:=h;cases x with
 |non=>
  cases rx;cases y with
  |non=>cases ry;exact PySem.EqNone.eq_none_none (Aj I q (by simp))
  |bl j=>cases ry;exact PySem.EqNone.eq_none_bool (Aj I q (by simp))
  |int j=>obtain⟨t',rfl⟩:=ry;exact PySem.EqNone.eq_none_int (Aj I q (by simp))
  |str j=>obtain⟨t',rfl⟩:=ry;exact PySem.EqNone.eq_none_str (Aj I q (by simp))
  |_=>exact absurd (show false=true from hs) Bool.false_ne_true
 |bl i=>
  cases rx;cases y with
  |non=>cases ry;exact PySem.EqNone.eq_bool_none (Aj I q (by simp))
  |bl j=>cases ry;exact eq_bool (Aj I q Qs)
  |str j=>obtain⟨t',rfl⟩:=ry;exact PySem.EqMixed.eq_bool_str (Aj I q (by simp))
  |_=>exact absurd (show false=true from hs) Bool.false_ne_true
 |int i=>
  obtain⟨t,rfl⟩:=rx;cases y with
  |non=>cases ry;exact PySem.EqNone.eq_int_none (Aj I q (by simp))
  |int j=>obtain⟨t',rfl⟩:=ry;exact eq_int (Aj I q Nj)
  |str j=>obtain⟨t',rfl⟩:=ry;exact PySem.EqMixed.eq_int_str (Aj I q (by simp))
  |_=>exact absurd (show false=true from hs) Bool.false_ne_true
 |str i=>
  obtain⟨t,rfl⟩:=rx;cases y with
  |non=>cases ry;exact PySem.EqNone.eq_str_none (Aj I q (by simp))
  |bl j=>cases ry;exact PySem.EqMixed.eq_str_bool (Aj I q (by simp))
  |int j=>obtain⟨t',rfl⟩:=ry;exact PySem.EqMixed.eq_str_int (Aj I q (by simp))
  |str j=>obtain⟨t',rfl⟩:=ry;exact eq_str (Aj I q Ni)
  |_=>exact absurd (show false=true from hs) Bool.false_ne_true
 |byt i=>
  obtain⟨t,rfl⟩:=rx;cases y with
  |byt j=>obtain⟨t',rfl⟩:=ry;exact PySem.W.eq_bytes (Aj I q Nk)
  |_=>exact absurd (show false=true from hs) Bool.false_ne_true
 |_=>cases y<;>exact absurd (show false=true from hs) Bool.false_ne_true
def U0:OpR X (compareOp .NotEq) rNe:=by
 intro pins s σ H x y v u Q I rx ry h;obtain⟨hs,q⟩:=h;cases x with
 |non=>
  cases rx;cases y with
  |non=>cases ry;exact PySem.EqNone.ne_none_none (Aj I q (by simp))
  |bl j=>cases ry;exact PySem.EqNone.ne_none_bool (Aj I q (by simp))
  |int j=>obtain⟨t',rfl⟩:=ry;exact PySem.EqNone.ne_none_int (Aj I q (by simp))
  |str j=>obtain⟨t',rfl⟩:=ry;exact PySem.EqNone.ne_none_str (Aj I q (by simp))
  |_=>exact absurd (show false=true from hs) Bool.false_ne_true
 |bl i=>
  cases rx;cases y with
  |non=>cases ry;exact PySem.EqNone.ne_bool_none (Aj I q (by simp))
  |bl j=>cases ry;exact ne_bool (Aj I q (congrArg not Qs))
  |str j=>obtain⟨t',rfl⟩:=ry;exact PySem.EqMixed.ne_bool_str (Aj I q (by simp))
  |_=>exact absurd (show false=true from hs) Bool.false_ne_true
 |int i=>
  obtain⟨t,rfl⟩:=rx;cases y with
  |non=>cases ry;exact PySem.EqNone.ne_int_none (Aj I q (by simp))
  |int j=>obtain⟨t',rfl⟩:=ry;exact ne_int (Aj I q (congrArg not Nj))
  |str j=>obtain⟨t',rfl⟩:=ry;exact PySem.EqMixed.ne_int_str (Aj I q (by simp))
  |_=>exact absurd (show false=true from hs) Bool.false_ne_true
 |str i=>
  obtain⟨t,rfl⟩:=rx;cases y with
  |non=>cases ry;exact PySem.EqNone.ne_str_none (Aj I q (by simp))
  |bl j=>cases ry;exact PySem.EqMixed.ne_str_bool (Aj I q (by simp))
  |int j=>obtain⟨t',rfl⟩:=ry;exact PySem.EqMixed.ne_str_int (Aj I q (by simp))
  |str j=>obtain⟨t',rfl⟩:=ry;exact ne_str (Aj I q (congrArg not Ni))
  |_=>exact absurd (show false=true from hs) Bool.false_ne_true
 |byt i=>
  obtain⟨t,rfl⟩:=rx;cases y with
  |byt j=>obtain⟨t',rfl⟩:=ry;exact PySem.W.ne_bytes (Aj I q (congrArg not Nk))
  |_=>exact absurd (show false=true from hs) Bool.false_ne_true
 |_=>cases y<;>exact absurd (show false=true from hs) Bool.false_ne_true
def U1:OpR X (compareOp .Lt) (rI0 λi j=>.bl (decide (i<j))):=Oa λ_ _ _ _ _ _ _ q=>lt_int q
def U2:OpR X (compareOp .LtE) (rI0 λi j=>.bl (decide (i<=j))):=Oa λ_ _ _ _ _ _ _ q=>le_int q
def Zu:OpR X (compareOp .Gt) (rI0 λi j=>.bl (decide (j<i))):=Oa λ_ _ _ _ _ _ _ q=>gt_int q
def Zv:OpR X (compareOp .GtE) (rI0 λi j=>.bl (decide (j<=i))):=Oa λ_ _ _ _ _ _ _ q=>ge_int q
def OpR.or{f:Value->Value->Sem Value}{r r':R2}(h:OpR X f r)(h':OpR X f r'):OpR X f (λx y H Q=>r x y H Q∨r' x y H Q):=by
 intro pins s σ H x y v u Q I rx ry q;rcases q with q|q
 .exact h pins s σ H x y v u Q I rx ry q
 .exact h' pins s σ H x y v u Q I rx ry q
def Gb(b:Expr){op:CmpOp}(h:op≠.In:=by decide)(h2:op≠.NotIn:=by decide):behindInMarks op b=false:=by
 have e1:(op==CmpOp.In)=false:=by cases op<;>first|rfl|exact absurd rfl h
 have e2:(op==CmpOp.NotIn)=false:=by cases op<;>first|rfl|exact absurd rfl h2
 cases b<;>simp[behindInMarks,e1,e2]
def NP{op:CmpOp}{r:R2}(ho:OpR X (compareOp op) r)(ha:PE X a ta)(hb:PE X b tb)(hm:behindInMarks op b=false):PE X (.Compare a [op] [b] pos) (tOp r ta tb):=by
 intro pins s σ H Q I h;exact wpAny_Compare1 (TX ha hb I h λv u s2 x y H2 I2 rx ry q=>ho pins s2 σ H2 x y v u Q I2 rx ry q) hm
def IP(t:TE):TT:=λσ H Q=>t σ H λx H'=>∃k,x=.bl k/\Q k H'
def JY{op:CmpOp}{r:R2}(ho:OpR X (compareOp op) r)(ha:PE X a ta)(hb:PE X b tb)(hm:behindInMarks op b=false):PT X (.Compare a [op] [b] pos) (IP (tOp r ta tb)):=by
 intro pins s σ H Q I h;refine wpAny_isTrue_Compare1 (thn (ha pins s σ H _ I h) λv s1 ⟨x,H1,I1,r1,q1⟩=>thn (hb pins s1 σ H1 _ I1 q1) λu s2 ⟨y,H2,I2,r2,q2⟩=>
  thn (ho pins s2 σ H2 x y v u _ I2 r1 r2 q2) λc s3 ⟨z,H3,I3,r3,k,e,q3⟩=>?_) hm
 subst e;cases r3;exact wpAny_truthy_bool ⟨H3,I3,q3⟩
def Mh(K:PySem.W.Frag)(x:V)(H:Hp)(k:Bool):Prop:=
 match x with
 |.non=>k=false
 |.bl b=>k=b
 |.int i=>k=(i != 0)
 |.str y=>y.length<=sizeLine/\k=((y.length:Int) != 0)
 |.byt y=>y.size<=sizeLine/\k=((y.size:Int) != 0)
 |.ref p=>(∃xs,SqL K H p xs/\k=!xs.isEmpty)∨(∃xs,SqT K H p xs/\k=!xs.isEmpty)∨∃kvs,H p=some (.dK kvs)/\k=!kvs.isEmpty
 |_=>False
def Oo{κ:Type}{kvs:List (κ×V)}{vs:List (κ×Value)}(r:KV kvs vs):(!vs.isEmpty)=!kvs.isEmpty:=by
 cases r<;>rfl
def Iy{xs:List V}{its:List Value}(r:Vals xs its):(!its.toArray.isEmpty)=!xs.isEmpty:=by
 cases r<;>simp
def Gn:(sizeLine:Nat)<2^63:=by rw[sizeLine_eq];decide
def Wc:bB X (λx H Q=>∃k,Mh X.K x H k/\Q k H):=by
 intro pins s σ H x v Q I rx h;obtain⟨k,e,q⟩:=h;have hl:=Gn;have hs:sizeLine=16777216:=sizeLine_eq;cases x with
 |non=>
  cases rx;have e':k=false:=e;subst e';exact truthy_none ⟨H,I,q⟩
 |bl b=>
  cases rx;have e':k=b:=e;subst e';exact wpAny_truthy_bool ⟨H,I,q⟩
 |int i=>
  obtain⟨t,rfl⟩:=rx;have e':k=(i != 0):=e;subst e';exact PySem.P.truthy_int ⟨H,I,q⟩
 |str y=>
  obtain⟨t,rfl⟩:=rx;obtain⟨hy,e'⟩:y.length<=sizeLine/\k=((y.length:Int) != 0):=e;subst e';exact PySem.P.truthy_str (by omega) ⟨H,I.tok _,q⟩
 |byt y=>
  obtain⟨t,rfl⟩:=rx;obtain⟨hy,e'⟩:y.size<=sizeLine/\k=((y.size:Int) != 0):=e;subst e';exact PySem.W.truthy_bytes (by omega) ⟨H,I.tok _,q⟩
 |ref p=>
  cases rx;have e':(∃xs,SqL X.K H p xs/\k=!xs.isEmpty)∨(∃xs,SqT X.K H p xs/\k=!xs.isEmpty)∨∃kvs,H p=some (.dK kvs)/\k=!kvs.isEmpty:=e;rcases e' with⟨xs,hx,e'⟩|⟨xs,hx,e'⟩|⟨kvs,hx,e'⟩
  .subst e';obtain⟨its,r,pl,hz⟩:=I.list hx;have hlen:=r.length;exact wpAny_truthy_list pl.isList (by simp only[size_toArray];omega) ⟨H,I.tok _,by rw[Iy r];exact q⟩
  .subst e';obtain⟨its,r,pl,hz⟩:=I.tuple hx;have hlen:=r.length;exact truthy_tuple pl (by simp only[size_toArray];omega) ⟨H,I.tok _,by rw[Iy r];exact q⟩
  .subst e';obtain⟨hz,hS,vs,r,m⟩:kvs.length<=sizeLine/\(p==sysModules)=false/\∃vs,KV kvs vs/\s.heap.DictOf (BD X.prog X.w) p vs:=I.hok p _ hx;have hlen:kvs.length=vs.length:=Paired.length r;exact wpAny_truthy_dict hS m (by omega) ⟨H,I.tok _,by rw[Oo r];exact q⟩
 |_=>exact(show False from e).elim
def Sg(ha:PE X a ta)(he:∀whole,isTrue a X.env whole=(do let v <- whole;standAt a.pos;holding [v] (truthy v))):
 PT X a (λσ H Q=>ta σ H λx H'=>∃k,Mh X.K x H' k/\Q k H'):=by
 intro pins s σ H Q I h;exact isTrue_plain (thn (ha pins s σ H _ I h) λv s1 ⟨x,H1,I1,r1,q1⟩=>Wc pins s1 σ H1 x v Q I1 r1 q1) (he _)
def C8{x:V}{us:List Value}(r:Vals [x] us):∃u,us=[u]/\RelV x u:=by
 cases r with
 |cons r1 r2=>cases r2;exact⟨_,rfl,r1⟩
def Nu{x y:V}{us:List Value}(r:Vals [x,y] us):∃u w',us=[u,w']/\RelV x u/\RelV y w':=by
 cases r with
 |cons r1 r2=>
  cases r2 with
  |cons r3 r4=>cases r4;exact⟨_,_,rfl,r1,r3⟩
def Qy(hc:X.calm=true):CallR X (.builtin "max") (λxs H Q=>∃i j,xs=[.int i,.int j]/\Q (.int (if j>i then j else i)) H):=by
 intro pins s σ H xs us Q I r h;obtain⟨i,j,rfl,q⟩:=h;obtain⟨u,w',rfl,⟨t,rfl⟩,⟨t',rfl⟩⟩:=Nu r;refine max_two_ints (I.ok.hd hc) λh' tk k=>⟨_,H,I.kept k,?_,q⟩
 by_cases hj:j>i
 .rw[if_pos hj,if_pos hj];exact⟨_,rfl⟩
 .rw[if_neg hj,if_neg hj];exact⟨_,rfl⟩
end
def RelO.some_of{v:V}{o:Option Value}(r:RelO (some v) o):∃u,o=some u/\RelV v u:=by
 cases o with
 |none=>exact(show False from r).elim
 |some u=>exact⟨u,rfl,r⟩
structure Room(k:Nat)(A:Around):Prop where
 hd:A.handled=none
 dp:A.depth+3*k+5<recursionLimit
 un:A.units+16*k+200<cLine
 gd:A.guards=some []
def Room.mono{j k:Nat}{A:Around}(r:Room k A)(h:j<=k):Room j A:=⟨r.hd,by have:=r.dp;omega,by have:=r.un;omega,r.gd⟩
def Room.deeper{k:Nat}{A:Around}(r:Room (k+1) A)(env:Env):Room k (A.deeper env):=
 ⟨r.hd,by have:=r.dp;show A.depth+1+3*k+5<_;omega,by have:=r.un;show A.units+3+16*k+200<_;omega,by first|exact r.gd|(simpa [Around.deeper,Around.under,Code.guards,Code.isGuard,pushGuards]using r.gd)⟩
def Room.in1{k:Nat}{A:Around}(r:Room (k+1) A):Room k A.in1:=
 ⟨r.hd,by have:=r.dp;show A.depth+3*k+5<_;omega,by have:=r.un;show A.units+1+16*k+200<_;omega,r.gd⟩
def Room.depth{k:Nat}{A:Around}(r:Room k A):A.depth<recursionLimit:=by have:=r.dp;omega
def Room.units{k:Nat}{A:Around}(r:Room k A):A.units+64<cLine:=by have:=r.un;omega
def BG:TA:=λ_ H Q=>Q [] H
def Ax(ta:TE)(tr:TA):TA:=λσ H Q=>ta σ H λx H1=>tr σ H1 λxs H2=>Q (x::xs) H2
section
variable{X:Cx}{e:Expr}{es:List Expr}{te:TE}{t:TA}{pos:Pos}
def By:PA X [] BG:=λ_ _ _ _ H Q I h=>Calls.spliced_nil ⟨[],H,I,.nil,h⟩
def BH(ha:PE X e te)(hr:PA X es t)(hs:starEach (e::es) X.env=(false,eval e X.env)::starEach es X.env:=by rfl):PA X (e::es) (Ax te t):=by
 intro pos pins s σ H Q I h;rw[hs];show wpAny _ _ (spliced ((false,eval e X.env)::backTo pos (starEach es X.env))) _ _ s;refine Calls.spliced_cons (thn (ha pins s σ H _ I h) λu s1 ⟨x,H1,I1,r1,q1⟩=>?_);exact thn (hr pos pins s1 σ H1 _ I1 q1) λus s2 ⟨xs,H2,I2,r2,q2⟩=>⟨x::xs,H2,I2,.cons r1 r2,q2⟩
def Ri(t:TA):TE:=λσ H Q=>t σ H λxs H1=>xs.length<=sizeLine/\∀p,H1 p=none->Q (.ref p) (upd H1 p (.tup xs))
def Rn(t:TA):TE:=λσ H Q=>t σ H λxs H1=>xs.length<=sizeLine/\∀p,H1 p=none->Q (.ref p) (upd H1 p (.lst xs))
def YL{x1}(h:PA X es t):PE X (.Tuple es x1 pos) (Ri t):=by
 intro pins s σ H Q I hq;refine wpAny_Tuple_spliced (thn (h pos pins s σ H _ I hq) λus s1 ⟨xs,H1,I1,r,z,q⟩=>⟨by rw[<- r.length];exact z,?_⟩);have hf:H1 s1.heap.objs.size=none:=I1.hok.fresh (le_refl _);refine⟨.ref s1.heap.objs.size,upd H1 s1.heap.objs.size (.tup xs),I1.laid (t':=s1.toks) (λb u e=>Heap.get?_push_of_some _ e) (le_refl _) ?_,rfl,q _ hf⟩;exact⟨z,us,r,⟨_,Heap.get?_push_size _ rfl,rfl,⟨_,rfl⟩,rfl⟩⟩
def YR(h:PA X es t):PE X (.List es pos) (Rn t):=by
 intro pins s σ H Q I hq;refine wpAny_List_spliced (thn (h pos pins s σ H _ I hq) λus s1 ⟨xs,H1,I1,r,z,q⟩=>⟨by rw[<- r.length];exact z,?_⟩);have hf:H1 s1.heap.objs.size=none:=I1.hok.fresh (le_refl _);refine⟨.ref s1.heap.objs.size,upd H1 s1.heap.objs.size (.lst xs),I1.laid (t':=s1.toks) (λb u e=>Heap.get?_push_of_some _ e) (le_refl _) ?_,rfl,q _ hf⟩;exact⟨z,us,0,r,Heap.get?_push_size _ rfl⟩
end
abbrev Sp:=List V->Hp->VK->XK->Prop
abbrev CXT:=List Env->Hp->Shared->XK->Value->Shared->Prop
structure Env0(P:Program)(w:World)(K:PySem.W.Frag)(mg:Str->Option Value)(base:Heap)(A:Around)(outer:List Env)(s:Shared)(H:Hp):Prop where
 frames:A.frames=some outer
 mod:Mod K mg base
 bs:∀b o,base.get? b=some o->s.heap.get? b=some o/\H b=none
 bsz:base.objs.size<=s.heap.objs.size
 funs:s.heap.FunFrames base outer
 frf:∀b∈frs outer,H b=none
 hok:HOk P w H s.heap
 bare:AllBare s.gens
def CE(outer:List Env)(P:Program)(w:World)(H:Hp)(s:Shared)(Q:VK)(u:Value)(s':Shared):Prop:=
 ∃v H',s'.os=s.os/\AllBare s'.gens/\Un (frs outer) [] H H' s.heap s'.heap/\HOk P w H' s'.heap/\RelV v u/\Q v H'
def CR(CX:CXT)(outer:List Env)(P:Program)(w:World)(H:Hp)(s:Shared)(Q:VK)(E:XK)(r:Result)(s':Shared):Prop:=
 match r with
 |.ok (.ret u)=>CE outer P w H s Q u s'
 |.ok _=>False
 |.error e=>CX outer H s E e s'
structure FnOk(P:Program)(w:World)(K:PySem.W.Frag)(mg:Str->Option Value)(base:Heap)(CX:CXT)(k:Nat)(f:Addr)(fd:FuncData)(ps:List Str)(sp:Sp):Prop where
 len:∀vs H Q E,sp vs H Q E->vs.length=ps.length
 run:∀(A:Around) (outer:List Env) (s:Shared) (H:Hp) (args:Args) (us:List Value) (vs:List V) (Q:VK) (E:XK),Room k A->Env0 P w K mg base A outer s H->BindsTo s fd args (ps.zip us)->Vals vs us->sp vs H Q E ->
  codeAny (model P w) A (.call (.ref f) args) (CR CX outer P w H s Q E) s
def FnOk.mono{P:Program}{w:World}{K:PySem.W.Frag}{mg:Str->Option Value}{base:Heap}{CX:CXT}{j k:Nat}{f:Addr}{fd:FuncData}{ps:List Str}{sp:Sp}(F:FnOk P w K mg base CX j f fd ps sp)(h:j<=k):
 FnOk P w K mg base CX k f fd ps sp:=⟨F.len,λA outer s H args us vs Q E hr=>F.run A outer s H args us vs Q E (hr.mono h)⟩
section
variable{X:Cx}{pins:List (Addr×Obj)}{σ:St}{H:Hp}{s s':Shared}
def Inv.env0(I:Inv X pins σ H s):Env0 X.prog X.w X.K X.mg X.base X.A X.stack s H:=
 ⟨I.ok.frames,I.ok.mod,I.bs,le_trans I.ok.bsz I.sz,I.stack,I.stkFree,I.hok,I.bare⟩
def Inv.after{Q:VK}{u:Value}(I:Inv X pins σ H s)(h:CE X.stack X.prog X.w H s Q u s'):EP X pins σ Q u s':=by
 obtain⟨v,H',os,bare,un,hok,r,q⟩:=h;obtain⟨hh,g,d,t,os'⟩:=s';obtain rfl:os'=s.os:=os;exact⟨v,H',I.call (h':=hh) (g':=g) (d':=d) (t':=t) (ch:=[]) un hok bare (λb z=>absurd z (by simp)),r,q⟩
end
def Ey(sp:Sp)(dvs:List V)(E:XK)(t:TA):TE:=λσ H Q=>t σ H λvs H1=>sp (vs++dvs) H1 Q E
def Binds(K:PySem.W.Frag)(fd:FuncData)(ps:List Str)(ds:List Value):Prop:=
 ∀(s:Shared) (us:List Value),K.In s.heap->(us++ds).length=ps.length->BindsTo s fd ⟨us,[]⟩ (ps.zip (us++ds))
def Binds.all{K:PySem.W.Frag}{fd:FuncData}{ps:List Str}(h:∀us:List Value,us.length=ps.length->bindArgs fd ⟨us,[]⟩=pure (ps.zip us)):Binds K fd ps []:=λs us _ hl=>by
 rw[append_nil]at hl ⊢;exact .of_eq (h us hl)
def Mj(CX:CXT)(X:Cx)(E:XK):Prop:=∀(pins:List (Addr×Obj)) (σ:St) (H:Hp) (s:Shared) (e:Value) (s':Shared),Inv X pins σ H s->CX X.stack H s E e s'->X.xe e s'
section
variable{X:Cx}{CX:CXT}{k:Nat}{f C:Addr}{fd:FuncData}{ps:List Str}{sp:Sp}{dvs:List V}{ds:List Value}{E:XK}{x m:Str}{p pos apos:Pos}{e o:Expr}{es:List Expr}{ta:TE}{t:TA}
def Wo{pins:List (Addr×Obj)}{σ:St}{H:Hp}{s:Shared}{Q:VK}{us:List Value}{vs:List V}(F:FnOk X.prog X.w X.K X.mg X.base CX k f fd ps sp)(hr:Room k X.A)(hb:Binds X.K fd ps ds)(hd:Vals dvs ds)(hx:Mj CX X E)
 (I:Inv X pins σ H s) (r:Vals vs us) (h:sp (vs++dvs) H Q E):wpAny (model X.prog X.w) X.A (call (.ref f) us) (EP X pins σ Q) X.xe s:=by
 have r2:Vals (vs++dvs) (us++ds):=r.append hd;have hl:(us++ds).length=ps.length:=by rw[<- r2.length];exact F.len _ _ _ _ h
 refine wpAny_call (codeAny_mono (F.run X.A X.stack s H ⟨us,[]⟩ (us++ds) (vs++dvs) Q E hr I.env0 (hb s us I.kIn hl) r2 h) λr s' hq=>?_);cases r with
 |error e=>exact hx pins σ H s e s' I hq
 |ok fl=>
  cases fl with
  |ret u=>exact I.after hq
  |next=>exact False.elim hq
  |brk=>exact False.elim hq
  |cont=>exact False.elim hq
def Vg(F:FnOk X.prog X.w X.K X.mg X.base CX k f fd ps sp)(hr:Room k X.A)(hg:Gl X x)(hm:X.mg x=some (.ref f))(hk:PySem.W.keepIn X.K (.ref f)=true)(hb:Binds X.K fd ps ds)(hd:Vals dvs ds)(hx:Mj CX X E)
 (ha:PA X (e::es) t) (hdb:(x==("__debug__":Str))=false:=by decide) (he:starEach (e::es) X.env=(false,eval e X.env)::starEach es X.env:=by rfl) (hpl:(backTo pos (starEach es X.env)).any (·.1)=false:=by rfl):
 PE X (.Call (.Name x p) (e::es) [] pos) (Ey sp dvs E t):=by
 intro pins s σ H Q I h;refine wpAny_Call_Name_kw (Vu I hg hm ?_ hdb);refine PySem.W.callWith_K (h₀:=X.base) I.ok.mod.kin hk (thn (ha pos pins s σ H _ I h) λus s1 ⟨vs,H1,I1,r,q⟩=>⟨I1.kIn,?_⟩) he hpl;exact Wo F hr hb hd hx I1 r q
end
structure FnScope(N P:List Str)(sc:Scope):Prop where
 kind:sc.kind=.function
 co:sc.isCoroutine=false
 gen:sc.isGenerator=false
 nd:N.Nodup
 pre:N.take P.length=P
 par:∀x∈P,sc.names.lookup x=some .local∨sc.names.lookup x=some .cell
 nofree:∀y∈sc.names,y.2≠.free
def KL{kindOf:Str->Option NameKind}{x:Str}:∀{binds:List (Str×Value)} {m:Str->Option Value},(∀v,(x,v)∉binds)->bindL kindOf binds m x=m x
 |[],_,_=>rfl
 |(n,v)::r,m,h=>by
   unfold bindL;rw[KL λw hw=>h w (mem_cons_of_mem _ hw)];split
   .have:x≠n:=by rintro rfl;exact h v mem_cons_self
    simp[this]
   .rfl
def KN{kindOf:Str->Option NameKind}{x:Str}:∀{binds:List (Str×Value)} {m:Str->Option Value},(∀v,(x,v)∉binds)->bindC kindOf binds m x=m x
 |[],_,_=>rfl
 |(n,v)::r,m,h=>by
   unfold bindC;rw[KN λw hw=>h w (mem_cons_of_mem _ hw)];split
   .rfl
   .have:x≠n:=by rintro rfl;exact h v mem_cons_self
    simp[this]
def KM{kindOf:Str->Option NameKind}{x:Str}{v:Value}:∀{P:List Str} {vs:List Value} {i:Nat} {m:Str->Option Value},P.Nodup->P[i]?=some x->vs[i]?=some v->kindOf x=some .local ->
 bindL kindOf (P.zip vs) m x=some v
 |[],_,_,_,_,h,_,_=>by simp at h
 |_::_,[],_,_,_,_,h,_=>by simp at h
 |p::P,w::vs,0,m,nd,h1,h2,hk=>by
  simp at h1 h2;subst h1;subst h2;show bindL kindOf ((p,w)::P.zip vs) m p=_;unfold bindL;rw[KL λv hv=>(nodup_cons.mp nd).1 (of_mem_zip hv).1,if_pos hk];simp
 |p::P,w::vs,i+1,m,nd,h1,h2,hk=>by
  show bindL kindOf ((p,w)::P.zip vs) m x=_;unfold bindL;exact KM (i:=i) (nodup_cons.mp nd).2 (by simpa using h1) (by simpa using h2) hk
def KO{kindOf:Str->Option NameKind}{x:Str}{v:Value}:∀{P:List Str} {vs:List Value} {i:Nat} {m:Str->Option Value},P.Nodup->P[i]?=some x->vs[i]?=some v->kindOf x≠some .local ->
 bindC kindOf (P.zip vs) m x=some v
 |[],_,_,_,_,h,_,_=>by simp at h
 |_::_,[],_,_,_,_,h,_=>by simp at h
 |p::P,w::vs,0,m,nd,h1,h2,hk=>by
  simp at h1 h2;subst h1;subst h2;show bindC kindOf ((p,w)::P.zip vs) m p=_;unfold bindC;rw[KN λv hv=>(nodup_cons.mp nd).1 (of_mem_zip hv).1,if_neg hk];simp
 |p::P,w::vs,i+1,m,nd,h1,h2,hk=>by
  show bindC kindOf ((p,w)::P.zip vs) m x=_;unfold bindC;exact KO (i:=i) (nodup_cons.mp nd).2 (by simpa using h1) (by simpa using h2) hk
def DD(N:List Str)(vs:List V):St:=vs.map some++List.replicate (N.length-vs.length) none
def FM(CX:CXT)(P:Program)(w:World)(K:PySem.W.Frag)(mg:Str->Option Value)(base:Heap)(N:List Str)(qual:Str)(scope:Scope)(f:Addr)(cd:Value)(A:Around)(outer:List Env)(s:Shared)(H:Hp)(E:XK):Cx where
 prog:=P
 w:=w
 K:=K
 mg:=mg
 base:=base
 A:=A.deeper (envOfC qual scope s.heap.objs.size f cd)
 N:=N
 s₀:=s
 H₀:=H
 env:=envOfC qual scope s.heap.objs.size f cd
 outer:=outer
 stack:=envOfC qual scope s.heap.objs.size f cd::outer
 ex:=[]
 calm:=true
 fn:=λ_=>true
 pn:=[]
 xe:=λe s'=>wpAny (model P w) (A.deeper (envOfC qual scope s.heap.objs.size f cd)) (leaving (envOfC qual scope s.heap.objs.size f cd) e) (λ_ s''=>CX outer H s E e s'') (λe' s''=>CX outer H s E e' s'') s'
def MY{sc:Scope}{n:Nat}{x:Str}(h:sc.names.lookup x=some .cell):∃c,(cellsFrom n sc.names []).lookup x=some c:=by
 have q:=PySem.W.cellsFrom_some sc.names n [] (.inl h);exact isSome_iff_exists.mp q
def QX{CX:CXT}{P:Program}{w:World}{K:PySem.W.Frag}{mg:Str->Option Value}{base:Heap}{N ps:List Str}{qual:Str}{scope:Scope}{f:Addr}{cd:Value}{A:Around}{outer:List Env}{s s1:Shared}{H:Hp}{E:XK}{us:List Value}{vs:List V}
 (S:FnScope N ps scope) (hd:A.handled=none) (e0:Env0 P w K mg base A outer s H) (hl:vs.length=ps.length) (r:Vals vs us)
 (x:InCallC s s.heap.objs.size (bindL (envOfC qual scope s.heap.objs.size f cd).kindOf (ps.zip us) λ_=>none) (cellsFrom (s.heap.objs.size+1) scope.names []) (bindC (envOfC qual scope s.heap.objs.size f cd).kindOf (ps.zip us) λ_=>none) s1):
 Inv (FM CX P w K mg base N qual scope f cd A outer s H E) [] (DD N vs) H s1:=by
 have hpl:ps.length<=N.length:=by have:=congrArg List.length S.pre;rw[length_take]at this;omega
 obtain⟨h1,tk,rfl,hk⟩:=x.done;have noA:∀b:Addr,b∉(FM CX P w K mg base N qual scope f cd A outer s H E).ex:=λb z=>absurd (show b∈([]:List Addr)from z) (by simp);refine⟨⟨e0.mod,S.kind,rfl,rfl,le_refl _,λy z c h1 h2=>?_,λy hy=>?_,λy c _ h=>?_,λ_=>hd,Around.frames_deeper e0.frames,.inr ⟨rfl,rfl⟩,λb z=>absurd z (noA b),e0.bs,e0.bsz,λb _ _=>noA b,λb z=>absurd z (noA b),e0.funs,e0.frf⟩,
  rfl,e0.bare,Un.kept hk,⟨_,x.toInCall.ns,λi y v h1 h2 h3=>?_⟩,λy c h=>⟨_,x.cell y c h⟩,e0.hok.fresh (le_refl _),λy c h=>?_,λp hp=>absurd (show p∈([]:List (Addr×Obj))from hp) (by simp),e0.hok.kept hk,?_⟩
 .exact name_of_addr x.apart (PySem.mem_of_lookup h1) (PySem.mem_of_lookup h2)
 .have hy:scope.names.lookup y=some .cell∨scope.names.lookup y=some .free:=hy;rcases hy with hy|hy
  .exact MY hy
  .exact absurd rfl (S.nofree _ (PySem.mem_of_lookup hy))
 .exact le_of_lt (x.above y c (PySem.mem_of_lookup h))
 .have hi:i<vs.length:=by
   unfold DD at h2;by_cases hi:i<vs.length
   .exact hi
   .rw[List.getElem?_append_right (by simpa using hi)]at h2;rw[List.getElem?_replicate]at h2;split at h2<;>cases h2
  have ha:vs[i]?=some v:=by
   unfold DD at h2;rw[List.getElem?_append_left (by simpa using hi),List.getElem?_map]at h2;cases e:vs[i]? with
   |none=>rw[e]at h2;cases h2
   |some a=>rw[e]at h2;cases h2;rfl
  obtain⟨u,hu,rv⟩:=r.get ha;have hp:ps[i]?=some y:=by
   rw[<- S.pre,List.getElem?_take_of_lt (by omega)];exact h1
  have ndP:ps.Nodup:=by rw[<- S.pre];exact S.nd.sublist (List.take_sublist _ _)
  refine⟨u,rv,?_⟩;rcases S.par y (mem_of_getElem? hp)with k|k
  .exact .inl ⟨k,KM ndP hp hu k⟩
  .obtain⟨c,e⟩:=MY (n:=s.heap.objs.size+1) k;refine .inr ⟨.inl k,c,e,?_⟩;have q:=x.cell y c e;rw[KO ndP hp hu (by show scope.names.lookup y≠_;rw[k];decide)]at q;exact q
 .exact e0.hok.fresh (le_of_lt (x.above y c (PySem.mem_of_lookup h)))
 .unfold DD;show _=N.length;rw[length_append,length_map,List.length_replicate];omega
def U6{CX:CXT}{P:Program}{w:World}{K:PySem.W.Frag}{mg:Str->Option Value}{base:Heap}{k:Nat}{f:Addr}{name qual:Str}{params:Arguments}{body:List Stmt}{scope:Scope}{dV kV doc pm cdv ct oc:Value}{an od:Option Addr}
 {osl:Array (Option Value)} {N ps:List Str} {sp:Sp} (lk:K.lookup f=some ⟨oc,od,.func (PySem.W.fnOf name qual params body scope dV kV doc pm an cdv ct),osl⟩) (hcd:PySem.W.codeIn K cdv qual=true) (S:FnScope N ps scope)
 (len:∀vs H Q E,sp vs H Q E->vs.length=ps.length)
 (hbody:∀(A:Around) (outer:List Env) (s:Shared) (H:Hp) (vs:List V) (Q:VK) (E:XK),Room k (A.deeper (envOfC qual scope s.heap.objs.size f cdv))->sp vs H Q E ->
  ∃t,PSs (FM CX P w K mg base N qual scope f cdv A outer s H E) body t/\t { nx:=λ_ H'=>Q .non H',rt:=Q } (DD N vs) H):
 FnOk P w K mg base CX (k+1) f (PySem.W.fnOf name qual params body scope dV kV doc pm an cdv ct) ps sp:=by
 refine⟨len,λA outer s H args us vs Q E hr e0 hb r hsp=>?_⟩;have hl:=len _ _ _ _ hsp;have KX:K.In s.heap:=e0.mod.kin.keeps λb o e=>(e0.bs b o e).1;have lim:s.heap.NoLimit:=e0.mod.nolimit.keeps λb o e=>(e0.bs b o e).1;have hkind:∀y∈ps.zip us,scope.names.lookup y.1=some .local∨(scope.names.lookup y.1=some .cell/\((cellsFrom (s.heap.objs.size+1) scope.names []).lookup y.1).isSome=true):=λ⟨n,v⟩ hy=>by
  rcases S.par n (of_mem_zip hy).1 with q|q
  .exact .inl q
  .exact .inr ⟨q,PySem.W.cellsFrom_some _ _ _ (.inl q)⟩
 refine codeAny_call_function hr.depth (KX _ _ lk) rfl S.co S.gen rfl (PySem.W.codeRec_of KX hcd) (hb _ _ _ _ ?_);refine wpAny_newFunctionEnv_cells S.kind hkind λenv he s1 x=>?_;subst he;refine⟨lim.keeps x.toInCall.keep,codeAny_func ?_⟩;obtain⟨t,ht,hq⟩:=hbody A outer s H vs Q E (hr.deeper _) hsp;have I:Inv (FM CX P w K mg base N qual scope f cdv A outer s H E) [] (DD N vs) H s1:=QX S hr.hd e0 hl r x;refine wpAny_mono (ht [] s1 (DD N vs) H _ I hq) (λfl s' hs=>?_) λe s' hs=>hs;have fin:∀{σ':St} {H':Hp} {v:V} {u:Value},Inv (FM CX P w K mg base N qual scope f cdv A outer s H E) [] σ' H' s'->RelV v u->Q v H'->CE outer P w H s Q u s':=
  λ{σ' H' v u} J rv q=>⟨v,H',J.os,J.bare,J.base,J.hok,rv,q⟩
 cases fl with
 |ret u=>
  obtain⟨v,σ',H',J,rv,q⟩:=hs;exact fin J rv q
 |next=>
  obtain⟨σ',H',J,q⟩:=hs;exact fin (v:=V.non) (u:=Value.none) J rfl q
 |brk=>
  obtain⟨_,_,_,q⟩:=hs;exact False.elim q
 |cont=>
  obtain⟨_,_,_,q⟩:=hs;exact False.elim q
section
variable{X:Cx}{x:Str}{p pos:Pos}{e:Expr}{es:List Expr}{t:TA}{id T:String}{r:List V->Hp->VK->Prop}
def tCB(r:List V->Hp->VK->Prop)(t:TA):TE:=λσ H Q=>t σ H λvs H1=>r vs H1 Q
def Eo(hc:CallR X (.builtin id) r)(hg:Gl X x)(hm:X.mg x=none)(hv:bootBuiltins x=some (.builtin id))(ha:PA X (e::es) t)(hn:x≠"__name__":=by decide)(hdb:(x==("__debug__":Str))=false:=by decide)
 (he:starEach (e::es) X.env=(false,eval e X.env)::starEach es X.env:=by rfl) (hpl:(backTo pos (starEach es X.env)).any (·.1)=false:=by rfl):PE X (.Call (.Name x p) (e::es) [] pos) (tCB r t):=by
 intro pins s σ H Q I h;refine wpAny_Call_Name_kw (C7 I hg hm hv ?_ hn hdb);exact PyProof.Rows.callWith_builtin1 (thn (ha pos pins s σ H _ I h) λus s1 ⟨vs,H1,I1,r1,q1⟩=>hc pins s1 σ H1 vs us Q I1 r1 q1) he hpl
def DO(hc:CallR X (.type T) r)(hg:Gl X x)(hm:X.mg x=none)(hv:bootBuiltins x=some (.type T))(ha:PA X (e::es) t)(hn:x≠"__name__":=by decide)(hdb:(x==("__debug__":Str))=false:=by decide)
 (he:starEach (e::es) X.env=(false,eval e X.env)::starEach es X.env:=by rfl) (hpl:(backTo pos (starEach es X.env)).any (·.1)=false:=by rfl):PE X (.Call (.Name x p) (e::es) [] pos) (tCB r t):=by
 intro pins s σ H Q I h;refine wpAny_Call_Name_kw (C7 I hg hm hv ?_ hn hdb);exact PyProof.Rows.callWith_type1 (thn (ha pos pins s σ H _ I h) λus s1 ⟨vs,H1,I1,r1,q1⟩=>hc pins s1 σ H1 vs us Q I1 r1 q1) he hpl
end
end L2
namespace HT
open PySem PyProof.Rows
section
variable{prog:Program}{w:World}{A:Around}{E:Value->Shared->Prop}{s:Shared}
def cat_tup{t b:Addr}{vs ws:List Value}{Q:Value->Shared->Prop}(ht:IsTup s.heap t vs.toArray)(hb:IsTup s.heap b ws.toArray)(hv:vs≠[])
 (h1:ws=[]->Q (.ref t) s) (h2:ws≠[]->Q (.ref s.heap.objs.size) { s with heap:=s.heap.push { cls:=.type "tuple",data:=.seq (vs++ws).toArray } })
 (hsz:vs.length+ws.length<=sizeLine):wpAny (model prog w) A (binaryOp .Add (.ref t) (.ref b)) Q E s:=by
 obtain⟨⟨cls,dd,data,sl⟩,ho,hc,n,hd⟩:=id ht;obtain⟨⟨cls2,dd2,data2,sl2⟩,ho2,hc2,n2,hd2⟩:=id hb;simp only at hc hd hc2 hd2;subst hc hd hc2 hd2;have e:vs.toArray++ws.toArray=(vs++ws).toArray:=by simp
 by_cases hw:ws=[]
 .exact concat_meets ⟨_,ho,rfl⟩ ⟨_,ho2,rfl⟩ noFill_tuple_add seq_tuple_add PySem.F.slot_tuple_add PySem.F.entry_tuple_add (PySem.F.args_tuple_add_2 _ _)
   (tuple_addW1 t b vs.toArray ws.toArray n n2 dd dd2 sl sl2 (by simpa using hv) (by simp[hw])) ⟨ho,ho2,h1 hw⟩
 .refine concat_meets ⟨_,ho,rfl⟩ ⟨_,ho2,rfl⟩ noFill_tuple_add seq_tuple_add PySem.F.slot_tuple_add PySem.F.entry_tuple_add (PySem.F.args_tuple_add_2 _ _)
   (tuple_addW2 t b vs.toArray ws.toArray n n2 dd dd2 sl sl2 (by simpa using hv) (by simpa using hw) (by rw[size_toArray,size_toArray];exact hsz)) ⟨ho,ho2,?_⟩
  rw[e];exact h2 hw
def sIx(n d:Nat):Option Int->Nat
 |none=>d
 |some v=>if v<0 then(v+(n:Int)).toNat else min v.toNat n
end
end HT
namespace L2
open PySem PySem.Spec PyProof.Rows
abbrev TO:=St->Hp->(Option Int->Hp->Prop)->Prop
def PO(X:Cx)(e:Option Expr)(t:TO):Prop:=
 ∀(pins:List (Addr×Obj)) (s:Shared) (σ:St) (H:Hp) (Q:Option Int->Hp->Prop),Inv X pins σ H s->t σ H Q ->
   wpAny (model X.prog X.w) X.A (evalPart e X.env) (λu s'=>∃o H',Inv X pins σ H' s'/\IsPart u o/\Q o H') X.xe s
def JJ:TO:=λ_ H Q=>Q none H
def O1(t:TE):TO:=λσ H Q=>t σ H λx H1=>∃i,x=.int i/\Q (some i) H1
section
variable{X:Cx}{e:Expr}{te:TE}{lo hi:Option Expr}{tl th:TO}{pos p2:Pos}
def VT:PO X none JJ:=by
 intro pins s σ H Q I h;rw[evalPart_none];exact wpAny_pure ⟨none,H,I,.none,h⟩
def VS(h:PE X e te):PO X (some e) (O1 te):=by
 intro pins s σ H Q I hw;rw[evalPart_some];refine thn (h pins s σ H _ I hw) λu s1 ⟨x,H1,I1,r1,q1⟩=>?_;obtain⟨i,rfl,q⟩:=q1;obtain⟨t,rfl⟩:=r1;exact⟨some i,H1,I1,.int i t,q⟩
def SlR(X:Cx)(r:V->Option Int->Option Int->Hp->VK->Prop):Prop:=
 ∀(pins:List (Addr×Obj)) (s:Shared) (σ:St) (H:Hp) (x:V) (v vl vu:Value) (lo hi:Option Int) (sl:Addr) (Q:VK),Inv X pins σ H s->RelV x v->s.heap.IsSliceOf sl vl vu .none->IsPart vl lo->IsPart vu hi->r x lo hi H Q ->
   ∃T id,typeLookup (.type T) "__getitem__"=pure (some (.builtin id))/\s.TypeIs v T/\wpAny (model X.prog X.w) X.A (getItem v (.ref sl)) (EP X pins σ Q) X.xe s
def tSl(r:V->Option Int->Option Int->Hp->VK->Prop)(te:TE)(tl th:TO):TE:=λσ H Q=>te σ H λx H1=>tl σ H1 λl H2=>th σ H2 λu H3=>r x l u H3 Q
def Ss{r:V->Option Int->Option Int->Hp->VK->Prop}(hr:SlR X r)(he:PE X e te)(hl:PO X lo tl)(hu:PO X hi th):PE X (.Subscript e (.Slice lo hi none p2) pos) (tSl r te tl th):=by
 intro pins s σ H Q I h;refine Subscript_ (thn (he pins s σ H _ I h) λv s1 ⟨x,H1,I1,r1,q1⟩=>?_);refine wpAny_Slice (thn (hl pins s1 σ H1 _ I1 q1) λvl s2 ⟨l,H2,I2,pl,q2⟩=>thn (hu pins s2 σ H2 _ I2 q2) λvu s3 ⟨u,H3,I3,pu,q3⟩=>?_);rw[evalPart_none];refine wpAny_pure ?_;have I4:Inv X pins σ H3 { s3 with heap:=s3.heap.push { cls:=.type "slice",data:=.fields #[vl,vu,.none] } }:=I3.kept (t':=s3.toks) λb ob q=>Heap.get?_push_of_some _ q;obtain⟨T,id,hT,ht,hg⟩:=hr pins { s3 with heap:=s3.heap.push { cls:=.type "slice",data:=.fields #[vl,vu,.none] } } σ H3 x v vl vu l u s3.heap.objs.size Q I4 r1 (Heap.IsSliceOf.new ..) pl pu q3;show wpAny (model X.prog X.w) X.A (subscriptTail e (.Slice lo hi none p2) v (.ref s3.heap.objs.size)) (EP X pins σ Q) X.xe { s3 with heap:=s3.heap.push { cls:=.type "slice",data:=.fields #[vl,vu,.none] } };exact tail_any (ops:=[.ref s3.heap.objs.size,v]) ht hT hg (by with_unfolding_all rfl)
def IG(xs:List V)(lo hi:Option Int):List V:=(xs.drop (HT.sIx xs.length 0 lo)).take (HT.sIx xs.length xs.length hi-HT.sIx xs.length 0 lo)
def N0(xs:List V)(lo hi:Option Int):(IG xs lo hi).length<=xs.length:=by
 unfold IG;rw[length_take,List.length_drop];omega
def OU(K:PySem.W.Frag):R2:=λx y H Q=>∃a b xs ys,x=.ref a/\y=.ref b/\SqT K H a xs/\SqT K H b ys/\xs≠[]/\xs.length+ys.length<=sizeLine /\
 (ys=[]->Q (.ref a) H)/\(ys≠[]->∀p,H p=none->Q (.ref p) (upd H p (.tup (xs++ys))))
def Vals.nil_iff{xs:List V}{us:List Value}(r:Vals xs us):us=[]↔xs=[]:=by
 cases r with
 |nil=>simp
 |cons _ _=>simp
def Vk:OpR X (binaryOp .Add) (OU X.K):=by
 intro pins s σ H x y v u Q I rx ry h;obtain⟨a,b,xs,ys,rfl,rfl,ha,hb,hx,hz,q1,q2⟩:=h;cases rx;cases ry;obtain⟨its,r1,p1,_⟩:=I.tuple ha;obtain⟨its2,r2,p2,_⟩:=I.tuple hb;refine HT.cat_tup p1 p2 (λz=>hx (r1.nil_iff.mp z)) (λz=>⟨.ref a,H,I,rfl,q1 (r2.nil_iff.mp z)⟩) (λz=>?_) (by rw[<- r1.length,<- r2.length];exact hz);refine⟨.ref s.heap.objs.size,_,I.laid (t':=s.toks) (o:=.tup (xs++ys)) (λb ob q=>Heap.get?_push_of_some _ q) (le_refl _) ?_,rfl,q2 (λw=>z (r2.nil_iff.mpr w)) _ (I.hok.fresh (le_refl _))⟩;exact⟨by rw[length_append];exact hz,_,r1.append r2,IsTupD.new _ _⟩
end
def ixN(n:Nat)(i:Int):Option Nat:=if 0<=i then(if i<n then some i.toNat else none)else if -(n:Int)<=i then some (i+n).toNat else none
def atI{α:Type}(xs:List α)(i:Int):Option α:=(ixN xs.length i).bind λj=>xs[j]?
def Nb{n:Nat}{i:Int}{j:Nat}(h:ixN n i=some j):seqIndex? i n=some j/\j<n/\-(n:Int)<=i/\i<n:=by
 unfold ixN at h;by_cases h0:0<=i
 .rw[if_pos h0]at h;by_cases h1:i<n
  .rw[if_pos h1]at h;have e:i.toNat=j:=Option.some.inj h;exact⟨by rw[seqIndex_of h0 h1,e],by omega,by omega,h1⟩
  .rw[if_neg h1]at h;cases h
 .rw[if_neg h0]at h;by_cases h1:-(n:Int)<=i
  .rw[if_pos h1]at h;have e:(i+n).toNat=j:=Option.some.inj h;exact⟨by rw[seqIndex_neg (by omega) h1,e],by omega,h1,by omega⟩
  .rw[if_neg h1]at h;cases h
def Nn{α:Type}{xs:List α}{i:Int}{v:α}(h:atI xs i=some v):∃j,seqIndex? i xs.length=some j/\xs[j]?=some v/\j<xs.length/\-(xs.length:Int)<=i/\i<xs.length:=by
 unfold atI at h;cases e:ixN xs.length i with
 |none=>rw[e]at h;cases h
 |some j=>
  rw[e]at h;obtain⟨h1,h2,h3,h4⟩:=Nb e;exact⟨j,h1,h,h2,h3,h4⟩
def Dv{α:Type}{xs:List α}{j:Nat}{v:α}(h:xs[j]?=some v):atI xs (j:Int)=some v:=by
 have hj:j<xs.length:=(List.getElem?_eq_some_iff.mp h).1;have e:ixN xs.length (j:Int)=some j:=by
  unfold ixN;rw[if_pos (by omega),if_pos (by omega)];simp
 unfold atI;rw[e];exact h
def II{α:Type}(xs:List α)(v:α):atI (xs++[v]) (-1)=some v:=by
 have hl:(xs++[v]).length=xs.length+1:=by simp
 have e:ixN (xs++[v]).length (-1)=some xs.length:=by
  unfold ixN;rw[hl,if_neg (by decide),if_pos (by omega)]
  congr 1
  omega
 unfold atI;rw[e];show(xs++[v])[xs.length]?=some v;simp
def Jp(b:Expr):Prop:=∀o i,subscripted b false o i=operate [o,i] (getItem o i)
def IxR(X:Cx)(r:R2):Prop:=
 ∀(value slice:Expr) (pins:List (Addr×Obj)) (s:Shared) (σ:St) (H:Hp) (x y:V) (v u:Value) (Q:VK),Inv X pins σ H s->RelV x v->RelV y u->r x y H Q ->
   subscripted slice false v u=operate [v,u] (getItem v u)->wpAny (model X.prog X.w) X.A (subscriptTail value slice v u) (EP X pins σ Q) X.xe s
def MtR(X:Cx)(id:String)(r:V->List V->Hp->VK->Prop):Prop:=
 ∀(pins:List (Addr×Obj)) (s:Shared) (σ:St) (H:Hp) (x:V) (xs:List V) (v:Value) (us:List Value) (Q:VK),Inv X pins σ H s->RelV x v->Vals xs us->r x xs H Q ->
   wpAny (model X.prog X.w) X.A (call (.builtin id) (v::us)) (EP X pins σ Q) X.xe s
section
variable{X:Cx}{a b:Expr}{ta tb:TE}{pos:Pos}
def IxR.or{r r':R2}(h:IxR X r)(h':IxR X r'):IxR X (λx y H Q=>r x y H Q∨r' x y H Q):=by
 intro value slice pins s σ H x y v u Q I rx ry q hs;rcases q with q|q
 .exact h value slice pins s σ H x y v u Q I rx ry q hs
 .exact h' value slice pins s σ H x y v u Q I rx ry q hs
def Tx{r:R2}(hr:IxR X r)(ha:PE X a ta)(hb:PE X b tb)(hs:Jp b):PE X (.Subscript a b pos) (tOp r ta tb):=by
 intro pins s σ H Q I h;exact Subscript_ (TX ha hb I h λv u s2 x y H2 I2 rx ry q=>hr a b pins s2 σ H2 x y v u Q I2 rx ry q (hs _ _))
def SN(K:PySem.W.Frag):R2:=λx y H Q=>∃p xs i v,x=.ref p/\y=.int i/\SqL K H p xs/\atI xs i=some v/\Q v H
def SM(K:PySem.W.Frag):R2:=λx y H Q=>∃p xs i v,x=.ref p/\y=.int i/\SqT K H p xs/\atI xs i=some v/\Q v H
def Vy:IxR X (SN X.K):=by
 intro value slice pins s σ H x y v u Q I rx ry h hs;obtain⟨p,xs,i,z,rfl,rfl,hq,he,q⟩:=h;cases rx;obtain⟨t,rfl⟩:=ry;obtain⟨its,r,pl,hz⟩:=I.list hq;obtain⟨j,h1,h2,h3,h4,h5⟩:=Nn he;obtain⟨w,ew,rw'⟩:=r.get h2;have hl:=r.length;have hn:=Gn;have fin:EP X pins σ Q w s:=⟨z,H,I,rw',q⟩
 by_cases h0:0<=i
 .have hj:i.toNat=j:=by
   rw[seqIndex_of h0 h5]at h1;exact Option.some.inj h1
  exact item_listR pl.isList h0 (by omega) (by rw[hj];simpa using ew) fin hs
 .have hj:(i+(its.toArray.size:Int)).toNat=j:=by
   rw[seqIndex_neg (by omega) h4]at h1;rw[size_toArray,<- hl];exact Option.some.inj h1
  exact subscriptTail_builtinR (x:=w) pl.isList.typeIs slot_list_getitem.lookup
   (wpAny_getItem_list_neg (Q:=λr s'=>r=w/\EP X pins σ Q r s') pl.isList (by omega) (by rw[size_toArray]<;>omega) (by omega) (by rw[hj];simpa using ew) ⟨rfl,fin⟩) hs
def Yy:IxR X (SM X.K):=by
 intro value slice pins s σ H x y v u Q I rx ry h hs;obtain⟨p,xs,i,z,rfl,rfl,hq,he,q⟩:=h;cases rx;obtain⟨t,rfl⟩:=ry;obtain⟨its,r,pl,hz⟩:=I.tuple hq;obtain⟨j,h1,h2,h3,h4,h5⟩:=Nn he;obtain⟨w,ew,rw'⟩:=r.get h2;have hl:=r.length;have hn:=Gn;have fin:EP X pins σ Q w s:=⟨z,H,I,rw',q⟩
 exact subscriptTail_builtinR (x:=w) pl.typeIs slot_tuple_getitem.lookup
  (getItem_tuple (j:=j) (Q:=λr s'=>r=w/\EP X pins σ Q r s') pl (by omega) (by omega) (by rw[size_toArray,<- hl];exact h1) (by simpa using ew) ⟨rfl,fin⟩) hs
def Oc(its:List Value)(n j:Nat)(u:Value):Obj.mapSeq (·.setIfInBounds j u) { cls:=.type "list",data:=.seq its.toArray n }={ cls:=.type "list",data:=.seq (its.set j u).toArray n }:=by
 simp[Obj.mapSeq]
def Inv.lst{pins:List (Addr×Obj)}{σ:St}{H:Hp}{s:Shared}{p:Addr}{xs:List V}(I:Inv X pins σ H s)(h:H p=some (.lst xs)):
 ∃(its:List Value) (n:Nat),Vals xs its/\s.heap.get? p=some { cls:=.type "list",data:=.seq its.toArray n }/\xs.length<=sizeLine:=by
 obtain⟨z,its,n,r,e⟩:=I.hok p _ h;exact⟨its,n,r,e,z⟩
def Inv.lstUpd{pins:List (Addr×Obj)}{σ:St}{H:Hp}{s:Shared}{p:Addr}{xs ys:List V}{its its':List Value}{n n':Nat}{f:Obj->Obj}(I:Inv X pins σ H s)(h:H p=some (.lst xs))
 (ho:s.heap.get? p=some { cls:=.type "list",data:=.seq its.toArray n }) (hf:f { cls:=.type "list",data:=.seq its.toArray n }={ cls:=.type "list",data:=.seq its'.toArray n' }) (r:Vals ys its') (hz:ys.length<=sizeLine) (t:Nat):
 Inv X pins σ (upd H p (.lst ys)) { s with heap:=s.heap.update p f,toks:=t }:=by
 have e:(s.heap.update p f).get? p=some { cls:=.type "list",data:=.seq its'.toArray n' }:=by
  rw[Heap.get?_update_self f ho (by rw[hf]<;>rfl),hf]
 refine I.write (x:=p) (e:=p) (by rw[h];trivial) (.inl rfl) (λb u hb q=>(Heap.get?_update_other _ _ (Ne.symm hb)).trans q) ⟨_,e⟩ ?_;exact⟨hz,its',n',r,e⟩
def OS:V->V->V->Hp->(Hp->Prop)->Prop:=λo i v H Q=>∃p xs k j,o=.ref p/\i=.int k/\H p=some (.lst xs)/\ixN xs.length k=some j/\Q (upd H p (.lst (xs.set j v)))
def S0:ZK X OS:=by
 intro pins s σ H o i v ov iv u Q I ro ri rv h;obtain⟨p,xs,k,j,rfl,rfl,hp,hj,q⟩:=h;cases ro;obtain⟨t,rfl⟩:=ri;obtain⟨its,n,r,ho,hz⟩:=I.lst hp;obtain⟨h1,h2,h3,h4⟩:=Nb hj;have hl:=r.length;have hn:=Gn;have I':Inv X pins σ (upd H p (.lst (xs.set j v))) { s with heap:=s.heap.update p (Obj.mapSeq (·.setIfInBounds j u)) }:=
  I.lstUpd hp ho (Oc its n j u) (r.set rv j) (by rw[List.length_set];exact hz) s.toks
 by_cases h0:0<=k
 .have hk:k.toNat=j:=by
   rw[seqIndex_of h0 h4]at h1;exact Option.some.inj h1
  exact PySem.W.ki_setAt ho h0 (by omega) (by rw[size_toArray,<- hl];exact h4) (by rw[hk];exact⟨_,I',q⟩)
 .have hk:(k+(its.toArray.size:Int)).toNat=j:=by
   rw[seqIndex_neg (by omega) h3]at h1;rw[size_toArray,<- hl];exact Option.some.inj h1
  exact PySem.W.ki_setBack ho (by omega) (by rw[size_toArray,<- hl];exact h3) (by omega) (by rw[hk];exact⟨_,I',q⟩)
def LR(lo hi:Option Int)(n:Nat):(sliceBounds lo hi none n).1=((HT.sIx n 0 lo:Nat):Int)/\(sliceBounds lo hi none n).2.1=((HT.sIx n n hi:Nat):Int)/\(sliceBounds lo hi none n).2.2=1:=by
 refine⟨?_,?_,rfl⟩
 .cases lo with
  |none=>simp[sliceBounds,HT.sIx]
  |some i=>
   simp only[sliceBounds,HT.sIx,Option.getD_none,show(1:Int)>0 by decide,if_true];by_cases h:i<0
   .simp only[h,if_true]<;>omega
   .simp only[h,if_false]<;>omega
 .cases hi with
  |none=>simp[sliceBounds,HT.sIx]
  |some i=>
   simp only[sliceBounds,HT.sIx,Option.getD_none,show(1:Int)>0 by decide,if_true];by_cases h:i<0
   .simp only[h,if_true]<;>omega
   .simp only[h,if_false]<;>omega
def KQ(its:List Value)(lo hi:Option Int):slicePick its.toArray lo hi none=((its.drop (HT.sIx its.length 0 lo)).take (HT.sIx its.length its.length hi-HT.sIx its.length 0 lo)).toArray:=by
 obtain⟨h1,h2,h3⟩:=LR lo hi its.toArray.size;unfold slicePick;rw[h1,h2,h3];simp only[sliceRange_one,pick_run,size_toArray]<;>rfl
def OR(K:PySem.W.Frag):V->Option Int->Option Int->Hp->VK->Prop:=λx lo hi H Q=>∃a xs,x=.ref a/\SqL K H a xs/\∀p,H p=none->Q (.ref p) (upd H p (.lst (IG xs lo hi)))
def UP:SlR X (OR X.K):=by
 intro pins s σ H x v vl vu lo hi sl Q I rx hs pl pu h;obtain⟨a,xs,rfl,hx,q⟩:=h;cases rx;obtain⟨its,r,ht,hz⟩:=I.list hx;have hlen:=r.length;refine⟨"list",_,slot_list_getitem.lookup,ht.isList.typeIs,?_⟩;refine wpAny_getItem_list_slice ht.isList hs pl pu .none (by simp) ?_ (by rw[size_toArray]<;>omega);rw[KQ,<- hlen];refine⟨.ref s.heap.objs.size,_,I.laid (t':=s.toks) (o:=.lst (IG xs lo hi)) (λb ob q=>Heap.get?_push_of_some _ q) (le_refl _) ?_,rfl,q _ (I.hok.fresh (le_refl _))⟩;exact⟨le_trans (N0 xs lo hi) hz,_,0,(r.drop (HT.sIx xs.length 0 lo)).take (HT.sIx xs.length xs.length hi-HT.sIx xs.length 0 lo),Heap.get?_push_size _ rfl⟩
def E1:V->Bool
 |.non=>true
 |.bl _=>true
 |.int _=>true
 |.str _=>true
 |_=>false
def eqV:V->V->Bool
 |.non,.non=>true
 |.bl a,.bl b=>a==b
 |.bl a,.int b=>(if a then 1 else 0)==b
 |.int a,.bl b=>a==(if b then 1 else 0)
 |.int a,.int b=>a==b
 |.str a,.str b=>a==b
 |_,_=>false
def ZH{A:Around}{s:Shared}{y x:V}{u v:Value}(ry:RelV y u)(rx:RelV x v)(fy:E1 y=true)(fx:E1 x=true):SeqAt.EqAt A s u v (eqV y x):=by
 cases y with
 |non=>
  cases ry;cases x with
  |non=>cases rx;exact SeqAt.EqAt.same _
  |bl b=>cases rx;exact SeqAt.EqAt.none_bool b
  |int b=>obtain⟨t,rfl⟩:=rx;exact SeqAt.EqAt.none_int b t
  |str b=>obtain⟨t,rfl⟩:=rx;exact SeqAt.EqAt.none_str b t
  |_=>exact absurd (show false=true from fx) Bool.false_ne_true
 |bl a=>
  cases ry;cases x with
  |non=>cases rx;exact SeqAt.EqAt.bool_none a
  |bl b=>cases rx;exact SeqAt.EqAt.bool_bool a b
  |int b=>obtain⟨t,rfl⟩:=rx;exact SeqAt.EqAt.bool_int a b t
  |str b=>obtain⟨t,rfl⟩:=rx;exact SeqAt.EqAt.bool_str a b t
  |_=>exact absurd (show false=true from fx) Bool.false_ne_true
 |int a=>
  obtain⟨t',rfl⟩:=ry;cases x with
  |non=>cases rx;exact SeqAt.EqAt.int_none a t'
  |bl b=>cases rx;exact SeqAt.EqAt.int_bool a t' b
  |int b=>obtain⟨t,rfl⟩:=rx;exact SeqAt.EqAt.int_int a t' b t
  |str b=>obtain⟨t,rfl⟩:=rx;exact SeqAt.EqAt.int_str a t' b t
  |_=>exact absurd (show false=true from fx) Bool.false_ne_true
 |str a=>
  obtain⟨t',rfl⟩:=ry;cases x with
  |non=>cases rx;exact SeqAt.EqAt.str_none a t'
  |bl b=>cases rx;exact SeqAt.EqAt.str_bool a t' b
  |int b=>obtain⟨t,rfl⟩:=rx;exact SeqAt.EqAt.str_int a t' b t
  |str b=>obtain⟨t,rfl⟩:=rx;exact SeqAt.EqAt.str_str a t' b t
  |_=>exact absurd (show false=true from fx) Bool.false_ne_true
 |_=>exact absurd (show false=true from fy) Bool.false_ne_true
def eqU(x:V)(u:Value):Bool:=match u with
 |.none=>eqV .non x
 |.bool b=>eqV (.bl b) x
 |.int i _=>eqV (.int i) x
 |.str z _=>eqV (.str z) x
 |_=>false
def Qn{x y:V}{u:Value}(r:RelV y u)(f:E1 y=true):eqU x u=eqV y x:=by
 cases y with
 |non=>cases r;rfl
 |bl b=>cases r;rfl
 |int i=>obtain⟨t,rfl⟩:=r;rfl
 |str z=>obtain⟨t,rfl⟩:=r;rfl
 |_=>exact absurd (show false=true from f) Bool.false_ne_true
def Fi{x:V}:∀{xs:List V} {us:List Value},Vals xs us->xs.all E1=true->us.any (eqU x)=xs.any λy=>eqV y x
 |_,_,.nil,_=>rfl
 |y::xs,u::us,.cons r t,f=>by
  rw[List.all_cons,Bool.and_eq_true]at f;rw[any_cons,any_cons,Qn r f.1,Fi t f.2]
def Ep{A:Around}{s:Shared}{x:V}{v:Value}(rx:RelV x v)(fx:E1 x=true):∀{xs:List V} {us:List Value},Vals xs us->xs.all E1=true->∀u∈us,SeqAt.EqAt A s u v (eqU x u)
 |_,_,.nil,_=>λu hu=>by cases hu
 |y::xs,u::us,.cons r t,f=>λu' hu=>by
  rw[List.all_cons,Bool.and_eq_true]at f;rcases mem_cons.mp hu with rfl|hu
  .rw[Qn r f.1];exact ZH r rx f.1 fx
  .exact Ep rx fx t f.2 u' hu
def inV(x:V)(xs:List V):Bool:=xs.any λy=>eqV y x
def rIn(K:PySem.W.Frag)(neg:Bool):R2:=λx y H Q=>∃p xs,y=.ref p/\(SqL K H p xs∨SqT K H p xs)/\E1 x=true/\xs.all E1=true/\Q (.bl (if neg then !inV x xs else inV x xs)) H
def Q5:OpR X (compareOp .In) (rIn X.K false):=by
 intro pins s σ H x y v u Q I rx ry h;obtain⟨p,xs,rfl,hq,fx,fs,q⟩:=h;cases ry;rcases hq with hq|hq
 .obtain⟨its,r,pl,hz⟩:=I.list hq;refine SeqAt.in_listAt (eqU x) pl.isList (λw hw=>Ep rx fx r fs w (by simpa using hw)) ⟨.bl _,H,I,rfl,?_⟩;rw[show its.toArray.any (eqU x)=its.any (eqU x) by simp,Fi r fs];exact q
 .obtain⟨its,r,pl,hz⟩:=I.tuple hq;refine SeqAt.in_tupleAt (eqU x) pl (λw hw=>Ep rx fx r fs w (by simpa using hw)) ⟨.bl _,H,I,rfl,?_⟩;rw[show its.toArray.any (eqU x)=its.any (eqU x) by simp,Fi r fs];exact q
def Lo:OpR X (compareOp .NotIn) (rIn X.K true):=by
 intro pins s σ H x y v u Q I rx ry h;obtain⟨p,xs,rfl,hq,fx,fs,q⟩:=h;cases ry;rcases hq with hq|hq
 .obtain⟨its,r,pl,hz⟩:=I.list hq;refine SeqAt.notIn_listAt (eqU x) pl.isList (λw hw=>Ep rx fx r fs w (by simpa using hw)) ⟨.bl _,H,I,rfl,?_⟩;rw[show its.toArray.any (eqU x)=its.any (eqU x) by simp,Fi r fs];exact q
 .obtain⟨its,r,pl,hz⟩:=I.tuple hq;refine SeqAt.notIn_tupleAt (eqU x) pl (λw hw=>Ep rx fx r fs w (by simpa using hw)) ⟨.bl _,H,I,rfl,?_⟩;rw[show its.toArray.any (eqU x)=its.any (eqU x) by simp,Fi r fs];exact q
def Md:CallR X (.builtin "len") (λxs H Q=>∃p ys,xs=[.ref p]/\(SqL X.K H p ys∨SqT X.K H p ys)/\Q (.int ys.length) H):=by
 intro pins s σ H xs us Q I r h;obtain⟨p,ys,rfl,hq,q⟩:=h;obtain⟨u,rfl,rx⟩:=C8 r;cases rx;have hn:=Gn;rcases hq with hq|hq
 .obtain⟨its,r',pl,hz⟩:=I.list hq;have hlen:=r'.length;exact Calls.call_len_list pl.isList (by simp only[size_toArray]<;>omega) ⟨.int ys.length,H,I.tok _,⟨s.toks+1,by rw[size_toArray,hlen]⟩,q⟩
 .obtain⟨its,r',pl,hz⟩:=I.tuple hq;have hlen:=r'.length;exact len_tuple pl (by simp only[size_toArray]<;>omega) ⟨.int ys.length,H,I.tok _,⟨s.toks+1,by rw[size_toArray,hlen]⟩,q⟩
def CallR.or{f:Value}{r r':List V->Hp->VK->Prop}(h:CallR X f r)(h':CallR X f r'):CallR X f (λxs H Q=>r xs H Q∨r' xs H Q):=by
 intro pins s σ H xs us Q I rs q;rcases q with q|q
 .exact h pins s σ H xs us Q I rs q
 .exact h' pins s σ H xs us Q I rs q
def Mc:CallR X (.type "list") (λxs H Q=>∃p ys,xs=[.ref p]/\(SqL X.K H p ys∨SqT X.K H p ys)/\∀l,H l=none->Q (.ref l) (upd H l (.lst ys))):=by
 intro pins s σ H xs us Q I r h;obtain⟨p,ys,rfl,hq,q⟩:=h;obtain⟨u,rfl,rx⟩:=C8 r;cases rx;have fin:∀(its:List Value),Vals ys its->ys.length<=sizeLine->∀(h':Heap) (c':Nat),(∀b o',s.heap.get? b=some o'->h'.get? b=some o') ->
  h'.get? s.heap.objs.size=some { cls:=.type "list",dict:=none,data:=.seq its.toArray c',slots:=#[] }->EP X pins σ Q (.ref s.heap.objs.size) { s with heap:=h' }:=λits r' hz h' c' kp e=>
  ⟨.ref s.heap.objs.size,_,I.laid (t':=s.toks) kp (le_refl _) (show ObjOk X.prog X.w _ h' _ (.lst ys)from⟨hz,its,c',r',e⟩),rfl,q _ (I.hok.fresh (le_refl _))⟩
 rcases hq with hq|hq
 .obtain⟨its,r',pl,hz⟩:=I.list hq;have hlen:=r'.length;obtain⟨o,ho,hc,n,hd⟩:=pl.isList;exact call_list_seq p (.inl rfl) ho hc hd (λh' c' kp e=>fin its r' hz h' c' kp e) (by simp only[size_toArray]<;>omega)
 .obtain⟨its,r',pl,hz⟩:=I.tuple hq;have hlen:=r'.length;obtain⟨o,ho,hc,n,hd⟩:=pl;exact call_list_seq p (.inr rfl) ho hc hd (λh' c' kp e=>fin its r' hz h' c' kp e) (by simp only[size_toArray]<;>omega)
def Kg:CallR X (.type "tuple") (λxs H Q=>∃p ys,xs=[.ref p]/\((SqL X.K H p ys/\∀l,H l=none->Q (.ref l) (upd H l (.tup ys)))∨(SqT X.K H p ys/\Q (.ref p) H))):=by
 intro pins s σ H xs us Q I r h;obtain⟨p,ys,rfl,h⟩:=h;obtain⟨u,rfl,rx⟩:=C8 r;cases rx;rcases h with⟨hq,q⟩|⟨hq,q⟩
 .obtain⟨its,r',pl,hz⟩:=I.list hq;have hlen:=r'.length;refine call_tuple_list pl.isList (λh' kp=>?_) (by simp only[size_toArray]<;>omega);have I1:Inv X pins σ H { s with heap:=h' }:=I.kept (t':=s.toks) kp;have I2:Inv X pins σ (upd H h'.objs.size (.tup ys)) { s with heap:=h'.push { cls:=.type "tuple",data:=.seq its.toArray } }:=
   I1.laid (t':=s.toks) (λb o e=>Heap.get?_push_of_some _ e) (le_refl _) (show ObjOk X.prog X.w _ _ _ (.tup ys)from⟨hz,its,r',IsTupD.new _ _⟩)
  exact⟨.ref h'.objs.size,_,I2,rfl,q _ (I1.hok.fresh (le_refl _))⟩
 .obtain⟨its,r',pl,hz⟩:=I.tuple hq;exact call_tuple_same pl ⟨.ref p,H,I,rfl,q⟩
def tyV(K:PySem.W.Frag)(T:String)(x:V)(H:Hp):Prop:=match x with
 |.str _=>T="str"
 |.int _=>T="int"
 |.ref p=>(T="list"/\∃xs,SqL K H p xs)∨(T="tuple"/\∃o,K.lookup p=some o/\o.cls=.type "tuple"/\o.dict=none) ∨
  (T="dict"/\((∃kvs,H p=some (.dK kvs))∨∃kvs,H p=some (.dT kvs)))∨(T="set"/\∃S n,H p=some (.set S n))
 |_=>False
def Wb{pins:List (Addr×Obj)}{σ:St}{H:Hp}{s:Shared}{T:String}{x:V}{v:Value}(I:Inv X pins σ H s)(r:RelV x v)(ty:tyV X.K T x H):
 s.TypeIs v T/\∀a,v=.ref a->∃ob,s.heap.get? a=some ob/\ob.dict=none:=by
 cases x with
 |str z=>
  obtain⟨t,rfl⟩:=r;cases(show T="str" from ty);exact⟨typeIs_str s z t,λ_ e=>nomatch e⟩
 |int i=>
  obtain⟨t,rfl⟩:=r;cases(show T="int" from ty);exact⟨typeIs_int s i t,λ_ e=>nomatch e⟩
 |ref p=>
  cases r;rcases ty with⟨rfl,xs,hq⟩|⟨rfl,o,hk,hc,hd⟩|⟨rfl,hk⟩|⟨rfl,S,n,hk⟩
  .obtain⟨its,_,pl,_⟩:=I.list hq;refine⟨pl.isList.typeIs,λa e=>?_⟩;cases e;obtain⟨o,n,e,c,hd,_⟩:=pl;exact⟨o,e,hd⟩
  .refine⟨⟨o,I.kIn p o hk,hc⟩,λa e=>?_⟩;cases e;exact⟨o,I.kIn _ o hk,hd⟩
  .have z:∃o,s.heap.get? p=some o/\o.ExactDict:=by
    rcases hk with⟨kvs,hk⟩|⟨kvs,hk⟩
    .obtain⟨_,_,_,_,o,_,_,e,ex,_⟩:=I.hok p _ hk;exact⟨o,e,ex⟩
    .obtain⟨_,_,_,_,o,_,_,e,ex,_⟩:=I.hok p _ hk;exact⟨o,e,ex⟩
   obtain⟨o,e,ex⟩:=z;refine⟨⟨o,e,ex.1⟩,λa e2=>?_⟩;cases e2;exact⟨o,e,ex.2.1⟩
  .obtain⟨o,_,_,_,e,ex,_⟩:=I.hok p _ hk;refine⟨⟨o,e,ex.1⟩,λa e2=>?_⟩;cases e2;exact⟨o,e,ex.2.1⟩
 |_=>exact False.elim ty
def tBM(K:PySem.W.Frag)(T:String)(r:V->List V->Hp->VK->Prop)(to:TE)(t:TA):TE:=λσ H Q=>to σ H λx H1=>tyV K T x H1/\t σ H1 λxs H2=>r x xs H2 Q
variable{o e:Expr}{es:List Expr}{to:TE}{t:TA}{name:Str}{apos cpos:Pos}{T id:String}{r:V->List V->Hp->VK->Prop}
def Zp(pa:PlainAttrs T)(slot:Slot T name id)(hty:typeOf (.builtin id)=pure (.type "method_descriptor"))(hm:MtR X id r)(ho:PE X o to)(ha:PA X (e::es) t)
 (hbase:attributeBase o name X.env (eval o X.env)=eval o X.env:=by rfl)
 (hfew:((backTo cpos (starEach (e::es) X.env)).all (λx=>!x.1)&&(backToKw cpos (keywordEach [] X.env)).all (λx=>x.1.isSome)
  && decide ((e::es).length+([]:List Keyword).length+(if([]:List Keyword).isEmpty then 0 else 1)<30))=true:=by rfl)
 (hline:(apos.endLine==cpos.line)=true:=by rfl) (hs:starEach (e::es) X.env=(false,eval e X.env)::starEach es X.env:=by rfl) (hplain:(backTo cpos (starEach es X.env)).any (·.1)=false:=by rfl):
 PE X (.Call (.Attribute o name apos) (e::es) [] cpos) (tBM X.K T r to t):=by
 intro pins s σ H Q I h;refine wpAny_Call_method_late hbase hfew hline rfl (thn (ho pins s σ H _ I h) λv s1 ⟨x,H1,I1,r1,ty,q1⟩=>?_);obtain⟨h1,h2⟩:=Wb I1 r1 ty;refine⟨T,id,pa,slot,hty,h1,h2,?_⟩;have hA:=ha cpos pins s1 σ H1 _ I1 q1;rw[hs]at hA ⊢;refine Calls.callWith_builtin (by show(false||(backTo cpos (starEach es X.env)).any (·.1))=false;rw[hplain]<;>rfl) (Calls.evalArgs_plain ?_);exact thn hA λus s2 ⟨vs,H2,I2,r2,q2⟩=>hm pins s2 σ H2 x vs v us Q I2 r1 r2 q2
end
def MtM(X:Cx)(id:String)(r:V->List V->Hp->VK->Prop):Prop:=
 ∀(pins:List (Addr×Obj)) (s:Shared) (σ:St) (H:Hp) (x:V) (xs:List V) (v:Value) (us:List Value) (Q:VK),Inv X pins σ H s->RelV x v->Vals xs us->r x xs H Q ->
   wpAny (model X.prog X.w) X.A (call (.builtin id) (v::us)) (EP X pins σ Q) X.xe s
def Vals.one:∀{x:V} {us:List Value},Vals [x] us->∃u,us=[u]/\RelV x u
 |_,_,.cons r .nil=>⟨_,rfl,r⟩
def Vals.rep{xs:List V}{us:List Value}(h:Vals xs us):∀k:Nat,Vals (List.replicate k xs).flatten (List.replicate k us).flatten
 |0=>.nil
 |k+1=>by
  rw[replicate_succ,replicate_succ,flatten_cons,flatten_cons];exact Vals.append h (Vals.rep h k)
def Gp(its:List Value):∀(k:Nat) (acc:List Value),
 List.foldl (λx1 x2=>x1++x2) acc.toArray (List.replicate k its.toArray)=(acc++(List.replicate k its).flatten).toArray
 |0,acc=>by simp
 |k+1,acc=>by
  have e:acc.toArray++its.toArray=(acc++its).toArray:=by simp
  have e2:(acc++its)++(List.replicate k its).flatten=acc++(List.replicate (k+1) its).flatten:=by
   rw[replicate_succ,flatten_cons,append_assoc]
  rw[<- e2,<- Gp its k (acc++its),<- e,replicate_succ,List.foldl_cons]
section
variable{X:Cx}{pins:List (Addr×Obj)}{σ:St}{H:Hp}{s:Shared}{l b:Addr}{xs ys zs:List V}
def Inv.lset{its its':List Value}{n:Nat}{f:Array Value->Array Value}{t':Nat}(I:Inv X pins σ H s)(hH:H l=some (.lst xs))
 (e:s.heap.get? l=some { cls:=.type "list",data:=.seq its.toArray n }) (hf:f its.toArray=its'.toArray) (hv:Vals ys its') (hz:ys.length<=sizeLine):
 Inv X pins σ (upd H l (.lst ys)) { s with heap:=s.heap.update l (Obj.mapSeq f),toks:=t' }:=by
 have q:=PySem.IsL.update e f;rw[hf]at q;refine I.write (x:=l) (e:=l) (by rw[hH];exact trivial) (.inl rfl) (λb' u hb hu=>(Heap.get?_update_other s.heap (Obj.mapSeq f) (Ne.symm hb)).trans hu) ⟨_,q⟩ ?_;exact⟨hz,its',_,hv,q⟩
def Inv.lnew{its:List Value}{t':Nat}(I:Inv X pins σ H s)(hv:Vals ys its)(hz:ys.length<=sizeLine):
 Inv X pins σ (upd H s.heap.objs.size (.lst ys)) { s with heap:=s.heap.push { cls:=.type "list",data:=.seq its.toArray },toks:=t' }:=
 I.laid (λ_ _ q=>Heap.get?_push_of_some _ q) (le_refl _) ⟨hz,its,0,hv,Heap.get?_push_size _ rfl⟩
def Inv.fresh(I:Inv X pins σ H s):H s.heap.objs.size=none:=I.hok.fresh (le_refl _)
def Inv.lstM(I:Inv X pins σ H s)(hH:H l=some (.lst xs)):xs.length<=sizeLine/\∃(its:List Value) (n:Nat),Vals xs its/\xs.length=its.length/\s.heap.get? l=some { cls:=.type "list",data:=.seq its.toArray n }:=by
 obtain⟨z,its,n,r,e⟩:=I.hok l _ hH;exact⟨z,its,n,r,r.length,e⟩
def Lr{n:Nat}(h:n<=sizeLine):Builtin.List.listTooLong n=false:=by
 unfold Builtin.List.listTooLong;exact decide_eq_false (by omega)
end
section
variable{X:Cx}
def NO:V->List V->Hp->VK->Prop:=λx vs H Q=>∃l xs y,x=.ref l/\vs=[y]/\H l=some (.lst xs)/\xs.length<sizeLine/\Q .non (upd H l (.lst (xs++[y])))
def K4:MtM X "list.append" NO:=by
 intro pins s σ H x vs v us Q I rx rv h;obtain⟨l,xs,y,rfl,rfl,hH,hz,q⟩:=h;cases rx;obtain⟨u,rfl,ru⟩:=rv.one;obtain⟨z,its,n,r,hl,e⟩:=I.lstM hH;refine call_meets F.slot_list_append ⟨_,e,rfl⟩ F.entry_list_append (F.args_list_append_2 _ _) (PySem.list_append l its.toArray n u (by rw[size_toArray];omega)) ⟨e,?_⟩;refine⟨.non,_,I.lset (its':=its++[u]) hH e (by simp) (r.append (.cons ru .nil)) ?_,rfl,q⟩;rw[length_append,List.length_singleton];omega
def Uq:V->List V->Hp->VK->Prop:=λx vs H Q=>∃l b xs zs,x=.ref l/\vs=[.ref b]/\H l=some (.lst xs)/\H b=some (.lst zs)/\xs.length+zs.length<=sizeLine/\Q .non (upd H l (.lst (xs++zs)))
def aR:MtM X "list.extend" Uq:=by
 intro pins s σ H x vs v us Q I rx rv h;obtain⟨l,b,xs,zs,rfl,rfl,hH,hB,hz,q⟩:=h;cases rx;obtain⟨u,rfl,ru⟩:=rv.one;cases ru;obtain⟨z,its,n,r,hl,e⟩:=I.lstM hH;obtain⟨z2,its2,n2,r2,hl2,e2⟩:=I.lstM hB;have hsz:its.toArray.size+its2.toArray.size<=sizeLine:=by rw[size_toArray,size_toArray];omega
 have hlong:¬ (!its.toArray.isEmpty&&Builtin.List.listTooLong (its.toArray.size+its2.toArray.size))=true:=by
  rw[Lr hsz,Bool.and_false];exact Bool.false_ne_true
 refine call_meets F.slot_list_extend ⟨_,e,rfl⟩ F.entry_list_extend (F.args_list_extend_2 _ _)
  (AutoSeq1.list_extend_list_list_0 l its.toArray n b its2.toArray n2 hlong (by rw[size_toArray];omega) (by omega)) ⟨e,e2,?_⟩
 refine⟨.non,_,I.lset (its':=its++its2) hH e (by simp) (r.append r2) ?_,rfl,q⟩;rw[length_append];omega
def SQ:R2:=λx y H Q=>∃l b xs zs,x=.ref l/\y=.ref b/\H l=some (.lst xs)/\H b=some (.lst zs)/\xs.length+zs.length<=sizeLine/\∀p,H p=none->Q (.ref p) (upd H p (.lst (xs++zs)))
def Yi:OpR X (binaryOp .Add) SQ:=by
 intro pins s σ H x y v u Q I rx ry h;obtain⟨l,b,xs,zs,rfl,rfl,hH,hB,hz,q⟩:=h;cases rx;cases ry;obtain⟨z,its,n,r,hl,e⟩:=I.lstM hH;obtain⟨z2,its2,n2,r2,hl2,e2⟩:=I.lstM hB;refine PySem.P.add_list e e2 ?_ (by rw[size_toArray,size_toArray];omega);have ea:its.toArray++its2.toArray=(its++its2).toArray:=by simp
 rw[ea];exact⟨.ref _,_,I.lnew (t':=s.toks) (r.append r2) (by rw[length_append];omega),rfl,q _ I.fresh⟩
def SK:R2:=λx y H Q=>∃l k xs,x=.ref l/\y=.int k/\H l=some (.lst xs)/\-(2^63)<=k/\k<2^63/\xs.length*k.toNat<=sizeLine /\
 ∀p,H p=none->Q (.ref p) (upd H p (.lst (List.replicate k.toNat xs).flatten))
def NX{α:Type}(xs:List α)(k:Nat):(List.replicate k xs).flatten.length=k*xs.length:=by
 induction k with
 |zero=>simp
 |succ k ih=>rw[replicate_succ,flatten_cons,length_append,ih,Nat.succ_mul,Nat.add_comm]
def YY:OpR X (binaryOp .Mult) SK:=by
 intro pins s σ H x y v u Q I rx ry h;obtain⟨l,k,xs,rfl,rfl,hH,h1,h2,hz,q⟩:=h;cases rx;obtain⟨t,rfl⟩:=ry;obtain⟨z,its,n,r,hl,e⟩:=I.lstM hH;have hlen:its.toArray.size*k.toNat<=sizeLine:=by rw[size_toArray,<- hl];exact hz
 have hcap:¬ its.toArray.size*k.toNat>(2^63-1)/8:=by
  have:(sizeLine:Nat)<=(2^63-1)/8:=by decide
  omega
 have hfit:¬ (!Builtin.List.listFitsIndex k)=true:=by
  rw[fitsIndex_both h1 h2];exact Bool.false_ne_true
 have hlong:¬ Builtin.List.listTooLong (its.toArray.size*k.toNat)=true:=by
  rw[Lr hlen];exact Bool.false_ne_true
 have hnew:List.foldl (λx1 x2=>x1++x2) #[] (List.replicate (if its.toArray.isEmpty=true then 0 else k.toNat) its.toArray)=(List.replicate k.toNat its).flatten.toArray:=by
  have f0:∀m:Nat,List.foldl (λx1 x2=>x1++x2) #[] (List.replicate m its.toArray)=(List.replicate m its).flatten.toArray:=λm=>by
   have:=Gp its m [];rw[nil_append]at this;exact this
  rw[f0];cases its with
  |nil=>simp
  |cons a r'=>rw[if_neg (by simp)]
 refine wpAny_binaryOp_repeat_ref (T:="list") (U:="int") (by decide) ⟨_,e,rfl⟩ (λs'=>typeIs_int s' k t) noFill_list_mul F.fills_int_mul F.slot_int_rmul repeat_list F.slot_int_index.lookup
  (call_meets F.slot_int_rmul (typeIs_int s k t) F.entry_int_rmul (F.args_int_rmul_2 _ _) (int___rmul___int_list k t l its.toArray n)
   ⟨e,rfl,⟨_,e,rfl⟩,call_meets F.slot_list_mul ⟨_,e,rfl⟩ F.entry_list_mul (F.args_list_mul_2 _ _) (AutoListH.list___mul___list_int_3 l its.toArray n k t hfit hcap hlong) ⟨e,?_⟩⟩)
 rw[hnew];exact⟨.ref _,_,I.lnew (t':=s.toks) (r.rep k.toNat) (by rw[NX,Nat.mul_comm];exact hz),rfl,q _ I.fresh⟩
end
end L2
namespace Att
open PySem PySem.W PySem.Calls PyProof.Rows
def Iz{P:Params}{h:Heap}:∀(ns:List Int) (vs:List Value),WellAll P h vs (ns.map WData.int)->IntsAre vs ns:=by
 intro ns
 induction ns with
 |nil=>
  intro vs w;rw[map_nil]at w;cases w;exact .nil
 |cons n ns ih=>
  intro vs w;rw[map_cons]at w;cases w with
  |cons a b=>
   cases a;exact .cons _ _ (ih _ b)
def Pa{l:OpenLaw}{n:Nat}(hn:l.most=some n){P:Params}{h:Heap}{args:List WData}{vals:List Value}
 (hpre:l.row.toRowW.claim.pre args=true) (hwl:WellAll P h vals args):
 ∃a vs ns,vals=[Value.ref a]/\args=[WData.list (ns.map WData.int)]/\h.get? a=some { cls:=.type "list",data:=.seq vs.toArray }/\IntsAre vs ns/\ns.length<=n:=by
 have hsh:WShape.hasAll [] args [.list .int]=true:=(pre_splitW hpre).1;have hc:l.pre.holds [] { args:=args }=true:=(pre_splitW hpre).2;obtain⟨d,r,rfl,h1,h2⟩:=hasAllW_cons hsh;obtain rfl:=hasAllW_nil h2;obtain⟨xs,rfl,h3⟩:=hasW_list h1;obtain⟨ns,rfl⟩:=items_int h3;have hlen:ns.length<=n:=by
  unfold OpenLaw.pre at hc;have h4:(WTm.not (.lt (.lit (.int (n:Int))) (.len (.arg 0)))).holds [] { args:=[.list (ns.map .int)] }=true:=by
   have h4:=(holds_andW hc).1;rw[hn]at h4;exact h4
  have h5:=condW_of h4 (w_not (w_lt w_lit (w_len_list (w_arg rfl))));rw[length_map]at h5;refine Nat.le_of_not_lt λq=>?_;have q':(n:Int)<((ns.length:Nat):Int):=by omega
  first
   |(rw[decide_eq_true q']at h5;exact absurd h5 (by decide))
   |(simp at h5;omega)
 cases hwl with
 |cons w1 w2=>
  cases w2;cases w1 with
  |list ho hall=>exact⟨_,_,ns,rfl,rfl,ho,Iz ns _ hall,hlen⟩
def Px(l:OpenLaw)(args:List WData):l.row.toRowW.claim.post args (.bool true) args=true:=
 postW_of (r:=l.row.toRowW) (X:=(true==true))
  (show WShape.has [] (.bool true) .bool=true by first|rfl|decide|simp[WShape.has,WShape.arms,WShape.armsAll])
  (show(WTm.eq .res (.lit (.bool true))).value [] { args:=args,res:=some (.bool true),after:=args }=some (.bool (true==true))from w_eq_bool (w_res rfl) w_lit) rfl
def attach_call{l:OpenLaw}{n:Nat}{q:Program}{loose:List Str}{XP:(Str->Option Value)->Heap->Prop}{YP:World->Heap->Prop}{d:DefRec}
 (hn:l.most=some n) (hdf:d.params.defaults=[])
 (call:∀(w:World) (s₀ s₁:Shared) (mg mb:Str->Option Value) (fa:Addr) (o:Obj) (pm cd doc:Value) (a:Addr) (vs:List Value) (ns:List Int),
  Ground q loose [] XP w s₀ mg mb s₁.heap->YP w s₁.heap ->
  s₁.heap.get? fa=some o->o.data=.func (docDef d.name d.params d.body d.scope pm cd doc)->s₁.heap.CodeRec cd d.name->mg d.name=some (.ref fa) ->
  s₁.heap.get? a=some { cls:=.type "list",data:=.seq vs.toArray }->IntsAre vs ns->ns.length<=n->s₁.gens=#[] ->
  codeAny (model l.prog w) callerA (.call (.ref fa) ⟨[.ref a],[]⟩) (λr s'=>r=.ok (.ret (.bool true))/\OldK s₁.heap s'.heap/\s'.os=s₁.os/\AllBare s'.gens) s₁):
 WalkO q loose XP YP l.row.toRowW d [] (λf vs=>PySem.call f vs):=by
 intro w s₀ s₁ mg mb G Y fa o pm cd doc dV kV ho hd hcd hD hmg hg args vals as hpre hlay hrd hwl hlo;obtain rfl:dV=.none:=Dflts.none hD hdf;obtain rfl:kV=.none:=Dflts.noKw hD;obtain⟨a,vs,ns,rfl,rfl,hobj,hints,hlen⟩:=Pa hn hpre hwl;refine enter_call (codeAny_mono (call w s₀ s₁ mg mb fa o pm cd doc a vs ns G Y ho (fd_plain hd) hcd hmg hobj hints hlen hg) λr s' hq=>?_);obtain⟨rfl,h2,h3,h4⟩:=hq;exact⟨.inl ⟨.bool true,.bool true,[],rfl,λ_=>rfl,.bool true,Px l _,λ_=>⟨List.Pairwise.nil,λ_ hm=>(nomatch hm)⟩⟩,h2,h3,h4⟩
end Att
namespace L2
open PySem PySem.Spec PyProof.Rows
def Jr:∀{vs:List Value} {ns:List Int},IntsAre vs ns->Vals (ns.map V.int) vs
 |_,_,.nil=>.nil
 |_,_,.cons n t h=>.cons ⟨t,rfl⟩ (Jr h)
def CU(s:Stmt):Arguments:=match s with
 |.FunctionDef _ a _ _ _ _ _ _ _ _=>a
 |_=>{ posonlyargs:=[],args:=[],vararg:=none,kwonlyargs:=[],kw_defaults:=[],kwarg:=none,defaults:=[] }
def BJ(s:Stmt):List Stmt:=match s with
 |.FunctionDef _ _ b _ _ _ _ _ _ _=>b
 |_=>[]
def AB(s:Stmt):Scope:=match s with
 |.FunctionDef _ _ _ _ _ _ sc _ _ _=>sc
 |_=>{ kind:=.function,names:=[],isGenerator:=false,isCoroutine:=false }
abbrev CX0:CXT:=λ_ _ _ _ _ _=>False
abbrev E0:XK:=λ_ _ _=>False
def Zr{X:Cx}:Mj CX0 X E0:=λ_ _ _ _ _ _ _ h=>h.elim
structure Fun(K:PySem.W.Frag)(x qual:Str)(st:Stmt)(f:Addr)(fd:FuncData):Prop where
 ex:∃(oc:Value) (od:Option Addr) (kV doc pm:Value) (an:Option Addr) (cdv ct:Value) (osl:Array (Option Value)),
  fd=PySem.W.fnOf x qual (CU st) (BJ st) (AB st) .none kV doc pm an cdv ct/\K.lookup f=some ⟨oc,od,.func fd,osl⟩/\PySem.W.codeIn K cdv qual=true
 kp:PySem.W.keepIn K (.ref f)=true
section
variable{P:Program}{w:World}{K:PySem.W.Frag}{mg:Str->Option Value}{base:Heap}
def Fun.ok{x qual:Str}{st:Stmt}{f:Addr}{fd:FuncData}{N ps:List Str}{k:Nat}{sp:Sp}(F:Fun K x qual st f fd)(S:FnScope N ps (AB st))(len:∀vs H Q E,sp vs H Q E->vs.length=ps.length)
 (hbody:∀(cdv:Value) (A:Around) (outer:List Env) (s:Shared) (H:Hp) (vs:List V) (Q:VK) (E:XK),Room k (A.deeper (envOfC qual (AB st) s.heap.objs.size f cdv))->sp vs H Q E ->
  ∃t,PSs (FM CX0 P w K mg base N qual (AB st) f cdv A outer s H E).nox (BJ st) t/\t { nx:=λ_ H'=>Q .non H',rt:=Q } (DD N vs) H):FnOk P w K mg base CX0 (k+1) f fd ps sp:=by
 obtain⟨oc,od,kV,doc,pm,an,cdv,ct,osl,rfl,lk,hcd⟩:=F.ex;refine U6 lk hcd S len λA outer s H vs Q E hr hsp=>?_;obtain⟨t,h,q⟩:=hbody cdv A outer s H vs Q E hr hsp;exact⟨t,h.nox,q⟩
def Fun.binds{x qual:Str}{st:Stmt}{f:Addr}{fd:FuncData}{ps:List Str}(F:Fun K x qual st f fd)
 (h:∀(kV doc pm:Value) (an:Option Addr) (cdv ct:Value) (us:List Value),us.length=ps.length->bindArgs (PySem.W.fnOf x qual (CU st) (BJ st) (AB st) .none kV doc pm an cdv ct) ⟨us,[]⟩=pure (ps.zip us)):Binds K fd ps []:=by
 obtain⟨oc,od,kV,doc,pm,an,cdv,ct,osl,rfl,lk,hcd⟩:=F.ex;exact .all (h kV doc pm an cdv ct)
def Z2{x qual:Str}{st:Stmt}{f:Addr}{oc:Value}{od an:Option Addr}{osl:Array (Option Value)}{kV doc pm cdv ct:Value}(l:K.lookup f=some ⟨oc,od,.func (PySem.W.fnOf x qual (CU st) (BJ st) (AB st) .none kV doc pm an cdv ct),osl⟩)
 (c:PySem.W.codeIn K cdv qual=true) (k:PySem.W.keepIn K (.ref f)=true):Fun K x qual st f (PySem.W.fnOf x qual (CU st) (BJ st) (AB st) .none kV doc pm an cdv ct):=⟨⟨oc,od,kV,doc,pm,an,cdv,ct,osl,rfl,l,c⟩,k⟩
end
def U4{A:Around}{k:Nat}(hr:Room k A):A.units+1<cLine:=Nat.lt_of_le_of_lt (Nat.add_le_add_left (by decide:1<=64) _) hr.units
def GR{n:Nat}(h:n<=1000):n<sizeLine:=Nat.lt_of_le_of_lt h (by decide)
section
variable{κ:Type}[DecidableEq κ]
def Di(kvs:List (κ×V))(k:κ):Option V:=(kvs.find? λkv=>decide (kv.1=k)).map (·.2)
def CA(kvs:List (κ×V))(k:κ)(v:V):List (κ×V):=
 if(kvs.any λkv=>decide (kv.1=k))=true then kvs.map (λkv=>if kv.1=k then(kv.1,v)else kv)else kvs++[(k,v)]
def Eh{p:κ×V}{r:List (κ×V)}{k:κ}(e:p.1=k):Di (p::r) k=some p.2:=by simp[Di,find?_cons,e]
def Ei{p:κ×V}{r:List (κ×V)}{k:κ}(e:¬ p.1=k):Di (p::r) k=Di r k:=by simp[Di,find?_cons,e]
def LJ(k:κ):∀kvs:List (κ×V),(kvs.any λkv=>decide (kv.1=k))=(Di kvs k).isSome
 |[]=>rfl
 |p::r=>by
  rw[any_cons];by_cases e:p.1=k
  .simp only[Eh e,decide_eq_true e,Bool.true_or,Option.isSome_some]
  .rw[Ei e,decide_eq_false e,Bool.false_or];exact LJ k r
def FI(kvs:List (κ×V))(k:κ)(v:V):(CA kvs k v).length<=kvs.length+1:=by
 unfold CA;split
 .rw[length_map];omega
 .rw[length_append,length_cons,length_nil];omega
def RelO.isSome_eq{o:Option V}{u:Option Value}(r:RelO o u):o.isSome=u.isSome:=by
 cases o with
 |none=>cases u with
  |none=>rfl
  |some _=>exact(show False from r).elim
 |some _=>cases u with
  |none=>exact(show False from r).elim
  |some _=>rfl
def KV.val{kvs:List (κ×V)}{vs:List (κ×Value)}(r:KV kvs vs)(k:κ):RelO (Di kvs k) (valueAt vs k):=by
 unfold KV at r
 induction r with
 |nil=>exact True.intro
 |@cons p q ps qs h t ih=>
  obtain⟨h1,h2⟩:=h;by_cases e:p.1=k
  .have e':q.1=k:=h1.symm.trans e;have b:valueAt (q::qs) k=some q.2:=by simp[valueAt,find?_cons,e']
   rw[Eh e,b];exact h2
  .have e':¬ q.1=k:=λz=>e (h1.trans z);have b:valueAt (q::qs) k=valueAt qs k:=by simp[valueAt,find?_cons,e']
   rw[Ei e,b];exact ih
def KV.any{kvs:List (κ×V)}{vs:List (κ×Value)}(r:KV kvs vs)(k:κ):(kvs.any λkv=>decide (kv.1=k))=vs.any λkv=>decide (kv.1=k):=by
 unfold KV at r
 induction r with
 |nil=>rfl
 |cons h t ih=>rw[any_cons,any_cons,ih,h.1]
def KV.repl{kvs:List (κ×V)}{vs:List (κ×Value)}(r:KV kvs vs)(k:κ){y:V}{u:Value}(ry:RelV y u):
 KV (kvs.map λkv=>if kv.1=k then(kv.1,y)else kv) (vs.map λkv=>if kv.1=k then(kv.1,u)else kv):=by
 unfold KV at r ⊢
 induction r with
 |nil=>exact .nil
 |@cons p q ps qs h t ih=>
  rw[map_cons,map_cons];refine .cons ?_ ih;obtain⟨h1,h2⟩:=h;by_cases e:p.1=k
  .rw[if_pos e,if_pos (h1.symm.trans e)];exact⟨h1,ry⟩
  .rw[if_neg e,if_neg (λz=>e (h1.trans z))];exact⟨h1,h2⟩
def KV.put{kvs:List (κ×V)}{vs:List (κ×Value)}(r:KV kvs vs)(k:κ){y:V}{u:Value}(ry:RelV y u):KV (CA kvs k y) (stored vs k u):=by
 unfold CA stored;rw[r.any k];by_cases e:(vs.any λkv=>decide (kv.1=k))=true
 .rw[if_pos e,if_pos e];exact r.repl k ry
 .rw[if_neg e,if_neg e];exact Paired.snoc r ⟨rfl,ry⟩
def KV.length{kvs:List (κ×V)}{vs:List (κ×Value)}(r:KV kvs vs):kvs.length=vs.length:=Paired.length r
end
def Kx{P:Program}{w:World}{k:Key}{u:Value}(r:RelV (kV k) u):(BD P w).is k u=true:=by
 cases k with
 |inl i=>obtain⟨t,e⟩:=(show ∃t,u=Value.int i t from r);subst e;exact Mw P w i t
 |inr x=>obtain⟨t,e⟩:=(show ∃t,u=Value.str x t from r);subst e;exact Mv P w x t
def K8{P:Program}{w:World}:∀{ks:List Key} {us:List Value},Vals (ks.map kV) us->ItemsAre (BD P w) ks us
 |[],_,r=>by rw[map_nil]at r;cases r;exact .nil
 |k::ks,_,r=>by
  rw[map_cons]at r;cases r with
  |cons h t=>exact .cons (Kx h) (K8 t)
abbrev KT(H:Hp):List (List Key×V)->List (List Key×Addr×Value)->Prop:=Paired λp q=>p.1=q.1/\H q.2.1=some (.tup (p.1.map kV))/\RelV p.2 q.2.2
def KT.val{H:Hp}{kvs:List (List Key×V)}{xs:List (List Key×Addr×Value)}(r:KT H kvs xs)(k:List Key):RelO (Di kvs k) ((atKey xs k).map (·.2)):=by
 induction r with
 |nil=>exact True.intro
 |@cons p q ps qs h t ih=>
  obtain⟨h1,_,h2⟩:=h;by_cases e:p.1=k
  .have e':q.1=k:=h1.symm.trans e;have b:atKey (q::qs) k=some q.2:=by simp[atKey,find?_cons,e']
   rw[Eh e,b];exact h2
  .have e':¬ q.1=k:=λz=>e (h1.trans z);have b:atKey (q::qs) k=atKey qs k:=by simp[atKey,find?_cons,e']
   rw[Ei e,b];exact ih
def KT.repl{H:Hp}{kvs:List (List Key×V)}{xs:List (List Key×Addr×Value)}(r:KT H kvs xs)(k:List Key){y:V}{u:Value}(ry:RelV y u):
 KT H (kvs.map λkv=>if kv.1=k then(kv.1,y)else kv) (xs.map (putAt k u)):=by
 induction r with
 |nil=>exact .nil
 |@cons p q ps qs h t ih=>
  rw[map_cons,map_cons];refine .cons ?_ ih;obtain⟨h1,h2,h3⟩:=h;unfold putAt;by_cases e:p.1=k
  .rw[if_pos e,if_pos (h1.symm.trans e)];exact⟨h1,h2,ry⟩
  .rw[if_neg e,if_neg (λz=>e (h1.trans z))];exact⟨h1,h2,h3⟩
def KT.put{H:Hp}{kvs:List (List Key×V)}{xs:List (List Key×Addr×Value)}(r:KT H kvs xs)(k:List Key){b:Addr}{y:V}{u:Value}(hb:H b=some (.tup (k.map kV)))(ry:RelV y u):
 KT H (CA kvs k y) (storedH xs k b u):=by
 have e:(kvs.any λkv=>decide (kv.1=k))=(atKey xs k).isSome:=by
  rw[LJ,(r.val k).isSome_eq,Option.isSome_map]
 unfold CA storedH;rw[e];by_cases q:(atKey xs k).isSome=true
 .rw[if_pos q,if_pos q];exact r.repl k ry
 .rw[if_neg q,if_neg q];exact Paired.snoc r ⟨rfl,hb,ry⟩
def KT.keeps{H H':Hp}{kvs:List (List Key×V)}{xs:List (List Key×Addr×Value)}(r:KT H kvs xs)(ht:∀b ys,H b=some (.tup ys)->H' b=some (.tup ys)):KT H' kvs xs:=
 Paired.mapP r λ_ _ z=>⟨z.1,ht _ _ z.2.1,z.2.2⟩
section
variable{P:Program}{w:World}{H:Hp}{h:Heap}{a:Addr}
def Tm{u:HO}(ok:HOk P w H h)(e:Rd H a u):ObjOk P w H h a u:=e.ok ok
def P4{kvs:List (Key×V)}(ok:HOk P w H h)(e:Rd H a (.dK kvs)):kvs.length<=sizeLine/\(a==sysModules)=false/\∃vs,KV kvs vs/\h.DictOf (BD P w) a vs:=
 show ObjOk P w H h a (.dK kvs)from Tm ok e
def UA{kvs:List (Key×V)}(ok:HOk P w H h)(e:H a=some (.dK kvs)):kvs.length<=sizeLine/\(a==sysModules)=false/\∃vs,KV kvs vs/\h.DictOf (BD P w) a vs:=P4 ok (.inl e)
def M9{ks:List Key}(ok:HOk P w H h)(e:H a=some (.tup (ks.map kV))):(tupleKind (BD P w)).is h ks a:=by
 obtain⟨_,its,r,o,h1,h2,⟨n,h3⟩,_⟩:=(show ObjOk P w H h a (.tup (ks.map kV))from ok a _ e)
 exact⟨o,its.toArray,n,h1,h2,h3,by simpa using K8 r⟩
def P3{kvs:List (List Key×V)}(ok:HOk P w H h)(e:Rd H a (.dT kvs)):kvs.length<=sizeLine/\(a==sysModules)=false /\
 ∃xs,KT H kvs xs/\h.DictOfH (tupleKind (BD P w)) a xs:=by
 obtain⟨z,y,xs,r,o,es,ep,h1,h2,h3,h4,h5⟩:=(show ObjOk P w H h a (.dT kvs)from Tm ok e)
 refine⟨z,y,xs,r,o,es,ep,h1,h2,h3,h4,λx hx=>?_,h5⟩;have all:∀{l:List (List Key×V)} {m:List (List Key×Addr×Value)},KT H l m->∀x∈m,(tupleKind (BD P w)).is h x.1 x.2.1:=by
  intro l m q
  induction q with
  |nil=>intro x hx;exact nomatch hx
  |@cons p q ps qs hq t ih=>
   intro x hx;rcases mem_cons.mp hx with e|hx
   .subst e;exact M9 ok (by rw[<- hq.1];exact hq.2.1)
   .exact ih x hx
 exact all r x hx
def aL{kvs:List (List Key×V)}(ok:HOk P w H h)(e:H a=some (.dT kvs)):kvs.length<=sizeLine/\(a==sysModules)=false /\
 ∃xs,KT H kvs xs/\h.DictOfH (tupleKind (BD P w)) a xs:=P3 ok (.inl e)
end
def DGet(H:Hp)(a:Addr)(y:V)(r:Option V):Prop:=
 (∃kvs k,Rd H a (.dK kvs)/\y=kV k/\r=Di kvs k)∨∃kvs k b,Rd H a (.dT kvs)/\y=.ref b/\H b=some (.tup (k.map kV))/\r=Di kvs k
def DPut(H:Hp)(a:Addr)(y v:V)(H':Hp):Prop:=
 (∃kvs k,H a=some (.dK kvs)/\y=kV k/\kvs.length<sizeLine/\H'=upd H a (.dK (CA kvs k v))) ∨
 ∃kvs k b,H a=some (.dT kvs)/\y=.ref b/\H b=some (.tup (k.map kV))/\kvs.length<sizeLine/\H'=upd H a (.dT (CA kvs k v))
def DGet.k{H:Hp}{a:Addr}{kvs:List (Key×V)}{k:Key}(e:H a=some (.dK kvs)):DGet H a (kV k) (Di kvs k):=.inl ⟨kvs,k,.inl e,rfl,rfl⟩
def DPut.k{H:Hp}{a:Addr}{kvs:List (Key×V)}{k:Key}{v:V}(e:H a=some (.dK kvs))(hl:kvs.length<sizeLine):DPut H a (kV k) v (upd H a (.dK (CA kvs k v))):=.inl ⟨kvs,k,e,rfl,hl,rfl⟩
section
variable{X:Cx}{pins:List (Addr×Obj)}{σ:St}{H:Hp}{s:Shared}{a:Addr}{y v:V}{u r:Value}{o:Option V}{A:Around}{E:Value->Shared->Prop}
def Inv.big(I:Inv X pins σ H s):sysModules<s.heap.objs.size:=by
 have h:mainGlobals<s.heap.objs.size:=(I.mod.glob.keeps I.bk).lt;exact lt_trans (by decide) h
def Qu{Q:Value->Shared->Prop}(hu:A.units+1<cLine)(I:Inv X pins σ H s)(g:DGet H a y (some v))(ry:RelV y u)(h:∀w' s',Inv X pins σ H s'->RelV v w'->Q w' s'):
 wpAny (model X.prog X.w) A (getItem (.ref a) u) Q E s:=by
 rcases g with⟨kvs,k,e,ey,l⟩|⟨kvs,k,b,e,ey,eb,l⟩
 .subst ey;obtain⟨z,hd,vs,rel,dd⟩:=P4 I.hok e;obtain⟨w',hw,rw'⟩:=RelO.some_of (v:=v) (o:=valueAt vs k) (by rw[l];exact rel.val k);exact wpAny_getItem_of (Kx ry) dd.mapOf hw (h w' _ (I.tok _) rw')
 .subst ey;cases(show u=Value.ref b from ry);obtain⟨z,hd,xs,rel,dd⟩:=P3 I.hok e;obtain⟨w',hw,rw'⟩:=RelO.some_of (v:=v) (o:=(atKey xs k).map (·.2)) (by rw[l];exact rel.val k);obtain⟨p,hp,hp2⟩:=cv hw;refine wpAny_getItem_heap (tupleKind_room_in1 hu) (M9 I.hok eb) dd hp ?_;rw[hp2];exact h w' _ (I.tok _) rw'
def Jl{h':Heap}{t':Nat}{ob:HO}(I:Inv X pins σ H s)(mu:Mut (H a))(hs:Heap.SameBut a s.heap h')(he:∃q,h'.get? a=some q)(new:ObjOk X.prog X.w (upd H a ob) h' a ob):
 Inv X pins σ (upd H a ob) { s with heap:=h',toks:=t' }:=
 I.write (x:=a) (e:=a) mu (.inl rfl) (λb q hb z=>(hs.2 b hb).trans z) he new
def Qr{P:Program}{w:World}{H':Hp}{h':Heap}{kvs:List (Key×V)}{vs:List (Key×Value)}(z:kvs.length<=sizeLine)(hd:(a==sysModules)=false)(rel:KV kvs vs)(dd:h'.DictOf (BD P w) a vs):
 ObjOk P w H' h' a (.dK kvs):=⟨z,hd,vs,rel,dd⟩
def Qt{H':Hp}{Q:Unit->Shared->Prop}(hu:A.units+1<cLine)(I:Inv X pins σ H s)(g:DPut H a y v H')(ry:RelV y u)(rv:RelV v r)(h:∀s',Inv X pins σ H' s'->Q () s'):
 wpAny (model X.prog X.w) A (setItem (.ref a) u r) Q E s:=by
 rcases g with⟨kvs,k,e,ey,l,eH⟩|⟨kvs,k,b,e,ey,eb,l,eH⟩
 .subst ey eH;obtain⟨z,hd,vs,rel,dd⟩:=UA I.hok e;have hz:vs.length<=sizeLine:=by rw[<- rel.length];exact z
  have hl:(CA kvs k v).length<=sizeLine:=by have:=FI kvs k v;omega
  refine wpAny_setItem_pairs (hsz:=hz) (Kx ry) dd λh' dd' hs=>h _ ?_;have he:∃q,h'.get? a=some q:=let ⟨q,_,_,hq,_⟩:=dd';⟨q,hq⟩
  exact Jl I (by rw[e];exact True.intro) hs he (Qr hl hd (rel.put k rv) dd')
 .subst ey eH;cases(show u=Value.ref b from ry);obtain⟨z,hd,xs,rel,dd⟩:=aL I.hok e;have hz:xs.length<=sizeLine:=by rw[<- Paired.length rel];exact z
  have hl:(CA kvs k v).length<=sizeLine:=by have:=FI kvs k v;omega
  refine wpAny_setItem_heap (hsz:=hz) (tupleKind_room_in1 hu) (M9 I.hok eb) dd λh' dd' hs=>h _ ?_;obtain⟨q,es,ep,hq,h2,h3,h4,_,h5⟩:=dd';refine Jl I (by rw[e];exact True.intro) hs ⟨q,hq⟩ ⟨hl,hd,_,(rel.put k eb rv).keeps λc ys ec=>?_,q,es,ep,hq,h2,h3,h4,h5⟩;rw[AE (Zw ec e (λz=>nomatch z))];exact ec
end
def Tc(i:Expr):Prop:=∀ov iv,subscripted i false ov iv=operate [ov,iv] (getItem ov iv)
def UN{prog:Program}{w:World}{A:Around}{E:Value->Shared->Prop}{s:Shared}{env:Env}{value slice:Expr}{pos:Pos}{T id:String}{Q:Value->Shared->Prop}
 (hl:typeLookup (.type T) "__getitem__"=pure (some (.builtin id))) (hs:Tc slice)
 (h:wpAny (model prog w) A (eval value env) (λo s₁=>wpAny (model prog w) A (eval slice env) (λi s₂=>s₂.TypeIs o T/\wpAny (model prog w) A (getItem o i) Q E s₂) E s₁) E s):
 wpAny (model prog w) A (eval (.Subscript value slice pos) env) Q E s:=by
 refine Subscript_ (wpAny_mono h (λo s₁ h₁=>wpAny_mono h₁ (λi s₂ h₂=>?_) λ_ _ x=>x) λ_ _ x=>x);obtain⟨hT,h₂⟩:=h₂;unfold subscriptTail;refine wpAny_bind ?_;rw[getitemInPython_of_ne hT.not_modules];refine wpAny_bind (wpAny_specialOf hT hl ?_);have fin:wpAny (model prog w) A (subscripted slice false o i) (λr s₃=>wpAny (model prog w) A (letTemporaryGo value o r >>= λ_=>pure r) Q E s₃) E s₂:=by
  rw[hs o i];exact wpAny_operating (wpAny_mono h₂ (λr s₃ h₃=>wpAny_bind (wpAny_letTemporaryGo (wpAny_pure h₃))) λ_ _ x=>x)
 first
  |exact wpAny_pure (wpAny_bind fin)
  |exact wpAny_bind (wpAny_pure (wpAny_bind fin))
  |exact wpAny_bind fin
def Mz{X:Cx}{pins:List (Addr×Obj)}{σ:St}{H:Hp}{s:Shared}{a:Addr}{y:V}{o:Option V}(I:Inv X pins σ H s)(g:DGet H a y o):s.TypeIs (.ref a) "dict":=by
 rcases g with⟨kvs,k,e,_,_⟩|⟨kvs,k,b,e,_,_,_⟩
 .obtain⟨_,_,vs,_,dd⟩:=P4 I.hok e;exact dd.typeIs
 .obtain⟨_,_,xs,_,dd⟩:=P3 I.hok e;exact dd.typeIs
def O6(td ty:TE):TE:=λσ H Q=>td σ H λx H1=>ty σ H1 λy H2=>∃a v,x=.ref a/\DGet H2 a y (some v)/\Q v H2
def OJ(td ty tv:TE):TS:=λD σ H=>tv σ H λv H1=>td σ H1 λx H2=>ty σ H2 λy H3=>∃a H4,x=.ref a/\DPut H3 a y v H4/\D.nx σ H4
section
variable{X:Cx}{o i e value:Expr}{pos pos' tpos:Pos}{td ty tv:TE}
def Ve(hu:X.A.units+1<cLine)(ho:PE X o td)(hi:PE X i ty)(hs:Tc i):PE X (.Subscript o i pos) (O6 td ty):=by
 intro pins s σ H Q I h;refine UN PySem.F.slot_dict_getitem.lookup hs (thn (ho pins s σ H _ I h) λu s1 ⟨x,H1,I1,rx,q1⟩=>thn (hi pins s1 σ H1 _ I1 q1) λiv s2 ⟨y,H2,I2,ry,a,v,ex,g,q2⟩=>?_);subst ex;obtain rfl:u=Value.ref a:=rx;exact⟨Mz I2 g,Qu hu I2 g ry λw' s3 I3 rw'=>⟨v,H2,I3,rw',q2⟩⟩
def VQ(hu:X.A.units+1<cLine)(ho:PE X o td)(hi:PE X i ty)(hv:PE X value tv)(hs:swapsWith value (some (.Subscript o i pos')) pos.line X.env=pure false):
 PS X (.Assign [.Subscript o i pos'] value pos) (OJ td ty tv):=by
 intro pins s σ H D I h;refine wpAny_Assign_Subscript (thn (hv pins s σ H _ I h) λr s1 ⟨v,H1,I1,rv,q1⟩=>thn (ho pins s1 σ H1 _ I1 q1) λu s2 ⟨x,H2,I2,rx,q2⟩=>thn (hi pins s2 σ H2 _ I2 q2) λiv s3 ⟨y,H3,I3,ry,a,H4,ex,g,q3⟩=>?_) hs;subst ex;obtain rfl:u=Value.ref a:=rx;exact Qt hu I3 g ry rv λs4 I4=>⟨σ,H4,I4,q3⟩
end
def TM{P:Program}{w:World}{H:Hp}(h:Heap)(hb:sysModules<h.objs.size):ObjOk P w H (h.push { cls:=.type "dict",data:=.dict #[] }) h.objs.size (.dK []):=
 ⟨zero_le _,beq_eq_false_iff_ne.mpr (Ne.symm (ne_of_lt hb)),[],.nil,Heap.DictOf.new h⟩
def GQ:List (TE×TE)->St->Hp->(List (V×V)->Hp->Prop)->Prop
 |[],_,H,Q=>Q [] H
 |(tk,tv)::r,σ,H,Q=>tk σ H λx H1=>tv σ H1 λy H2=>GQ r σ H2 λps H3=>Q ((x,y)::ps) H3
abbrev VV:List (V×V)->List (Value×Value)->Prop:=Paired λp q=>RelV p.1 q.1/\RelV p.2 q.2
def PPs(X:Cx)(pos:Pos)(keys:List (Option Expr))(values:List Expr)(trs:List (TE×TE)):Prop:=
 ∀(pins:List (Addr×Obj)) (s:Shared) (σ:St) (H:Hp) (Q:List (V×V)->Hp->Prop),Inv X pins σ H s->GQ trs σ H Q ->
   wpAny (model X.prog X.w) X.A (evalPairs (pairTrees keys values X.env pos)) (λvs s'=>∃ps H',Inv X pins σ H' s'/\VV ps vs/\Q ps H') X.xe s
def VR{X:Cx}{pos:Pos}:PPs X pos [] [] []:=λpins s σ H Q I h=>pairTrees_nil_walk ⟨[],H,I,.nil,h⟩
def Sk{X:Cx}{pos:Pos}{k v:Expr}{ks:List (Option Expr)}{vs:List Expr}{tk tv:TE}{trs:List (TE×TE)}(hk:PE X k tk)(hv:PE X v tv)(hr:PPs X pos ks vs trs):
 PPs X pos (some k::ks) (v::vs) ((tk,tv)::trs):=λpins s σ H Q I h=>
 pairTrees_cons_walk (thn (hk pins s σ H _ I h) λu s1 ⟨x,H1,I1,rx,q1⟩=>thn (hv pins s1 σ H1 _ I1 q1) λw2 s2 ⟨y,H2,I2,ry,q2⟩=>
  thn (hr pins s2 σ H2 _ I2 q2) λws s3 ⟨ps,H3,I3,rel,q3⟩=>⟨(x,y)::ps,H3,I3,.cons ⟨rx,ry⟩ rel,q3⟩)
def E8(kvs more:List (Key×V)):List (Key×V):=more.foldl (λacc kv=>CA acc kv.1 kv.2) kvs
def KV.merge:∀{more:List (Key×V)} {rs:List (Key×Value)} {kvs:List (Key×V)} {vs:List (Key×Value)},KV more rs->KV kvs vs->KV (E8 kvs more) (merged vs rs):=by
 intro more rs kvs vs r;unfold KV at r
 induction r generalizing kvs vs with
 |nil=>intro q;exact q
 |@cons p q ps qs h t ih=>
  intro r0;have e:KV (CA kvs p.1 p.2) (stored vs q.1 q.2):=by
   have:=r0.put p.1 h.2;rw[<- h.1];exact this
  exact ih e
def GM:∀(more kvs:List (Key×V)),(E8 kvs more).length<=kvs.length+more.length
 |[],kvs=>by show kvs.length<=kvs.length+0;omega
 |p::r,kvs=>by
  have h1:=GM r (CA kvs p.1 p.2);have h2:=FI kvs p.1 p.2;show(E8 (CA kvs p.1 p.2) r).length<=_;rw[length_cons];omega
def JB{P:Program}{w:World}:∀{kvs:List (Key×V)} {ws:List (Value×Value)},VV (kvs.map λkv=>(kV kv.1,kv.2)) ws->∃rs,Carries (BD P w) ws rs/\KV kvs rs
 |[],_,r=>by rw[map_nil]at r;cases r;exact⟨[],True.intro,.nil⟩
 |p::kvs,_,r=>by
  rw[map_cons]at r;cases r with
  |@cons a b as bs h t=>
   obtain⟨rs,c,q⟩:=JB (P:=P) (w:=w) t;obtain⟨b1,b2⟩:=b;exact⟨(p.1,b2)::rs,⟨Kx h.1,rfl,c⟩,.cons ⟨rfl,h.2⟩ q⟩
def O5(trs:List (TE×TE)):TE:=λσ H Q=>∀p,H p=none->GQ trs σ (upd H p (.dK [])) λps H2=>H2 p=some (.dK [])/\∃kvs:List (Key×V),ps=kvs.map (λkv=>(kV kv.1,kv.2))/\kvs.length<=15/\Q (.ref p) (upd H2 p (.dK (E8 [] kvs)))
def Vd{X:Cx}{pos:Pos}{keys:List (Option Expr)}{values:List Expr}{trs:List (TE×TE)}(h:PPs X pos keys values trs)(hall:keys.all (·.isSome)=true)(hl:keys.length=values.length)(h0:keys≠[])
 (h15:keys.length<=15):PE X (.Dict keys values pos) (O5 trs):=by
 intro pins s σ H Q I q;have hn:=I.hok.fresh (le_refl s.heap.objs.size);have I1:=I.laid (a:=s.heap.objs.size) (o:=.dK []) (h':=s.heap.push { cls:=.type "dict",data:=.dict #[] }) (t':=s.toks) (λ_ _ q=>Heap.get?_push_of_some _ q) (le_refl _) (TM s.heap I.big);refine wpAny_Dict_walk (knd:=BD X.prog X.w) hall hl h0 h15 (thn (h pins _ σ _ _ I1 (q _ hn)) λws s2 ⟨ps,H2,I2,rel,e,kvs,ep,lk,q2⟩=>?_);subst ep;obtain⟨rs,c,rk⟩:=JB (P:=X.prog) (w:=X.w) rel;obtain⟨z,hd,vs0,r0,dd⟩:=UA I2.hok e;cases r0;refine⟨rs,c,dd,λh' dd' hs=>⟨.ref s.heap.objs.size,_,?_,rfl,q2⟩⟩;have hz:(E8 [] kvs).length<=sizeLine:=by
  have h1:=GM kvs [];rw[length_nil]at h1;rw[sizeLine_eq];omega
 have he:∃q,h'.get? s.heap.objs.size=some q:=let ⟨q,_,_,hq,_⟩:=dd';⟨q,hq⟩
 exact Jl I2 (by rw[e];exact True.intro) hs he (Qr hz hd (rk.merge .nil) dd')
def Ai(cells:List (Str×Addr)):List (Str×NameKind)->List (Str×Addr)->List (Str×Addr)
 |[],acc=>acc
 |(n,k)::r,acc=>if k==.free then Ai cells r ((n,(cells.lookup n).getD 0)::acc)else Ai cells r acc
def Fh{env:Env}(f:Str×NameKind->List (Str×Addr)->Sem (ForInStep (List (Str×Addr))))
 (hf:∀name kind cs,f (name,kind) cs=if(kind==NameKind.free)=true then(do let a <- cellOf env name;pure (ForInStep.yield ((name,a)::cs)))else pure (ForInStep.yield cs)):
 ∀(names:List (Str×NameKind)) (acc:List (Str×Addr)),(∀y∈names,y.2=.free->∃c,env.cells.lookup y.1=some c)->forIn names acc f=pure (Ai env.cells names acc)
 |[],acc,_=>rfl
 |(n,k)::r,acc,hy=>by
   rw[List.forIn_cons,hf];have ih:=λa=>Fh f hf r a λz hz=>hy z (mem_cons_of_mem _ hz);by_cases hk:(k==NameKind.free)=true
   .obtain⟨c,hc⟩:=hy (n,k) mem_cons_self (by simpa using hk);have hc:env.cells.lookup n=some c:=hc;have e1:cellOf env n=pure c:=by unfold cellOf;rw[hc]
    rw[if_pos hk,e1];show forIn r ((n,c)::acc) f=_;have e2:Ai env.cells ((n,k)::r) acc=Ai env.cells r ((n,c)::acc):=by
     rw[Ai,if_pos hk,hc];rfl
    rw[ih,e2]
   .rw[if_neg hk];show forIn r acc f=_;have e2:Ai env.cells ((n,k)::r) acc=Ai env.cells r acc:=by
     rw[Ai,if_neg hk]
    rw[ih,e2]
def EN{scope:Scope}{env:Env}(h:∀y∈scope.names,y.2=.free->∃c,env.cells.lookup y.1=some c):closureFor scope env=pure (Ai env.cells scope.names []):=by
 unfold closureFor;dsimp only;rw[Fh _ (λname kind cs=>rfl) scope.names [] h];rfl
def DY{cells:List (Str×Addr)}:∀{names:List (Str×NameKind)} {acc:List (Str×Addr)},(∀y∈names,y.2=.free->∃c,cells.lookup y.1=some c)->(∀x c,acc.lookup x=some c->cells.lookup x=some c) ->
 ∀x c,(Ai cells names acc).lookup x=some c->cells.lookup x=some c
 |[],_,_,ha,x,c,e=>ha x c e
 |(n,k)::r,acc,hy,ha,x,c,e=>by
   unfold Ai at e;have hr:∀y∈r,y.2=.free->∃c,cells.lookup y.1=some c:=λz hz=>hy z (mem_cons_of_mem _ hz);by_cases hk:(k==NameKind.free)=true
   .rw[if_pos hk]at e;refine DY hr (λz d q=>?_) x c e;obtain⟨c0,hc0⟩:=hy (n,k) mem_cons_self (by simpa using hk);have hc0:cells.lookup n=some c0:=hc0;rw[lookup_cons]at q;by_cases hz:(z==n)=true
    .rw[hz,hc0]at q;have:z=n:=by simpa using hz
     subst this;simpa [hc0]using q
    .have hz':(z==n)=false:=by simpa using hz
     rw[hz']at q;exact ha z d q
   .rw[if_neg hk]at e;exact DY hr ha x c e
def D1{cells:List (Str×Addr)}:∀{names:List (Str×NameKind)} {acc:List (Str×Addr)} {x:Str},((acc.lookup x).isSome=true∨(x,NameKind.free)∈names)->((Ai cells names acc).lookup x).isSome=true
 |[],_,_,h=>h.elim id λz=>by cases z
 |(n,k)::r,acc,x,h=>by
   unfold Ai;by_cases hk:(k==NameKind.free)=true
   .rw[if_pos hk];refine D1 ?_;by_cases hx:(x==n)=true
    .exact .inl (by rw[lookup_cons,hx];rfl)
    .have hx':(x==n)=false:=by simpa using hx
     rcases h with h|h
     .exact .inl (by rw[lookup_cons,hx'];exact h)
     .rcases mem_cons.mp h with h|h
      .cases h;simp at hx
      .exact .inr h
   .rw[if_neg hk];refine D1 ?_;rcases h with h|h
    .exact .inl h
    .rcases mem_cons.mp h with h|h
     .cases h;simp at hk
     .exact .inr h
def CW:Nat->List (Str×NameKind)->List (Str×Addr)
 |_,[]=>[]
 |n,(x,k)::r=>if k==.cell then CW (n+1) r++[(x,n)]else CW n r
def Bt:∀(names:List (Str×NameKind)) (n:Nat) (acc:List (Str×Addr)),cellsFrom n names acc=CW n names++acc
 |[],_,_=>rfl
 |(x,k)::r,n,acc=>by
   unfold cellsFrom CW;by_cases hk:(k==NameKind.cell)=true
   .rw[if_pos hk,if_pos hk,Bt r (n+1),append_assoc];rfl
   .rw[if_neg hk,if_neg hk,Bt r n]
def Hx:∀(names:List (Str×NameKind)) (n:Nat) (x:Str) (c:Addr),(CW n names).lookup x=some c->(x,NameKind.cell)∈names
 |[],_,_,_,e=>by cases e
 |(y,k)::r,n,x,c,e=>by
   unfold CW at e;by_cases hk:(k==NameKind.cell)=true
   .rw[if_pos hk]at e;have hk':k=.cell:=by simpa using hk
    rw[lookup_append]at e;cases q:(CW (n+1) r).lookup x with
    |some d=>exact mem_cons_of_mem _ (Hx r _ x d q)
    |none=>
     rw[q]at e;simp only[none_or,lookup_cons]at e;by_cases hx:(x==y)=true
     .have:x=y:=by simpa using hx
      subst this;subst hk';exact mem_cons_self
     .have hx':(x==y)=false:=by simpa using hx
      rw[hx']at e;cases e
   .rw[if_neg hk]at e;exact mem_cons_of_mem _ (Hx r n x c e)
def Hy:∀(names:List (Str×NameKind)) (n:Nat) (x:Str),(x,NameKind.cell)∈names->∃c,(CW n names).lookup x=some c
 |[],_,_,h=>by cases h
 |(y,k)::r,n,x,h=>by
   unfold CW;by_cases hk:(k==NameKind.cell)=true
   .rw[if_pos hk,lookup_append];rcases mem_cons.mp h with h|h
    .obtain⟨rfl,rfl⟩:=Prod.mk.inj h;cases q:(CW (n+1) r).lookup x with
     |some d=>exact⟨d,rfl⟩
     |none=>exact⟨n,by simp[lookup_cons]⟩
    .obtain⟨c,hc⟩:=Hy r (n+1) x h;exact⟨c,by rw[hc];rfl⟩
   .rw[if_neg hk];rcases mem_cons.mp h with h|h
    .cases h;simp at hk
    .exact Hy r n x h
def TW(scope:Scope)(C:Addr)(env:Env):Env:=
 { scope:=relabel scope env,locals:=C,globals:=env.globals,cells:=cellsFrom (C+1) scope.names (Ai env.cells scope.names []),qual:=env.qual,func:=none,code:=env.code,frame:=env.frame,builtins:=env.builtins }
def NR{M:Model}{A:Around}{E:Value->Shared->Prop}{s:Shared}{scope:Scope}{cl:List (Str×Addr)}{env:Env}{Q:Env->Shared->Prop}
 (hQ:∀h',(∀b o,s.heap.get? b=some o->h'.get? b=some o)->h'.Ns s.heap.objs.size (λ_=>none)->(∀x c,(CW (s.heap.objs.size+1) scope.names).lookup x=some c->h'.IsCell c none/\s.heap.objs.size<c) ->
  ((CW (s.heap.objs.size+1) scope.names).Pairwise λx y=>x.2≠y.2) ->
  Q { scope:=scope,locals:=s.heap.objs.size,globals:=env.globals,cells:=cellsFrom (s.heap.objs.size+1) scope.names cl,qual:=env.qual,func:=none,code:=env.code,frame:=env.frame,builtins:=env.builtins } { s with heap:=h' }):
 wpAny M A (newFunctionEnv scope env.globals cl [] env.qual none .none (some env)) Q E s:=by
 simp only[newFunctionEnv,Option.isSome_some,if_true];refine wpAny_bind (wpAny_alloc ?_);refine wpAny_bind (wpAny_layCells _ (λname kind cells=>by cases hkc:kind==NameKind.cell<;>simp[hkc]) _ _ _ _ ?_);have ok:=cellsFrom_ok scope.names (s.heap.push { cls:=.type "dict",data:=.dict #[] }) (s.heap.objs.size+1) [] ⟨λ_ _ hm=>(nomatch hm),List.Pairwise.nil⟩ (by rw[Heap.size_push];exact le_refl _);rw[Heap.size_push,Bt,append_nil]at ok;rw[show({ s with heap:=s.heap.push { cls:=.type "dict",data:=.dict #[] } }:Shared).heap.objs.size=s.heap.objs.size+1 from Heap.size_push ..];refine wpAny_bind (wpAny_pure (wpAny_pure ?_));exact hQ _ (λb o e=>pushCells_keeps _ _ b o (Heap.get?_push_of_some _ e)) ((Heap.Ns.new s.heap (.type "dict")).keeps (pushCells_keeps _ _)) (λx c hc=>⟨(ok.empty x c (mem_of_lookup hc)).1,(ok.empty x c (mem_of_lookup hc)).2⟩) ok.apart
def K3:∀{names:List (Str×NameKind)} {x:Str} {k k':NameKind},(names.map (·.1)).Nodup->(x,k)∈names->(x,k')∈names->k=k'
 |[],_,_,_,_,h,_=>by cases h
 |(y,q)::r,x,k,k',nd,h,h'=>by
   have nd:(y::r.map (·.1)).Nodup:=nd;obtain⟨n1,n2⟩:=nodup_cons.mp nd;have out:∀{z:NameKind},(y,z)∈r->False:=λm=>n1 (mem_map.mpr ⟨_,m,rfl⟩);rcases mem_cons.mp h with e|e<;>rcases mem_cons.mp h' with e'|e'
   .cases e;cases e';rfl
   .cases e;exact(out e').elim
   .cases e';exact(out e).elim
   .exact K3 n2 e e'
def GL{env:Env}{x:Str}:∀{names:List (Str×NameKind)},names.lookup x=some .free ->
 (names.map λ(n,k)=>if(k==NameKind.free&&env.scope.kind==.function&&env.kindOf n==some .cell)then(n,NameKind.cell)else(n,k)).lookup x=some .cell ∨
 (names.map λ(n,k)=>if(k==NameKind.free&&env.scope.kind==.function&&env.kindOf n==some .cell)then(n,NameKind.cell)else(n,k)).lookup x=some .free
 |[],h=>by simp at h
 |(n,k)::r,h=>by
   have ih:=@GL env x r;show List.lookup x ((if(k==NameKind.free&&env.scope.kind==.function&&env.kindOf n==some .cell)=true then(n,NameKind.cell)else(n,k))::_)=_∨List.lookup x ((if(k==NameKind.free&&env.scope.kind==.function&&env.kindOf n==some .cell)=true then(n,NameKind.cell)else(n,k))::_)=_;cases hx:x==n with
   |true=>
    simp only[lookup_cons,hx]at h;cases h;by_cases hc:(NameKind.free==NameKind.free&&env.scope.kind==.function&&env.kindOf n==some .cell)=true
    .rw[if_pos hc];exact .inl (by simp only[lookup_cons,hx])
    .rw[if_neg hc];exact .inr (by simp only[lookup_cons,hx])
   |false=>
    simp only[lookup_cons,hx]at h;by_cases hc:(k==NameKind.free&&env.scope.kind==.function&&env.kindOf n==some .cell)=true
    .rw[if_pos hc];simp only[lookup_cons,hx];exact ih h
    .rw[if_neg hc];simp only[lookup_cons,hx];exact ih h
def GY{env:Env}{x:Str}:∀{names:List (Str×NameKind)},
 ((names.map λ(n,k)=>if(k==NameKind.free&&env.scope.kind==.function&&env.kindOf n==some .cell)then(n,NameKind.cell)else(n,k)).lookup x=some .cell ∨
 (names.map λ(n,k)=>if(k==NameKind.free&&env.scope.kind==.function&&env.kindOf n==some .cell)then(n,NameKind.cell)else(n,k)).lookup x=some .free) ->
 names.lookup x=some .cell∨names.lookup x=some .free
 |[],h=>by simp at h
 |(n,k)::r,h=>by
   have ih:=@GY env x r;have h:List.lookup x ((if(k==NameKind.free&&env.scope.kind==.function&&env.kindOf n==some .cell)=true then(n,NameKind.cell)else(n,k))::_)=_∨List.lookup x ((if(k==NameKind.free&&env.scope.kind==.function&&env.kindOf n==some .cell)=true then(n,NameKind.cell)else(n,k))::_)=_:=h;cases hx:x==n with
   |true=>
    by_cases hc:(k==NameKind.free&&env.scope.kind==.function&&env.kindOf n==some .cell)=true
    .have hk:k=.free:=by
      have:=(Bool.and_eq_true _ _ ▸ (Bool.and_eq_true _ _ ▸ hc).1:(k==NameKind.free)=true/\_).1;simpa using this
     exact .inr (by simp only[lookup_cons,hx,hk])
    .rw[if_neg hc]at h;simp only[lookup_cons,hx]at h ⊢;exact h
   |false=>
    simp only[lookup_cons,hx];refine ih ?_;by_cases hc:(k==NameKind.free&&env.scope.kind==.function&&env.kindOf n==some .cell)=true
    .rw[if_pos hc]at h;simp only[lookup_cons,hx]at h;exact h
    .rw[if_neg hc]at h;simp only[lookup_cons,hx]at h;exact h
def cCx(X:Cx)(N':List Str)(scope:Scope)(s:Shared)(H:Hp)(ex:List Addr):Cx:=
 { X with N:=N',s₀:=s,H₀:=H,env:=TW scope s.heap.objs.size X.env,outer:=X.stack,ex:=ex,fn:=λx=>decide ((x,NameKind.cell)∈scope.names),pn:=[],xe:=λ_ _=>False }
structure CSc(X:Cx)(scope:Scope)(fr:List Str)(ix:List Nat):Prop where
 kind:scope.kind=.function
 nd:(scope.names.map (·.1)).Nodup
 free:(scope.names.all λy=>y.2 != .free||X.env.kindOf y.1==some .cell||X.env.kindOf y.1==some .free)=true
 frs:(fr.all λx=>scope.names.lookup x==some .free)=true
 ixs:fr.map some=ix.map λi=>X.N[i]?
 loc:(scope.names.all λy=>y.2 != .local||scope.names.lookup y.1==some .local)=true
def HC(n:Nat)(ix:List Nat)(σ:St):St:=List.replicate n none++ix.map λi=>(σ[i]?).join
section
variable{X:Cx}{scope:Scope}{fr loc:List Str}{ix:List Nat}{pins:List (Addr×Obj)}{σ:St}{H:Hp}{s:Shared}
def CSc.outer(S:CSc X scope fr ix){y:Str×NameKind}(hy:y∈scope.names)(e:y.2=.free):X.env.kindOf y.1=some .cell∨X.env.kindOf y.1=some .free:=by
 have h:=all_eq_true.mp S.free y hy;rw[e]at h;simpa using h
def CSc.clos(S:CSc X scope fr ix)(ok:X.Ok):∀y∈scope.names,y.2=.free->∃c,X.env.cells.lookup y.1=some c:=λy hy e=>ok.has y.1 (S.outer hy e)
def D8(S:CSc X scope fr ix)(ok:X.Ok){n:Nat}{x:Str}{c:Addr}(e:(cellsFrom n scope.names (Ai X.env.cells scope.names [])).lookup x=some c):
 (CW n scope.names).lookup x=some c∨X.env.cells.lookup x=some c:=by
 rw[Bt,lookup_append]at e;cases q:(CW n scope.names).lookup x with
 |some d=>rw[q]at e;exact .inl e
 |none=>
  rw[q]at e;exact .inr (DY (S.clos ok) (λ_ _ z=>by simp at z) x c e)
def MF(S:CSc X scope fr ix)(I:Inv X pins σ H s){ex:List Addr}(hex:∀b∈ex,FpOk X pins H b){h':Heap}(hk:∀b o,s.heap.get? b=some o->h'.get? b=some o)(hn:h'.Ns s.heap.objs.size λ_=>none)
 (ho:∀x c,(CW (s.heap.objs.size+1) scope.names).lookup x=some c->h'.IsCell c none/\s.heap.objs.size<c) (ha:(CW (s.heap.objs.size+1) scope.names).Pairwise λx y=>x.2≠y.2) (hlt:∀b∈ex,b<s.heap.objs.size):
 Inv (cCx X (loc++fr) scope s H ex) [] (HC loc.length ix σ) H { s with heap:=h' }:=by
 have old:∀x c,X.env.cells.lookup x=some c->c<s.heap.objs.size:=λx c e=>let ⟨v,z⟩:=I.cell x c e;z.lt
 have lenix:fr.length=ix.length:=by simpa using congrArg List.length S.ixs
 refine⟨⟨I.ok.mod,?_,I.ok.glob,I.ok.blt,le_refl _,?_,?_,?_,I.ok.hd,I.ok.frames,.inl rfl,?_,I.bs,le_trans I.ok.bsz I.sz,?_,?_,I.stack,I.stkFree⟩,rfl,I.bare,Un.kept hk,⟨_,hn,?_⟩,?_,I.hok.fresh (le_refl _),?_,?_,I.hok.kept hk,?_⟩
 .exact S.kind
 .intro x y c e1 e2;rcases D8 S I.ok e1 with a|a<;>rcases D8 S I.ok e2 with b|b
  .exact name_of_addr ha (PySem.mem_of_lookup a) (PySem.mem_of_lookup b)
  .exact absurd (lt_trans (ho x c a).2 (old y c b)) (lt_irrefl _)
  .exact absurd (lt_trans (ho y c b).2 (old x c a)) (lt_irrefl _)
  .exact I.ok.inj x y c a b
 .intro x hx;rcases GY hx with e|e
  .exact isSome_iff_exists.mp (PySem.W.cellsFrom_some _ _ _ (.inl e))
  .exact isSome_iff_exists.mp (PySem.W.cellsFrom_some _ _ _ (.inr (D1 (.inr (PySem.mem_of_lookup e)))))
 .intro x c hf e;have hf:(x,NameKind.cell)∈scope.names:=of_decide_eq_true hf;obtain⟨d,hd⟩:=Hy scope.names (s.heap.objs.size+1) x hf;have e':(cellsFrom (s.heap.objs.size+1) scope.names (Ai X.env.cells scope.names [])).lookup x=some c:=e;rw[Bt,lookup_append,hd]at e';cases e';exact le_of_lt (ho x _ hd).2
 .intro b hb;refine⟨ne_of_lt (hlt b hb),λx c e z=>?_⟩;rcases D8 S I.ok e with a|a
  .exact absurd (lt_trans (ho x c a).2 (by rw[z];exact hlt b hb)) (lt_irrefl _)
  .exact(hex b hb).2.2.2.2.1 x c a z
 .intro b o e hb;rcases(hex b hb).2.2.2.1 with z|z
  .exact I.ok.noex b o e z
  .exact absurd (lt_of_lt_of_le (Heap.lt_size (I.ok.bs b o e).1) z) (lt_irrefl _)
 .intro b hb hf;rcases mem_cons.mp (I.stkSub b hf)with z|z
  .exact(hex b hb).2.1 z
  .exact(hex b hb).2.2.1 z
 .intro i x v e1 e2 e3;have e1:(loc++fr)[i]?=some x:=e1;unfold HC at e2;by_cases hi:i<loc.length
  .rw[List.getElem?_append_left (by simpa using hi),List.getElem?_replicate]at e2;split at e2<;>cases e2
  .have hi':loc.length<=i:=Nat.not_lt.mp hi;rw[List.getElem?_append_right (by simpa using hi')]at e2;rw[List.getElem?_append_right hi']at e1;rw[List.length_replicate,List.getElem?_map]at e2;generalize hj:i-loc.length=j at e1 e2;have e4:(fr.map some)[j]?=some (some x):=by rw[List.getElem?_map,e1];rfl
   rw[S.ixs,List.getElem?_map]at e4;cases q:ix[j]? with
   |none=>rw[q]at e2;cases e2
   |some k=>
    rw[q]at e2 e4;have e2:(σ[k]?).join=some v:=Option.some.inj e2;have e4:X.N[k]?=some x:=Option.some.inj e4;have e5:σ[k]?=some (some v):=by
     cases w:σ[k]? with
     |none=>rw[w]at e2;cases e2
     |some z=>rw[w]at e2;simpa using e2
    have hfx:=all_eq_true.mp S.frs x (mem_of_getElem? e1);have hfx:scope.names.lookup x=some .free:=by simpa using hfx
    have hmem:=PySem.mem_of_lookup hfx;have hout:=S.outer hmem rfl;obtain⟨m,hm,hl⟩:=I.loc;obtain⟨u,r,l⟩:=hl k x v e4 e5 (.inr hout);refine⟨u,r,.inr ⟨GL hfx,?_⟩⟩;rcases l with⟨kk,_⟩|⟨kk,c,ec,z⟩
    .rcases hout with w|w
     .rw[kk]at w;cases w
     .rw[kk]at w;cases w
    .have own0:(CW (s.heap.objs.size+1) scope.names).lookup x=none:=by
      cases w:(CW (s.heap.objs.size+1) scope.names).lookup x with
      |none=>rfl
      |some d=>exact absurd (K3 S.nd (Hx _ _ _ _ w) hmem) (by decide)
     have hc:(Ai X.env.cells scope.names []).lookup x=some c:=by
      obtain⟨d,hd⟩:=isSome_iff_exists.mp (D1 (cells:=X.env.cells) (acc:=[]) (.inr hmem));have:=DY (S.clos I.ok) (λ_ _ z=>by simp at z) x d hd;rw[ec]at this;cases this;exact hd
     refine⟨c,?_,z.keeps hk⟩;show(cellsFrom (s.heap.objs.size+1) scope.names (Ai X.env.cells scope.names [])).lookup x=some c;rw[Bt,lookup_append,own0,hc];rfl
 .intro x c e;rcases D8 S I.ok e with a|a
  .exact⟨_,(ho x c a).1⟩
  .obtain⟨v,z⟩:=I.cell x c a;exact⟨v,z.keeps hk⟩
 .intro x c e;rcases D8 S I.ok e with a|a
  .exact I.hok.fresh (le_of_lt (ho x c a).2)
  .exact I.freeC x c a
 .intro p hp;cases hp
 .unfold HC;show _=(loc++fr).length;simp[lenix]
end
section
variable{prog:Program}{w:World}{A:Around}{R:Result->Shared->Prop}{s:Shared}
def HA{elt target iter:Expr}{ifs:List Expr}{scope:Scope}{pos:Pos}{it acc:Value}{env:Env}(I:Nat->Shared->Prop)
 (turn:∀n s,I n s->wpAny (model prog w) A (pyNext it) (λr s₁=>match r with
  |none=>R (.ok .next) s₁
  | some v=>wpAny (model prog w) A (letOwnedTupleGo target it v) (λ_ s₁=>wpAny (model prog w) A (assign target env v) (λ_ s₂=>
   wpAny (model prog w) A (forIn ifs true λc r=>if r=true then do let ok <- isTrue c env (eval c env);pure (ForInStep.yield ok)else pure (ForInStep.yield r)) (λok s₃=>
    if ok=true then wpAny (model prog w) A (eval elt env) (λx s₄=>
     wpAny (model prog w) A (call (.builtin "list.append") [acc,x]) (λ_ s₅=>∃m,m<n/\I m s₅) (λ_ _=>False) s₄) (λ_ _=>False) s₃
    else ∃m,m<n/\I m s₃) (λ_ _=>False) s₂) (λ_ _=>False) s₁) (λ_ _=>False) s₁) (λ_ _=>False) s)
 (n:Nat) (h:I n s):
 codeAny (model prog w) A (.compLoop (.ListComp elt [⟨target,iter,ifs,0⟩] scope pos) 0 it acc env) R s:=by
 refine codeAny_loop rfl I (λn s hI=>?_) n h;show wpAny _ A ((compTurn (.ListComp elt [⟨target,iter,ifs,0⟩] scope pos) 0 it acc env).onRaise (λx=>do noteFrame x env;theTreesLotGoes x)) _ _ s;refine wpAny_noted ?_;rw[compTurn_list];refine wpAny_bind (wpAny_standAt (wpAny_bind (wpAny_mono (turn n s hI) (λr s₁ h₁=>?_) λ_ _ h'=>h'.elim)));cases r with
 |none=>exact wpAny_pure h₁
 |some v=>
  refine wpAny_bind (wpAny_mono h₁ (λ_ s₁ h₁=>?_) λ_ _ h'=>h'.elim);refine wpAny_bind (wpAny_mono h₁ (λ_ s₂ h₂=>wpAny_bind (wpAny_mono h₂ (λok s₃ h₃=>?_) λ_ _ h'=>h'.elim)) λ_ _ h'=>h'.elim);cases ok with
  |false=>exact wpAny_pure ⟨rfl,h₃⟩
  |true=>
   exact wpAny_bind (wpAny_bind (wpAny_mono h₃ (λx s₄ h₄=>wpAny_bind (wpAny_mono h₄ (λ_ s₅ h₅=>wpAny_pure (wpAny_pure ⟨rfl,h₅⟩)) λ_ _ h'=>h'.elim)) λ_ _ h'=>h'.elim))
end
def PF(X:Cx)(ifs:List Expr)(t:TT):Prop:=
 ∀(pins:List (Addr×Obj)) (s:Shared) (σ:St) (H:Hp) (Q:Bool->Hp->Prop),Inv X pins σ H s->t σ H Q ->
   wpAny (model X.prog X.w) X.A (forIn ifs true λc r=>if r=true then do let ok <- isTrue c X.env (eval c X.env);pure (ForInStep.yield ok)else pure (ForInStep.yield r)) (TP X pins σ Q) X.xe s
def Rg:TT:=λ_ H Q=>Q true H
def YJ{X:Cx}:PF X [] Rg:=λpins s σ H Q I h=>wpAny_tests_nil ⟨H,I,h⟩
def YI{X:Cx}{c:Expr}{t:TT}(h:PT X c t):PF X [c] t:=λpins s σ H Q I q=>wpAny_tests_one (h pins s σ H Q I q)
def UC(J:It)(D:Addr)(σ0:St)(H0:Hp)(g:TG)(tf:TT)(te:TE)(Q:VK):Prop:=∃W:Nat->Nat->St->List V->Hp->Prop,
 (∃m,W 0 m σ0 [] (upd H0 D (.lst [])))/\∀i m σ ys H,W i m σ ys H->H D=some (.lst ys)/\
  ((J.stop i H/\Q (.ref D) H)∨(J.go i H/\ys.length<sizeLine/\∃N:St->List V->Hp->Prop,(∀σ' ys' H',N σ' ys' H'->∃m',m'<m/\W (i+1) m' σ' ys' H')/\
    ∀x H',J.yld i H x H'->g x σ H' λσ2 H2=>tf σ2 H2 λb H3=>
     if b=true then te σ2 H3 λv H4=>H4 D=some (.lst ys)/\N σ2 (ys++[v]) (upd H4 D (.lst (ys++[v])))
     else N σ2 ys H3))
def Fk(n:Nat)(ix:List Nat)(wi:TI)(g:TG)(tf:TT)(te:TE):TE:=λσ H Q=>wi σ H λJ H1=>∀D,H1 D=none->UC J D (HC n ix σ) H1 g tf te Q
section
variable{X:Cx}
def R9{pins:List (Addr×Obj)}{σ:St}{H:Hp}{s:Shared}{D:Addr}{ys:List V}{x:V}{u:Value}{Q:Value->Shared->Prop}{E:Value->Shared->Prop}(I:Inv X pins σ H s)(hD:H D=some (.lst ys))(r:RelV x u)(hz:ys.length<sizeLine)
 (h:∀v s',Inv X pins σ (upd H D (.lst (ys++[x]))) s'->Q v s'):wpAny (model X.prog X.w) X.A (call (.builtin "list.append") [.ref D,u]) Q E s:=by
 have I':=I.wish λ_ _=>False;have q:=K4 (X:=X.wish λ_ _=>False) pins s σ H (.ref D) [x] (.ref D) [u] (λv H'=>H'=upd H D (.lst (ys++[x]))) I' rfl (.cons r .nil) ⟨D,ys,x,rfl,rfl,hD,hz,rfl⟩;refine wpAny_mono q (λv s' ⟨v',H',I2,_,e⟩=>?_) λ_ _ z=>False.elim z;subst e;exact h v s' I2.unwish
def Vf{elt tg iter:Expr}{ifs:List Expr}{scope:Scope}{pos:Pos}{loc fr:List Str}{ix:List Nat}{wi:TI}{g:TG}{tf:TT}{te:TE}(hc:X.calm=true)(S:CSc X scope fr ix)(hi:PI X tg iter wi)
 (hg:∀s H ex,PG (cCx X (loc++fr) scope s H ex) tg g) (hf:∀s H ex,PF (cCx X (loc++fr) scope s H ex) ifs tf) (he:∀s H ex,PE (cCx X (loc++fr) scope s H ex) elt te)
 (hs:∀x,foldedSetIterable iter X.env x=pure x:=by intro _;rfl):PE X (.ListComp elt [⟨tg,iter,ifs,0⟩] scope pos) (Fk loc.length ix wi g tf te):=by
 intro pins s σ H Q I h;rw[eval_ListComp];have hnames:∀y∈scope.names,y.2=.local->scope.names.lookup y.1=some .local:=λy hy e=>by
  have:=all_eq_true.mp S.loc y hy;rw[e]at this;simpa using this
 refine wpAny_comprehension_free (use:=none) rfl hs (EN (S.clos I.ok)) S.kind hnames (thn (hi pins s σ H _ I h) λv s1 h1=>thn h1 λitv s2 h2=>?_);obtain⟨it,fp,tn,J,H2,rfl,I2,T,st2,f2,hW⟩:=h2;refine wpAny_newObj_type ?_;have fresh2:H2 s2.heap.objs.size=none:=I2.hok.fresh (le_refl _);have I3:=I2.lnew (its:=[]) (ys:=[]) (t':=s2.toks) .nil (zero_le _);obtain⟨W,⟨m0,w0⟩,turn⟩:=hW s2.heap.objs.size fresh2;have lt2:∀b∈fp,b<s2.heap.objs.size:=λb hb=>let ⟨o,e,_⟩:=T.obj 0 _ st2 b hb;Heap.lt_size e
 have f3:∀b∈fp,FpOk X pins (upd H2 s2.heap.objs.size (.lst [])) b:=λb hb=>⟨by rw[AE (ne_of_lt (lt2 b hb))];exact(f2 b hb).1,(f2 b hb).2⟩
 have lt3:∀b∈fp,b<(s2.heap.push { cls:=.type "list",data:=.seq ([]:List Value).toArray }).objs.size:=λb hb=>by rw[Heap.size_push];exact lt_succ_of_lt (lt2 b hb)
 generalize hs3:({ s2 with heap:=s2.heap.push { cls:=.type "list",data:=.seq ([]:List Value).toArray } }:Shared)=s3 at *;have lt3:∀b∈fp,b<s3.heap.objs.size:=by rw[<- hs3];exact lt3
 have st3:tn 0 s3.heap:=T.keep _ _ _ st2 λb hb o e=>by rw[<- hs3];exact Heap.get?_push_of_some _ e
 refine NR λh' hk hn ho ha=>?_;have I4:=MF (loc:=loc) S I3 f3 hk hn ho ha lt3;have fpX:∀{H':Hp},(∀b∈fp,H' b=none)->∀b∈fp,FpOk (cCx X (loc++fr) scope s3 (upd H2 s2.heap.objs.size (.lst [])) fp) [] H' b:=λhn b hb=>
  ⟨hn b hb,(I4.ok.exf b hb).1,I4.ok.exfs b hb,.inl hb,(I4.ok.exf b hb).2,λp hp=>by cases hp⟩
 have loop:codeAny (model X.prog X.w) X.A (.compLoop (.ListComp elt [⟨tg,iter,ifs,0⟩] scope pos) 0 (.ref it) (.ref s2.heap.objs.size) (TW scope s3.heap.objs.size X.env))
  (compPost (model X.prog X.w) X.A X.xe none (EP X pins σ Q) (.ref s2.heap.objs.size) s3.heap.objs.size) { s3 with heap:=h' }:=by
  refine HA (λn s'=>∃i σ' ys H',Inv (cCx X (loc++fr) scope s3 (upd H2 s2.heap.objs.size (.lst [])) fp) [] σ' H' s'/\tn i s'.heap/\(∀b∈fp,H' b=none)/\W i n σ' ys H') ?_ m0
   ⟨0,_,[],_,I4,T.keep _ _ _ st3 λb hb o e=>hk b o e,λb hb=>(f3 b hb).1,w0⟩
  rintro n s5 ⟨i,σ5,ys,H5,I5,st5,fr5,w5⟩;obtain⟨hD,w5⟩:=turn i n σ5 ys H5 w5;rcases w5 with⟨stop,qn⟩|⟨go,hz,N,hN,step⟩
  .refine thn (T.done (cCx X (loc++fr) scope s3 (upd H2 s2.heap.objs.size (.lst [])) fp) rfl rfl rfl hc i [] s5 σ5 H5 _ I5 (fpX fr5) st5 stop) λr s6 ⟨hr,I6⟩=>?_;subst hr;obtain⟨m,hm,_⟩:=I6.loc;refine⟨m,hm,λh'' hs=>?_⟩;have neC:∀b o,s3.heap.get? b=some o->b≠s3.heap.objs.size:=λb o e=>ne_of_lt (Heap.lt_size e);have un:=I6.base;refine⟨.ref s2.heap.objs.size,H5,I3.call' (s':={ s6 with heap:=h'' }) (ch:=fp) I6.os ⟨λb o e n hb hx=>?_,λb o e n hb hx=>?_,un.free,λb o e hx=>?_,un.tups,un.frzs,un.tbls⟩ ?_ I6.bare ?_,rfl,qn⟩
   .exact(hs.2 b (neC b o e)).trans (un.keep b o e n hb hx)
   .obtain⟨sl,q⟩:=un.slot b o e n hb hx;exact⟨sl,(hs.2 b (neC b o e)).trans q⟩
   .obtain⟨o',q⟩:=un.there b o e hx;exact⟨o',(hs.2 b (neC b o e)).trans q⟩
   .intro b ob e;have hfree:H5 s3.heap.objs.size=none:=I6.free;refine(I6.hok b ob e).stay (λc w' hc q=>(hs.2 c ?_).trans q) (λ_ q=>q) λ_ _ q=>q;intro z;rcases hc with hc|hc
    .rw[<- hc,z,hfree]at e;cases e
    .rw[z,hfree]at hc;cases hc
   .intro b hb;obtain⟨_,a2,_,a4,a5,a6⟩:=f3 b hb;exact⟨a4,a2,a5,a6⟩
  .refine thn (T.item (cCx X (loc++fr) scope s3 (upd H2 s2.heap.objs.size (.lst [])) fp) rfl rfl rfl hc i [] s5 σ5 H5 _ I5 (fpX fr5) st5 go) λr s6 ⟨u,hr,h6⟩=>?_;subst hr;refine thn h6 λ_ s7 ⟨x,H7,I7,r7,y7,st7,fr7⟩=>?_;have I7':=I7.pinned (fpX fr7) (T.obj _ _ st7);have keepI:∀{σ8:St} {H8:Hp} {s8:Shared},Inv (cCx X (loc++fr) scope s3 (upd H2 s2.heap.objs.size (.lst [])) fp) ([]++FT fp s7.heap) σ8 H8 s8->tn (i+1) s8.heap/\∀b∈fp,H8 b=none:=λ{σ8 H8 s8} I8=>by
    refine⟨T.keep _ _ _ st7 λb hb o e=>(I8.pin (b,o) (mem_append_right _ (mem_append_right _ (Cz hb e)))).1,λb hb=>?_⟩;obtain⟨o,e,d⟩:=T.obj _ _ st7 b hb;exact(I8.pin (b,o) (mem_append_right _ (mem_append_right _ (Cz hb e)))).2.1
   refine thn (hg s3 (upd H2 s2.heap.objs.size (.lst [])) fp _ s7 σ5 H7 x u _ I7' r7 (step x H7 y7)) λ_ s8 ⟨σ8,H8,I8,q8⟩=>?_;refine thn (hf s3 (upd H2 s2.heap.objs.size (.lst [])) fp _ s8 σ8 H8 _ I8 q8) λb s9 ⟨H9,I9,q9⟩=>?_;cases b with
   |false=>
    rw[if_neg Bool.false_ne_true]at q9 ⊢;obtain⟨m',hm,w9⟩:=hN _ _ _ q9;exact⟨m',hm,i+1,σ8,ys,H9,I9.unpinned,(keepI I9).1,(keepI I9).2,w9⟩
   |true=>
    rw[if_pos rfl]at q9 ⊢;refine thn (he s3 (upd H2 s2.heap.objs.size (.lst [])) fp _ s9 σ8 H9 _ I9 q9) λe10 s10 ⟨v10,H10,I10,r10,hD10,n10⟩=>?_;obtain⟨m',hm,w10⟩:=hN _ _ _ n10;refine R9 (X:=cCx X (loc++fr) scope s3 (upd H2 s2.heap.objs.size (.lst [])) fp) I10 hD10 r10 hz λ_ s11 I11=>?_;exact⟨m',hm,i+1,σ8,_,_,I11.unpinned,(keepI I11).1,(keepI I11).2,w10⟩
 exact codeAny_compStart_list loop (T.self X.A 0 _ _ _ (T.keep _ _ _ st3 λb hb o e=>hk b o e) loop)
end
section
variable{X:Cx}
def P7{elt tg iter:Expr}{ifs:List Expr}{scope:Scope}{pos:Pos}{loc fr:List Str}{ix:List Nat}{g:TG}{tf:TT}{te:TE}{pins:List (Addr×Obj)}{σ:St}{Q:VK}{it:Addr}{fp:List Addr}{tn:Nat->Heap->Prop}{J:It}{H2:Hp}{s2:Shared}{E:Value->Shared->Prop}
 {RR:Value->Addr->Result->Shared->Prop} (hc:X.calm=true) (S:CSc X scope fr ix)
 (hg:∀s H ex,PG (cCx X (loc++fr) scope s H ex) tg g) (hf:∀s H ex,PF (cCx X (loc++fr) scope s H ex) ifs tf) (he:∀s H ex,PE (cCx X (loc++fr) scope s H ex) elt te)
 (I2:Inv X pins σ H2 s2) (T:Turn X.prog X.w X.K tg J fp it tn) (st2:tn 0 s2.heap) (f2:∀b∈fp,FpOk X pins H2 b) (hW:∀D,H2 D=none->UC J D (HC loc.length ix σ) H2 g tf te Q)
 (hfin:∀(s3 s6:Shared) (H5:Hp) (σ5:St) (D:Addr),Inv X pins σ (upd H2 D (.lst [])) s3->Inv (cCx X (loc++fr) scope s3 (upd H2 D (.lst [])) fp) [] σ5 H5 s6->(∀b∈fp,FpOk X pins (upd H2 D (.lst [])) b)->Q (.ref D) H5->RR (.ref D) s3.heap.objs.size (.ok .next) s6):
 wpAny (model X.prog X.w) X.A (newList []) (λacc s₃=>wpAny (model X.prog X.w) X.A (newFunctionEnv scope X.env.globals (Ai X.env.cells scope.names []) [] X.env.qual none .none (some X.env)) (λcenv s₄=>
  codeAny (model X.prog X.w) X.A (.compStart (.ListComp elt [⟨tg,iter,ifs,0⟩] scope pos) 0 (.ref it) acc { cenv with scope:=relabel scope X.env }) (RR acc cenv.locals) s₄) E s₃) E s2:=by
 refine wpAny_newObj_type ?_;have fresh2:H2 s2.heap.objs.size=none:=I2.hok.fresh (le_refl _);have I3:=I2.lnew (its:=[]) (ys:=[]) (t':=s2.toks) .nil (zero_le _);obtain⟨W,⟨m0,w0⟩,turn⟩:=hW s2.heap.objs.size fresh2;have lt2:∀b∈fp,b<s2.heap.objs.size:=λb hb=>let ⟨o,e,_⟩:=T.obj 0 _ st2 b hb;Heap.lt_size e
 have f3:∀b∈fp,FpOk X pins (upd H2 s2.heap.objs.size (.lst [])) b:=λb hb=>⟨by rw[AE (ne_of_lt (lt2 b hb))];exact(f2 b hb).1,(f2 b hb).2⟩
 have lt3:∀b∈fp,b<(s2.heap.push { cls:=.type "list",data:=.seq ([]:List Value).toArray }).objs.size:=λb hb=>by rw[Heap.size_push];exact lt_succ_of_lt (lt2 b hb)
 generalize hs3:({ s2 with heap:=s2.heap.push { cls:=.type "list",data:=.seq ([]:List Value).toArray } }:Shared)=s3 at *;have lt3:∀b∈fp,b<s3.heap.objs.size:=by rw[<- hs3];exact lt3
 have st3:tn 0 s3.heap:=T.keep _ _ _ st2 λb hb o e=>by rw[<- hs3];exact Heap.get?_push_of_some _ e
 refine NR λh' hk hn ho ha=>?_;have I4:=MF (loc:=loc) S I3 f3 hk hn ho ha lt3;have fpX:∀{H':Hp},(∀b∈fp,H' b=none)->∀b∈fp,FpOk (cCx X (loc++fr) scope s3 (upd H2 s2.heap.objs.size (.lst [])) fp) [] H' b:=λhn b hb=>
  ⟨hn b hb,(I4.ok.exf b hb).1,I4.ok.exfs b hb,.inl hb,(I4.ok.exf b hb).2,λp hp=>by cases hp⟩
 have loop:codeAny (model X.prog X.w) X.A (.compLoop (.ListComp elt [⟨tg,iter,ifs,0⟩] scope pos) 0 (.ref it) (.ref s2.heap.objs.size) (TW scope s3.heap.objs.size X.env))
  (RR (.ref s2.heap.objs.size) s3.heap.objs.size) { s3 with heap:=h' }:=by
  refine HA (λn s'=>∃i σ' ys H',Inv (cCx X (loc++fr) scope s3 (upd H2 s2.heap.objs.size (.lst [])) fp) [] σ' H' s'/\tn i s'.heap/\(∀b∈fp,H' b=none)/\W i n σ' ys H') ?_ m0
   ⟨0,_,[],_,I4,T.keep _ _ _ st3 λb hb o e=>hk b o e,λb hb=>(f3 b hb).1,w0⟩
  rintro n s5 ⟨i,σ5,ys,H5,I5,st5,fr5,w5⟩;obtain⟨hD,w5⟩:=turn i n σ5 ys H5 w5;rcases w5 with⟨stop,qn⟩|⟨go,hz,N,hN,step⟩
  .refine thn (T.done (cCx X (loc++fr) scope s3 (upd H2 s2.heap.objs.size (.lst [])) fp) rfl rfl rfl hc i [] s5 σ5 H5 _ I5 (fpX fr5) st5 stop) λr s6 ⟨hr,I6⟩=>?_;subst hr;exact hfin s3 s6 H5 σ5 s2.heap.objs.size I3 I6 f3 qn
  .refine thn (T.item (cCx X (loc++fr) scope s3 (upd H2 s2.heap.objs.size (.lst [])) fp) rfl rfl rfl hc i [] s5 σ5 H5 _ I5 (fpX fr5) st5 go) λr s6 ⟨u,hr,h6⟩=>?_;subst hr;refine thn h6 λ_ s7 ⟨x,H7,I7,r7,y7,st7,fr7⟩=>?_;have I7':=I7.pinned (fpX fr7) (T.obj _ _ st7);have keepI:∀{σ8:St} {H8:Hp} {s8:Shared},Inv (cCx X (loc++fr) scope s3 (upd H2 s2.heap.objs.size (.lst [])) fp) ([]++FT fp s7.heap) σ8 H8 s8->tn (i+1) s8.heap/\∀b∈fp,H8 b=none:=λ{σ8 H8 s8} I8=>by
    refine⟨T.keep _ _ _ st7 λb hb o e=>(I8.pin (b,o) (mem_append_right _ (mem_append_right _ (Cz hb e)))).1,λb hb=>?_⟩;obtain⟨o,e,d⟩:=T.obj _ _ st7 b hb;exact(I8.pin (b,o) (mem_append_right _ (mem_append_right _ (Cz hb e)))).2.1
   refine thn (hg s3 (upd H2 s2.heap.objs.size (.lst [])) fp _ s7 σ5 H7 x u _ I7' r7 (step x H7 y7)) λ_ s8 ⟨σ8,H8,I8,q8⟩=>?_;refine thn (hf s3 (upd H2 s2.heap.objs.size (.lst [])) fp _ s8 σ8 H8 _ I8 q8) λb s9 ⟨H9,I9,q9⟩=>?_;cases b with
   |false=>
    rw[if_neg Bool.false_ne_true]at q9 ⊢;obtain⟨m',hm,w9⟩:=hN _ _ _ q9;exact⟨m',hm,i+1,σ8,ys,H9,I9.unpinned,(keepI I9).1,(keepI I9).2,w9⟩
   |true=>
    rw[if_pos rfl]at q9 ⊢;refine thn (he s3 (upd H2 s2.heap.objs.size (.lst [])) fp _ s9 σ8 H9 _ I9 q9) λe10 s10 ⟨v10,H10,I10,r10,hD10,n10⟩=>?_;obtain⟨m',hm,w10⟩:=hN _ _ _ n10;refine R9 (X:=cCx X (loc++fr) scope s3 (upd H2 s2.heap.objs.size (.lst [])) fp) I10 hD10 r10 hz λ_ s11 I11=>?_;exact⟨m',hm,i+1,σ8,_,_,I11.unpinned,(keepI I11).1,(keepI I11).2,w10⟩
 exact codeAny_compStart_list loop (T.self X.A 0 _ _ _ (T.keep _ _ _ st3 λb hb o e=>hk b o e) loop)
def N2{scope:Scope}{N':List Str}{fp:List Addr}{pins:List (Addr×Obj)}{σ σ5:St}{H3 H5:Hp}{s3 s6:Shared}{h'':Heap}(I3:Inv X pins σ H3 s3)(I6:Inv (cCx X N' scope s3 H3 fp) [] σ5 H5 s6)(f3:∀b∈fp,FpOk X pins H3 b)
 (hs:Heap.SameBut s3.heap.objs.size s6.heap h''):Inv X pins σ H5 { s6 with heap:=h'' }:=by
 have neC:∀b o,s3.heap.get? b=some o->b≠s3.heap.objs.size:=λb o e=>ne_of_lt (Heap.lt_size e);have un:=I6.base;refine I3.call' (s':={ s6 with heap:=h'' }) (ch:=fp) I6.os ⟨λb o e n hb hx=>?_,λb o e n hb hx=>?_,un.free,λb o e hx=>?_,un.tups,un.frzs,un.tbls⟩ ?_ I6.bare ?_
 .exact(hs.2 b (neC b o e)).trans (un.keep b o e n hb hx)
 .obtain⟨sl,q⟩:=un.slot b o e n hb hx;exact⟨sl,(hs.2 b (neC b o e)).trans q⟩
 .obtain⟨o',q⟩:=un.there b o e hx;exact⟨o',(hs.2 b (neC b o e)).trans q⟩
 .intro b ob e;have hfree:H5 s3.heap.objs.size=none:=I6.free;refine(I6.hok b ob e).stay (λc w' hc q=>(hs.2 c ?_).trans q) (λ_ q=>q) λ_ _ q=>q;intro z;rcases hc with hc|hc
  .rw[<- hc,z,hfree]at e;cases e
  .rw[z,hfree]at hc;cases hc
 .intro b hb;obtain⟨_,a2,_,a4,a5,a6⟩:=f3 b hb;exact⟨a4,a2,a5,a6⟩
def VN{i:Nat}{y:Str}{elt tg iter:Expr}{ifs:List Expr}{scope:Scope}{pos spos py:Pos}{loc fr:List Str}{ix:List Nat}{wi:TI}{g:TG}{tf:TT}{te:TE}(hN:X.N.Nodup)(hiN:X.N[i]?=some y)(hy:X.env.scope.names.lookup y=some .local)
 (hc:X.calm=true) (S:CSc X scope fr ix) (hi:PI X tg iter wi)
 (hg:∀s H ex,PG (cCx X (loc++fr) scope s H ex) tg g) (hf:∀s H ex,PF (cCx X (loc++fr) scope s H ex) ifs tf) (he:∀s H ex,PE (cCx X (loc++fr) scope s H ex) elt te)
 (hsw:swapsWith (.ListComp elt [⟨tg,iter,ifs,0⟩] scope pos) (some (.Name y py)) spos.line X.env=pure true:=by rfl) (hs:∀x,foldedSetIterable iter X.env x=pure x:=by intro _;rfl):
 PS X (.Assign [.Name y py] (.ListComp elt [⟨tg,iter,ifs,0⟩] scope pos) spos) (Ej (Fk loc.length ix wi g tf te) (Dz i)):=by
 intro pins s σ H D I h;have hnames:∀y∈scope.names,y.2=.local->scope.names.lookup y.1=some .local:=λy hy e=>by
  have:=all_eq_true.mp S.loc y hy;rw[e]at this;simpa using this
 rw[exec_Assign_Name_used _ _ _ _ hsw];refine wpAny_bind (wpAny_standAt (wpAny_bind ?_));show wpAny _ _ (do let _ <- comprehension (.ListComp elt [⟨tg,iter,ifs,0⟩] scope pos) scope X.env _ (newList []) false (eval iter X.env) (some (assign (.Name y py) X.env))) _ _ s;refine wpAny_bind (wpAny_mono (wpAny_comprehension_free (use:=some (assign (.Name y py) X.env)) (Q:=λ_ s'=>SP X pins D .next s') rfl hs (EN (S.clos I.ok)) S.kind hnames
  (thn (hi pins s σ H _ I h) λv s1 h1=>thn h1 λitv s2 h2=>?_)) (λ_ s' hq=>wpAny_pure (wpAny_pure hq)) λ_ _ e=>e)
 obtain⟨it,fp,tn,J,H2,rfl,I2,T,st2,f2,hW⟩:=h2;refine P7 (RR:=λacc C=>compPost (model X.prog X.w) X.A X.xe (some (assign (.Name y py) X.env)) (λ_ s'=>SP X pins D .next s') acc C) hc S hg hf he I2 T st2 f2 hW λs3 s6 H5 σ5 L I3 I6 f3 q=>?_;have J6:Inv X pins σ H5 s6:=N2 (h'':=s6.heap) I3 I6 f3 (.refl ..);obtain⟨m,hm,_⟩:=I6.loc;have hm:s6.heap.Ns s3.heap.objs.size m:=hm;have hL:s3.heap.objs.size≠X.env.locals:=Ne.symm (ne_of_lt I3.lt);show wpAny _ _ (assign (.Name y py) X.env (.ref L)) _ _ s6;refine wpAny_assign_Name (Jt (v:=.ref L) J6 hN hiN (.inl hy) rfl (λs7 I7 ⟨a,sb,ha⟩=>?_) (.inr hy));have hca:s3.heap.objs.size≠a:=by
  rcases ha with rfl|ha
  .exact hL
  .obtain⟨v,z⟩:=I3.cell y a ha;exact Ne.symm (ne_of_lt z.lt)
 refine⟨m,hm.sameBut sb hca,λh' hs'=>?_⟩;refine⟨_,H5,I7.turned (t':=s7.toks) (it:=s3.heap.objs.size) (λb o hb e=>(hs'.2 b hb).trans e) I6.free hL (.inr I3.sz) (λx c e z=>?_) (λp hp z=>?_),q⟩
 .obtain⟨v,w⟩:=I3.cell x c e;exact absurd w.lt (by rw[z];exact lt_irrefl _)
 .exact absurd (Heap.lt_size (I3.pin p hp).1) (by rw[z];exact lt_irrefl _)
end
mutual
def Rep(K:PySem.W.Frag)(H:Hp):PyData->V->Prop
 |.none,v=>v=.non
 |.bool b,v=>v=.bl b
 |.int i,v=>v=.int i
 |.str x,v=>v=.str x
 |.list ds,v=>∃a xs,v=.ref a/\SqL K H a xs/\CS K H ds xs
 |.tuple ds,v=>∃a xs,v=.ref a/\SqT K H a xs/\CS K H ds xs
 |.dict _,_=>False
def CS(K:PySem.W.Frag)(H:Hp):List PyData->List V->Prop
 |[],xs=>xs=[]
 |d::ds,xs=>∃x r,xs=x::r/\Rep K H d x/\CS K H ds r
end
section
variable{X:Cx}{pins:List (Addr×Obj)}{σ:St}{H:Hp}{s:Shared}
mutual
def E6(I:Inv X pins σ H s):∀(d:PyData) (v:V) (u:Value),Rep X.K H d v->RelV v u->∃as,Reads s.heap u d as
 |.none,v,u,h,r=>by
  have h:v=.non:=by simpa only[Rep]using h
  subst h;cases r;exact⟨_,.none⟩
 |.bool b,v,u,h,r=>by
  have h:v=.bl b:=by simpa only[Rep]using h
  subst h;cases r;exact⟨_,.bool b⟩
 |.int i,v,u,h,r=>by
  have h:v=.int i:=by simpa only[Rep]using h
  subst h;obtain⟨t,rfl⟩:=r;exact⟨_,.int i t⟩
 |.str x,v,u,h,r=>by
  have h:v=.str x:=by simpa only[Rep]using h
  subst h;obtain⟨t,rfl⟩:=r;exact⟨_,.str x t⟩
 |.list ds,v,u,h,r=>by
  have h:∃a xs,v=.ref a/\SqL X.K H a xs/\CS X.K H ds xs:=by simpa only[Rep]using h
  obtain⟨a,xs,rfl,hq,ha⟩:=h;cases r;obtain⟨its,rv,⟨o,n,e,c,_,dd⟩,hz⟩:=I.list hq;obtain⟨as,q⟩:=Em I ds xs its ha rv;exact⟨_,.list e c dd (by simpa using q)⟩
 |.tuple ds,v,u,h,r=>by
  have h:∃a xs,v=.ref a/\SqT X.K H a xs/\CS X.K H ds xs:=by simpa only[Rep]using h
  obtain⟨a,xs,rfl,hq,ha⟩:=h;cases r;obtain⟨its,rv,⟨o,e,c,n,dd⟩,hz⟩:=I.tuple hq;obtain⟨as,q⟩:=Em I ds xs its ha rv;exact⟨_,.tuple e c dd (by simpa using q)⟩
 |.dict _,v,u,h,r=>by
  have h:False:=by simpa only[Rep]using h
  exact h.elim
def Em(I:Inv X pins σ H s):∀(ds:List PyData) (xs:List V) (us:List Value),CS X.K H ds xs->Vals xs us->∃as,ReadsAll s.heap us ds as
 |[],xs,us,h,r=>by
  have h:xs=[]:=by simpa only[CS]using h
  subst h;cases r;exact⟨_,.nil⟩
 |d::ds,xs,us,h,r=>by
  have h:∃x r,xs=x::r/\Rep X.K H d x/\CS X.K H ds r:=by simpa only[CS]using h
  obtain⟨x,rr,rfl,h1,h2⟩:=h;cases r with
  |cons r1 r2=>
   obtain⟨as,q1⟩:=E6 I d _ _ h1 r1;obtain⟨bs,q2⟩:=Em I ds _ _ h2 r2;exact⟨_,.cons q1 q2⟩
end
end
structure Grow(H H':Hp):Prop where
 tup:∀b xs,H b=some (.tup xs)->H' b=some (.tup xs)
 frz:∀b o u,H b=some (.frz o u)->H' b=some (.frz o u)
def Grow.refl{H:Hp}:Grow H H:=⟨λ_ _ h=>h,λ_ _ _ h=>h⟩
def Chg(H:Hp)(p:Addr):Prop:=(∀xs,H p≠some (.tup xs))/\∀o u,H p≠some (.frz o u)
def Grow.put{H H':Hp}{p:Addr}{o:HO}(a:Grow H H')(h:Chg H' p):Grow H (upd H' p o):=⟨λc xs e=>by
 have q:=a.tup c xs e;have n:c≠p:=λz=>h.1 xs (by rw[<- z];exact q);rw[AE n];exact q,λc z u e=>by
 have q:=a.frz c z u e;have n:c≠p:=λw=>h.2 z u (by rw[<- w];exact q);rw[AE n];exact q⟩
def Chg.lst{H:Hp}{p:Addr}{xs:List V}(h:H p=some (.lst xs)):Chg H p:=⟨(λ_ e=>by rw[h]at e;cases e),(λ_ _ e=>by rw[h]at e;cases e)⟩
def Grow.sq{K:PySem.W.Frag}{H H':Hp}{a:Addr}{xs:List V}(g:Grow H H')(h:SqT K H a xs):SqT K H' a xs:=by
 rcases h with(h|⟨o,h⟩)|h
 .exact .inl (.inl (g.tup _ _ h))
 .exact .inl (.inr ⟨o,g.frz _ _ _ h⟩)
 .exact .inr h
section
variable{X:Cx}
def SL(K:PySem.W.Frag):R2:=λx y H Q=>∃d e,Rep K H d x/\Rep K H e y/\d.canLay0=true/\e.canLay0=true/\min d.depth e.depth<=60/\Q (.bl (!PyData.eqv d e)) H
def SO(K:PySem.W.Frag):R2:=λx y H Q=>∃d e,Rep K H d x/\Rep K H e y/\d.canLay0=true/\e.canLay0=true/\min d.depth e.depth<=60/\Q (.bl (PyData.eqv d e)) H
def Yb(hu:X.A.units+64<cLine):OpR X (compareOp .NotEq) (SL X.K):=by
 intro pins s σ H x y v u Q I rx ry h;obtain⟨d,e,h1,h2,c1,c2,hm,q⟩:=h;obtain⟨as,q1⟩:=E6 I d x v h1 rx;obtain⟨bs,q2⟩:=E6 I e y u h2 ry;exact PySem.SeqAt.compareNe_reads q1 q2 c1 c2 (by omega) ⟨.bl _,H,I,rfl,q⟩
def Yh(hu:X.A.units+64<cLine):OpR X (compareOp .Eq) (SO X.K):=by
 intro pins s σ H x y v u Q I rx ry h;obtain⟨d,e,h1,h2,c1,c2,hm,q⟩:=h;obtain⟨as,q1⟩:=E6 I d x v h1 rx;obtain⟨bs,q2⟩:=E6 I e y u h2 ry;exact PySem.SeqAt.compareEq_reads q1 q2 c1 c2 (by omega) ⟨.bl _,H,I,rfl,q⟩
def Dt:∀{ns:List Int} {us:List Value},Vals (ns.map V.int) us->IntsAre us ns
 |[],_,.nil=>.nil
 |n::ns,_,.cons r t=>by obtain⟨k,rfl⟩:=r;exact .cons _ _ (Dt t)
def Qx(hc:X.calm=true):CallR X (.builtin "sum") (λxs H Q=>∃(a:Addr) (ns:List Int),xs=[.ref a]/\SqL X.K H a (ns.map V.int)/\Q (.int ns.sum) H):=by
 intro pins s σ H xs us Q I r h;obtain⟨a,ns,rfl,hq,q⟩:=h;obtain⟨u,rfl,ru⟩:=C8 r;cases ru;obtain⟨its,rv,p,hz⟩:=I.list hq;have hi:=Dt rv;obtain⟨xs,hx⟩:=hi.allInts.items;have hl':s.heap.IsList a (intItems xs):=hx ▸ p.isList;refine sum_intListG (I.ok.hd hc) hl' λh' tk t' hk=>?_;have e1:ns=xs.toList.map (·.1):=by
  rw[<- nums_intItems,<- hx];exact(show numsOf its.toArray.toList=ns from hi.numsOf).symm
 have e2:preSum (numAt xs) xs.size=ns.sum:=by
  rw[preSum_eq,take_of_length_le (by simp),e1]
 rw[e2];exact⟨.int ns.sum,H,I.kept hk,⟨_,rfl⟩,q⟩
end
end L2
namespace L2
open PySem PySem.Spec PyProof.Rows
section
variable(K:PySem.W.Frag){X:Cx}
def MD(hK:X.K=K:=by rfl):IxR X (SN K):=by subst hK;exact Vy
def Na(hK:X.K=K:=by rfl):IxR X (SM K):=by subst hK;exact Yy
def Rz(hK:X.K=K:=by rfl):SlR X (OR K):=by subst hK;exact UP
def Ye(hK:X.K=K:=by rfl):OpR X (compareOp .In) (rIn K false):=by subst hK;exact Q5
def Q3(hK:X.K=K:=by rfl):OpR X (compareOp .NotIn) (rIn K true):=by subst hK;exact Lo
def Ja(hu:X.A.units+64<cLine)(hK:X.K=K:=by rfl):OpR X (compareOp .Eq) (SO K):=by subst hK;exact Yh hu
def JZ(hu:X.A.units+64<cLine)(hK:X.K=K:=by rfl):OpR X (compareOp .NotEq) (SL K):=by subst hK;exact Yb hu
def Lp(hK:X.K=K:=by rfl):OpR X (binaryOp .Add) (OU K):=by subst hK;exact Vk
def XO:List V->Hp->VK->Prop:=λxs H Q=>∃p ys,xs=[.ref p]/\(SqL K H p ys∨SqT K H p ys)/\Q (.int ys.length) H
def Qz(hK:X.K=K:=by rfl):CallR X (.builtin "len") (XO K):=by subst hK;exact Md
def JX:List V->Hp->VK->Prop:=λxs H Q=>∃p ys,xs=[.ref p]/\(SqL K H p ys∨SqT K H p ys)/\∀l,H l=none->Q (.ref l) (upd H l (.lst ys))
def P9(hK:X.K=K:=by rfl):CallR X (.type "list") (JX K):=by subst hK;exact Mc
def Lh:List V->Hp->VK->Prop:=λxs H Q=>∃p ys,xs=[.ref p]/\((SqL K H p ys/\∀l,H l=none->Q (.ref l) (upd H l (.tup ys)))∨(SqT K H p ys/\Q (.ref p) H))
def Hn(hK:X.K=K:=by rfl):CallR X (.type "tuple") (Lh K):=by subst hK;exact Kg
def Ts:List V->Hp->VK->Prop:=λxs H Q=>∃(a:Addr) (ns:List Int),xs=[.ref a]/\SqL K H a (ns.map V.int)/\Q (.int ns.sum) H
def KG(hc:X.calm=true)(hK:X.K=K:=by rfl):CallR X (.builtin "sum") (Ts K):=by subst hK;exact Qx hc
def Lm{tg l:Expr}{tl:TE}(hl:PE X l tl)(hK:X.K=K:=by rfl):PI X tg l (HW K tl):=by subst hK;exact VY hl
def VX{tg l:Expr}{tl:TE}(hl:PE X l tl)(hK:X.K=K:=by rfl):PI X tg l (Os K tl):=by subst hK;exact YE hl
def Vb{pos:Pos}{es:List Expr}{k:Nat}{t:TGs}{n:Nat}(hc:X.calm=true)(h:PGs X es t)(hK:X.K=K:=by rfl)
 (hn:(assignEach es X.env).length=n:=by rfl) (hst:(assignEach es X.env).findIdx? (·.1)=none:=by rfl):PG X (.Tuple es k pos) (Ov K n t):=by
 subst hK;exact YG hc h hn hst
end
section
variable(K:PySem.W.Frag){X:Cx}
def HD:∀{bs:List Bool} {us:List Value} {i:Nat} {v:Value},Vals (bs.map V.bl) us->us[i]?=some v->∃b,bs[i]?=some b/\v=.bool b
 |[],_,_,_,.nil,e=>by simp at e
 |b::bs,_,0,_,.cons r _,e=>by simp at e;subst e;exact⟨b,rfl,r⟩
 |b::bs,_,i+1,_,.cons _ t,e=>by
  obtain⟨c,h1,h2⟩:=HD (i:=i) t (by simpa using e);exact⟨c,by simpa using h1,h2⟩
def XR:List V->Hp->VK->Prop:=λxs H Q=>∃(a:Addr) (bs:List Bool),xs=[.ref a]/\SqL K H a (bs.map V.bl)/\Q (.bl (bs.all id)) H
def XQ:List V->Hp->VK->Prop:=λxs H Q=>∃(a:Addr) (bs:List Bool),xs=[.ref a]/\SqL K H a (bs.map V.bl)/\Q (.bl (bs.any id)) H
def KK(hc:X.calm=true)(hK:X.K=K:=by rfl):CallR X (.builtin "all") (XR K):=by
 subst hK;intro pins s σ H xs us Q I r h;obtain⟨a,bs,rfl,hq,q⟩:=h;obtain⟨u,rfl,ru⟩:=C8 r;cases ru;obtain⟨its,rv,p,hz⟩:=I.list hq;have hl:=p.isList;have hlen:=rv.length;have hlt:a<s.heap.objs.size:=by obtain⟨_,e,_⟩:=hl;exact Heap.lt_size e
 refine call_all_walk (wpAny_pyIter_list hl ?_);refine⟨s.heap.objs.size,[s.heap.objs.size,a],[s.heap.objs.size],its.toArray.size,_,_,λi=>(bs[i]?).getD true,rfl,Walks.list (A:=X.A.in1) (I.ok.hd hc) _ a (ne_of_lt hlt) its.toArray,
  ⟨⟨_,Heap.get?_push_size _ rfl,rfl,rfl⟩,hl.push _⟩,λi v s' Q' E' hP hQ=>?_,λh' tk hk=>?_⟩
 .obtain⟨b,e,rfl⟩:=HD rv (by simpa using hP);simp only[e,Option.getD_some]at hQ;exact wpAny_truthy_bool hQ
 .have e:((List.range its.toArray.size).all λi=>(bs[i]?).getD true)=bs.all id:=by
   rw[size_toArray,<- hlen,length_map];exact LSm.range_all bs
  rw[e];exact⟨.bl _,H,I.kept (LSm.kept_iter hk),rfl,q⟩
def KJ(hc:X.calm=true)(hK:X.K=K:=by rfl):CallR X (.builtin "any") (XQ K):=by
 subst hK;intro pins s σ H xs us Q I r h;obtain⟨a,bs,rfl,hq,q⟩:=h;obtain⟨u,rfl,ru⟩:=C8 r;cases ru;obtain⟨its,rv,p,hz⟩:=I.list hq;have hl:=p.isList;have hlen:=rv.length;have hlt:a<s.heap.objs.size:=by obtain⟨_,e,_⟩:=hl;exact Heap.lt_size e
 refine call_any_walk (wpAny_pyIter_list hl ?_);refine⟨s.heap.objs.size,[s.heap.objs.size,a],[s.heap.objs.size],its.toArray.size,_,_,λi=>(bs[i]?).getD false,rfl,Walks.list (A:=X.A.in1) (I.ok.hd hc) _ a (ne_of_lt hlt) its.toArray,
  ⟨⟨_,Heap.get?_push_size _ rfl,rfl,rfl⟩,hl.push _⟩,λi v s' Q' E' hP hQ=>?_,λh' tk hk=>?_⟩
 .obtain⟨b,e,rfl⟩:=HD rv (by simpa using hP);simp only[e,Option.getD_some]at hQ;exact wpAny_truthy_bool hQ
 .have e:((List.range its.toArray.size).any λi=>(bs[i]?).getD false)=bs.any id:=by
   rw[size_toArray,<- hlen,length_map];exact LSm.range_any bs
  rw[e];exact⟨.bl _,H,I.kept (LSm.kept_iter hk),rfl,q⟩
def JW:List V->Hp->VK->Prop:=λxs H Q=>∃(a:Addr) (ns:List Int),xs=[.ref a]/\SqL K H a (ns.map V.int)/\ns.length<64/\∀(p:Addr) (ns':List Int),H p=none->ns'.Perm ns->ns'.Pairwise (·<=·)->Q (.ref p) (upd H p (.lst (ns'.map V.int)))
def JH:∀{ns:List Int} {us:List Value},IntsAre us ns->Vals (ns.map V.int) us
 |[],_,.nil=>.nil
 |_::_,_,.cons _ _ t=>.cons ⟨_,rfl⟩ (JH t)
def Mb(hK:X.K=K:=by rfl):CallR X (.builtin "sorted") (JW K):=by
 subst hK;intro pins s σ H xs us Q I r h;obtain⟨a,ns,rfl,hq,h64,q⟩:=h;obtain⟨u,rfl,ru⟩:=C8 r;cases ru;obtain⟨its,rv,p,hz⟩:=I.list hq;have hlen:=rv.length;rw[length_map]at hlen;refine sorted_ints p.isList (Dt rv) (by omega) λout ns' a1 a2 a3=>?_;obtain⟨e,he⟩:=sortedAll_at s.heap its out;have hl':ns'.length=ns.length:=a2.length_eq;refine⟨.ref (s.heap.objs.size+1),_,I.laid (a:=s.heap.objs.size+1) (o:=.lst (ns'.map V.int)) (t':=s.toks) (λb o hb=>sortedAll_old hb) (le_succ _) ⟨?_,out.toList,e,JH a1,he⟩,rfl,q _ _ (I.hok.fresh (le_succ _)) a2 a3⟩;rw[length_map,hl'];exact le_of_lt (GR (by omega))
def Tu:List V->Hp->VK->Prop:=λxs H Q=>∃(a:Addr) (ns:List Int),xs=[.ref a]/\SqL K H a (ns.map V.int)/\0<ns.length/\∀M:Int,M∈ns->(∀x∈ns,x<=M)->Q (.int M) H
def KI(hc:X.calm=true)(hK:X.K=K:=by rfl):CallR X (.builtin "max") (Tu K):=by
 subst hK;intro pins s σ H xs us Q I r h;obtain⟨a,ns,rfl,hq,hne,q⟩:=h;obtain⟨u,rfl,ru⟩:=C8 r;cases ru;obtain⟨its,rv,p,hz⟩:=I.list hq;have hi:=Dt rv;obtain⟨ys,e⟩:=hi.allInts.items;have hns:ns=ys.toList.map (·.1):=by
  rw[<- hi.numsOf,<- nums_intItems,<- e]
 have hsz:0<ys.size:=by
  have h3:=hne;rw[hns,length_map,Array.length_toList]at h3;exact h3
 have hl:=p.isList;rw[e]at hl;refine max_intList (I.ok.hd hc) hl hsz λv h' tk hv hk=>?_;obtain⟨t,rfl⟩:=intItems_at hv;obtain⟨h1,h2⟩:=argBest_gt (numAt ys) (ys.size-1);refine⟨.int _,H,I.kept hk,⟨t,rfl⟩,q _ ?_ λx hx=>?_⟩
 .rw[hns,numAt_eq];exact getD_mem (by rw[length_map,Array.length_toList];omega)
 .rw[hns]at hx;obtain⟨j,hj,rfl⟩:=mem_getD hx;rw[length_map,Array.length_toList]at hj;rw[<- numAt_eq];exact h2 j (by omega)
end
section
variable{prog:Program}{w:World}{A:Around}{E:Value->Shared->Prop}{s:Shared}{l:Addr}{xs:Array (Int×Tok)}
def GN{Q:Value->Shared->Prop}(hl:s.heap.IsTuple l (intItems xs))
 (h:∀s₂:Shared,s₂={ s with heap:=s.heap.push { cls:=.type "tuple_iterator",data:=.fields #[.ref l,.int 0 0] } } ->
  (s₂.heap.IsTupleIter s.heap.objs.size l 0/\s₂.heap.IsTuple l (intItems xs))->(∀b∈[s.heap.objs.size,l],b<s₂.heap.objs.size)->l≠s.heap.objs.size->Q (.ref s.heap.objs.size) s₂):
 wpAny (model prog w) A (pyIter (.ref l)) Q E s:=by
 have hlt:l<s.heap.objs.size:=by obtain⟨_,e,_⟩:=hl;exact Heap.lt_size e
 refine wpAny_pyIter_tuple hl (h _ rfl ⟨⟨_,Heap.get?_push_size _ rfl,rfl,rfl⟩,hl.push _⟩ (λb hb=>?_) (ne_of_lt hlt));show b<(s.heap.push _).objs.size;rw[Heap.size_push];rcases mem_cons.mp hb with rfl|hb
 .exact lt_succ_self _
 .rcases mem_cons.mp hb with rfl|hb
  .exact lt_succ_of_lt hlt
  .cases hb
def K2{h':Heap}{o:Obj}(hk:∀b x,b∉[s.heap.objs.size]->(s.heap.push o).get? b=some x->h'.get? b=some x):∀b x,s.heap.get? b=some x->h'.get? b=some x:=
 λb x e=>hk b x (λhm=>by rw[mem_singleton.mp hm]at e;exact lt_irrefl _ (Heap.lt_size e)) (Heap.get?_push_of_some _ e)
def LN{Q:Value->Shared->Prop}(hh:A.handled=none)(hl:s.heap.IsTuple l (intItems xs))
 (h:∀h' tk t',(∀b o,s.heap.get? b=some o->h'.get? b=some o)->Q (.int (preSum (numAt xs) xs.size) t') { s with heap:=h',toks:=tk }):
 wpAny (model prog w) A (call (.builtin "sum") [.ref l]) Q E s:=by
 refine call_sum_walkG (GN hl λs₂ e st hfp hlI=>?_);subst e;refine⟨_,_,_,_,_,_,numAt xs,rfl,Walks.tuple (A:=A.in1) hh _ l hlI (intItems xs),st,hfp,(λ_ _=>intItems_at),λh' tk t' hk=>?_⟩;have:=h h' tk t' (K2 hk);simpa [intItems]using this
def Lx{Q:Value->Shared->Prop}(hh:A.handled=none)(hl:s.heap.IsTuple l (intItems xs))(hne:0<xs.size)
 (h:∀v h' tk,(intItems xs)[argBest (λi j=>decide (numAt xs i>numAt xs j)) (xs.size-1)]?=some v->(∀b o,s.heap.get? b=some o->h'.get? b=some o)->Q v { s with heap:=h',toks:=tk }):
 wpAny (model prog w) A (call (.builtin "max") [.ref l]) Q E s:=by
 refine call_max_walk (GN hl λs₂ e st hfp hlI=>?_);subst e;refine⟨_,_,_,_,_,_,_,rfl,Walks.tuple (A:=A.in1) hh _ l hlI (intItems xs),st,hfp,by simpa [intItems]using hne,CmpOf.ints_gt (numAt xs) (λ_ _=>intItems_at),λv h' tk hP hk=>?_⟩;exact h v h' tk (by simpa [intItems]using hP) (K2 hk)
end
section
variable(K:PySem.W.Frag){X:Cx}
def Tr:List V->Hp->VK->Prop:=λxs H Q=>∃(a:Addr) (ns:List Int),xs=[.ref a]/\SqT K H a (ns.map V.int)/\Q (.int ns.sum) H
def JC(hc:X.calm=true)(hK:X.K=K:=by rfl):CallR X (.builtin "sum") (Tr K):=by
 subst hK;intro pins s σ H xs us Q I r h;obtain⟨a,ns,rfl,hq,q⟩:=h;obtain⟨u,rfl,ru⟩:=C8 r;cases ru;obtain⟨its,rv,p,hz⟩:=I.tuple hq;have hi:=Dt rv;obtain⟨xs,hx⟩:=hi.allInts.items;have hl':s.heap.IsTuple a (intItems xs):=hx ▸ (show s.heap.IsTuple a its.toArray from p);refine LN (I.ok.hd hc) hl' λh' tk t' hk=>?_;have e1:ns=xs.toList.map (·.1):=by
  rw[<- nums_intItems,<- hx];exact(show numsOf its.toArray.toList=ns from hi.numsOf).symm
 have e2:preSum (numAt xs) xs.size=ns.sum:=by
  rw[preSum_eq,take_of_length_le (by simp),e1]
 rw[e2];exact⟨.int ns.sum,H,I.kept hk,⟨_,rfl⟩,q⟩
def Tt:List V->Hp->VK->Prop:=λxs H Q=>∃(a:Addr) (ns:List Int),xs=[.ref a]/\SqT K H a (ns.map V.int)/\0<ns.length/\∀M:Int,M∈ns->(∀x∈ns,x<=M)->Q (.int M) H
def JD(hc:X.calm=true)(hK:X.K=K:=by rfl):CallR X (.builtin "max") (Tt K):=by
 subst hK;intro pins s σ H xs us Q I r h;obtain⟨a,ns,rfl,hq,hne,q⟩:=h;obtain⟨u,rfl,ru⟩:=C8 r;cases ru;obtain⟨its,rv,p,hz⟩:=I.tuple hq;have hi:=Dt rv;obtain⟨ys,e⟩:=hi.allInts.items;have hns:ns=ys.toList.map (·.1):=by
  rw[<- hi.numsOf,<- nums_intItems,<- e]
 have hsz:0<ys.size:=by
  have h3:=hne;rw[hns,length_map,Array.length_toList]at h3;exact h3
 have hl:s.heap.IsTuple a (intItems ys):=e ▸ (show s.heap.IsTuple a its.toArray from p);refine Lx (I.ok.hd hc) hl hsz λv h' tk hv hk=>?_;obtain⟨t,rfl⟩:=intItems_at hv;obtain⟨h1,h2⟩:=argBest_gt (numAt ys) (ys.size-1);refine⟨.int _,H,I.kept hk,⟨t,rfl⟩,q _ ?_ λx hx=>?_⟩
 .rw[hns,numAt_eq];exact getD_mem (by rw[length_map,Array.length_toList];omega)
 .rw[hns]at hx;obtain⟨j,hj,rfl⟩:=mem_getD hx;rw[length_map,Array.length_toList]at hj;rw[<- numAt_eq];exact h2 j (by omega)
end
structure DefAt(K:PySem.W.Frag)(mg:Str->Option Value)(x:Str)(st:Stmt)(f:Addr)(fd:FuncData)(ps:List Str):Prop where
 fn:Fun K x x st f fd
 mg:mg x=some (.ref f)
 bd:Binds K fd ps []
def Tz{X:Cx}{j k:Nat}{f:Addr}{fd:FuncData}{ps:List Str}{sp:Sp}{x:Str}{st:Stmt}{e:Expr}{es:List Expr}{t:TA}{p pos:Pos}(F:FnOk X.prog X.w X.K X.mg X.base CX0 j f fd ps sp)(hr:Room k X.A)(D:DefAt X.K X.mg x st f fd ps)(ha:PA X (e::es) t)
 (hjk:j<=k:=by decide) (hg:Gl X x:=by rfl) (hdb:(x==("__debug__":Str))=false:=by decide) (he:starEach (e::es) X.env=(false,eval e X.env)::starEach es X.env:=by rfl) (hpl:(backTo pos (starEach es X.env)).any (·.1)=false:=by rfl):
 PE X (.Call (.Name x p) (e::es) [] pos) (Ey sp [] E0 t):=
 Vg (F.mono hjk) hr hg D.mg D.fn.kp D.bd .nil Zr ha hdb he hpl
def Jm:bootBuiltins "list"=some (.type "list"):=by decide +kernel
def bt_tuple:bootBuiltins "tuple"=some (.type "tuple"):=by decide +kernel
def bt_len:bootBuiltins "len"=some (.builtin "len"):=by decide +kernel
def bt_sum:bootBuiltins "sum"=some (.builtin "sum"):=by decide +kernel
def bt_max:bootBuiltins "max"=some (.builtin "max"):=by decide +kernel
def FA:bootBuiltins "sorted"=some (.builtin "sorted"):=by decide +kernel
def bt_all:bootBuiltins "all"=some (.builtin "all"):=by decide +kernel
def bt_any:bootBuiltins "any"=some (.builtin "any"):=by decide +kernel
def Kh:bootBuiltins "isinstance"=some (.builtin "isinstance"):=by decide +kernel
mutual
def Hm:∀ns:List Int,PyData.canLayAll0 (ns.map PyData.int)=true
 |[]=>by simp[PyData.canLayAll0]
 |n::ns=>by simp[PyData.canLayAll0,PyData.canLay0,Hm ns]
end
end L2
namespace L2
open PySem PySem.Spec PyProof.Rows PySem.W
def lCx(X:Cx)(A:Around)(N':List Str)(qual:Str)(scope:Scope)(f:Addr)(cd:Value)(cl:List (Str×Addr))(s:Shared)(H:Hp):Cx:=
 { X with N:=N',s₀:=s,H₀:=H,A:=A.deeper (envX qual scope s.heap.objs.size f cd cl),env:=envX qual scope s.heap.objs.size f cd cl,outer:=X.stack,stack:=envX qual scope s.heap.objs.size f cd cl::X.stack,ex:=[],fn:=λ_=>false,calm:=true,pn:=[],xe:=λ_ _=>False }
structure LSc(scope:Scope)(p:Str):Prop where
 nocell:(scope.names.all λy=>y.2 != .cell)=true
 par:scope.names.lookup p=some .local
 co:scope.isCoroutine=false
 gen:scope.isGenerator=false
section
variable{X:Cx}{scope:Scope}{fr:List Str}{ix:List Nat}{pins:List (Addr×Obj)}{σ:St}{H:Hp}{s:Shared}{p:Str}
def LSc.ne(L:LSc scope p):∀y∈scope.names,y.2≠.cell:=λy hy e=>by
 have:=all_eq_true.mp L.nocell y hy;rw[e]at this
 revert this;decide
def W0(S:CSc X scope fr ix)(L:LSc scope p)(I:Inv X pins σ H s){A:Around}(hf:A.frames=X.A.frames)(hh:A.handled=none){qual:Str}{f:Addr}{cd:Value}{h':Heap}{x:V}{u:Value}{t':Nat}
 (hk:∀b o,s.heap.get? b=some o->h'.get? b=some o) (hn:h'.Ns s.heap.objs.size λy=>if y=p then some u else none) (r:RelV x u):
 Inv (lCx X A (p::fr) qual scope f cd (Ai X.env.cells scope.names []) s H) [] (some x::ix.map λi=>(σ[i]?).join) H { s with heap:=h',toks:=t' }:=by
 have lenix:fr.length=ix.length:=by simpa using congrArg List.length S.ixs
 have co:∀x c,(Ai X.env.cells scope.names []).lookup x=some c->X.env.cells.lookup x=some c:=λx c e=>DY (S.clos I.ok) (λ_ _ z=>by simp at z) x c e;refine⟨⟨I.ok.mod,S.kind,rfl,rfl,le_refl _,?_,?_,?_,λ_=>hh,Around.frames_deeper (hf.trans I.ok.frames),.inr ⟨rfl,rfl⟩,?_,I.bs,le_trans I.ok.bsz I.sz,?_,?_,I.stack,I.stkFree⟩,rfl,I.bare,Un.kept hk,⟨_,hn,?_⟩,?_,I.hok.fresh (le_refl _),?_,?_,I.hok.kept hk,?_⟩
 .intro x y c e1 e2;exact I.ok.inj x y c (co x c e1) (co y c e2)
 .intro x hx;rcases hx with e|e
  .exact absurd rfl (L.ne (x,.cell) (PySem.mem_of_lookup e))
  .exact isSome_iff_exists.mp (D1 (.inr (PySem.mem_of_lookup e)))
 .intro x c hf;cases hf
 .intro b hb;cases hb
 .intro b o e hb;cases hb
 .intro b hb;cases hb
 .intro i y v e1 e2 e3;cases i with
  |zero=>
   have e1:some p=some y:=e1;have e2:some (some x)=some (some v):=e2;cases e1;cases e2;exact⟨u,r,.inl ⟨L.par,if_pos rfl⟩⟩
  |succ j=>
   have e1:fr[j]?=some y:=e1;have e2:(ix.map λi=>(σ[i]?).join)[j]?=some (some v):=e2;rw[List.getElem?_map]at e2;have e4:(fr.map some)[j]?=some (some y):=by rw[List.getElem?_map,e1];rfl
   rw[S.ixs,List.getElem?_map]at e4;cases q:ix[j]? with
   |none=>rw[q]at e2;cases e2
   |some k=>
    rw[q]at e2 e4;have e2:(σ[k]?).join=some v:=Option.some.inj e2;have e4:X.N[k]?=some y:=Option.some.inj e4;have e5:σ[k]?=some (some v):=by
     cases w:σ[k]? with
     |none=>rw[w]at e2;cases e2
     |some z=>rw[w]at e2;simpa using e2
    have hfx:=all_eq_true.mp S.frs y (mem_of_getElem? e1);have hfx:scope.names.lookup y=some .free:=by simpa using hfx
    have hmem:=PySem.mem_of_lookup hfx;have hout:=S.outer hmem rfl;obtain⟨m,hm,hl⟩:=I.loc;obtain⟨u',r',l⟩:=hl k y v e4 e5 (.inr hout);refine⟨u',r',.inr ⟨.inr hfx,?_⟩⟩;rcases l with⟨kk,_⟩|⟨kk,c,ec,z⟩
    .rcases hout with w|w
     .rw[kk]at w;cases w
     .rw[kk]at w;cases w
    .obtain⟨d,hd⟩:=isSome_iff_exists.mp (D1 (cells:=X.env.cells) (acc:=[]) (.inr hmem));have:=co y d hd;rw[ec]at this;cases this;exact⟨c,hd,z.keeps hk⟩
 .intro x c e;obtain⟨v,z⟩:=I.cell x c (co x c e);exact⟨v,z.keeps hk⟩
 .intro x c e;exact I.freeC x c (co x c e)
 .intro p hp;cases hp
 .show(_::_:List (Option V)).length=(p::fr).length;simp[lenix]
def T6(S:CSc X scope fr ix)(L:LSc scope p)(I:Inv X pins σ H s){A:Around}(hf:A.frames=X.A.frames)(hr:Room 1 A){qual:Str}{f:Addr}{cd ctv pm:Value}{params:Arguments}{body:Expr}{x:V}{u:Value}{tb:TE}{Q:VK}
 (ho:s.heap.get? f=some { cls:=.type "function",data:=.func (kla_fn "<lambda>" qual params body scope (Ai X.env.cells scope.names []) pm cd ctv) }) (hcd:s.heap.CodeRec cd qual)
 (hb:∀us:Value,bindArgs (kla_fn "<lambda>" qual params body scope (Ai X.env.cells scope.names []) pm cd ctv) ⟨[us],[]⟩=pure [(p,us)])
 (he:∀(s:Shared) (H:Hp),PE (lCx X A (p::fr) qual scope f cd (Ai X.env.cells scope.names []) s H) body tb) (r:RelV x u) (h:tb (some x::ix.map λi=>(σ[i]?).join) H Q):
 wpAny (model X.prog X.w) A (call (.ref f) [u]) (EP X pins σ Q) (λ_ _=>False) s:=by
 refine wpAny_call (codeAny_mono (R:=λres s'=>match res with|.ok (.ret u)=>EP X pins σ Q u s'|_=>False) (kla_callFunE hr.depth ho rfl L.co L.gen rfl hcd ?_) ?_)
 .rw[hb];refine wpAny_pure ?_;refine wpAny_newFunctionEnv L.ne (λy hy=>by rw[mem_singleton]at hy;subst hy;exact L.par) (λh' hns hsb=>⟨?_,?_⟩) S.kind
  .have hk:∀b o,s.heap.get? b=some o->h'.get? b=some o:=λb o e=>(hsb.2 b (ne_of_lt (Heap.lt_size e))).trans (Heap.get?_push_of_some _ e);exact I.nolimit.keeps hk
  .have hk:∀b o,s.heap.get? b=some o->h'.get? b=some o:=λb o e=>(hsb.2 b (ne_of_lt (Heap.lt_size e))).trans (Heap.get?_push_of_some _ e);have hns':h'.Ns s.heap.objs.size λy=>if y=p then some u else none:=by
    have e:(λy=>([(p,u)]:List (Str×Value)).reverse.lookup y)=λy=>if y=p then some u else none:=by
     funext y
     simp only[List.reverse_cons,List.reverse_nil,nil_append,lookup_cons,List.lookup_nil];by_cases hy:y=p
     .subst hy;simp
     .have hb':(y==p)=false:=beq_eq_false_iff_ne.mpr hy;simp[hb',hy]
    rw[<- e];exact hns
   have J:=W0 (t':=s.toks+1) (qual:=qual) (f:=f) (cd:=cd) S L I hf hr.hd hk hns' r;refine kla_codeExpr (wpAny_mono (he s H [] _ _ H Q J h) (λv s' hv=>?_) λ_ _ z=>z.elim);obtain⟨y,H',J',ry,q⟩:=hv;obtain⟨hh,g,d,t,os'⟩:=s';obtain rfl:os'=s.os:=J'.os;exact⟨y,H',I.call (h':=hh) (g':=g) (d':=d) (t':=t) (ch:=[]) J'.base J'.hok J'.bare (λb z=>absurd z (by simp)),ry,q⟩
 .intro res s' hq;cases res with
  |error e=>exact hq
  |ok fl=>
   cases fl with
   |ret u=>exact hq
   |next=>exact hq
   |brk=>exact hq
   |cont=>exact hq
end
def cdF(c:Addr)(q:Str):Heap->Prop:=λh=>h.CodeRec (.ref c) q
def JF(H:Hp)(q:Str)(pos:Pos)(ps:Array Value):Prop:=ps=#[]∨∃c,ps=#[rawInt pos.line,rawInt pos.col,.ref c]/\H c=some (.ext (cdF c q))
def TabStep(P:Addr)(q:Str)(pos:Pos)(H H':Hp):Prop:=H'=H∨∃c,H c=none/\c≠P/\H'=upd (upd H P (.tbl #[rawInt pos.line,rawInt pos.col,.ref c])) c (.ext (cdF c q))
structure LamAt(X:Cx)(c P:Addr):Prop where
 code:X.env.code=.ref c
 hd:CodeHd X.base c P
 bl:X.base.BuiltinsAt X.mg P
section
variable{X:Cx}{pins:List (Addr×Obj)}{σ:St}{H:Hp}{s:Shared}{c P:Addr}{scope:Scope}{fr:List Str}{ix:List Nat}
def Vz(I:Inv X pins σ H s){q:Str}{ps:Array Value}{ps':Array Value}(hP:H P=some (.tbl ps)){c':Addr}{h':Heap}{t':Nat}(hx:∀b o,b≠P->s.heap.get? b=some o->h'.get? b=some o)(hc:s.heap.objs.size<=c')
 (hrec:h'.CodeRec (.ref c') q) (htb:h'.get? P=some (tabObj (ps++ps'))):Inv X pins σ (upd (upd H P (.tbl (ps++ps'))) c' (.ext (cdF c' q))) { s with heap:=h',toks:=t' }:=by
 have hcn:H c'=none:=I.hok.fresh hc;have hPc:P≠c':=AV hP hcn;have nP:∀b,H b=none->b≠P:=λb n z=>by subst z;rw[hP]at n;cases n
 have other:∀b,b≠P->b≠c'->upd (upd H P (.tbl (ps++ps'))) c' (.ext (cdF c' q)) b=H b:=λb h1 h2=>by rw[AE h2,AE h1]
 have ne':∀b u,H b=some u->b≠c':=λb u e=>AV e hcn;refine I.un (h':=h') (t':=t') ⟨λb o e n _ _=>hx b o (nP b n) e,λb o e n _ _=>⟨o.slots,hx b o (nP b n) e⟩,λb o e n _=>?_,λb o e _=>?_,λb xs e=>?_,λb o u e=>?_,λb qs e=>?_⟩ λb u e=>?_
 .rw[other b (nP b n) (ne_of_lt (lt_of_lt_of_le (Heap.lt_size e) hc))];exact n
 .by_cases z:b=P
  .subst z;exact⟨_,htb⟩
  .exact⟨o,hx b o z e⟩
 .rw[other b (λz=>by subst z;rw[hP]at e;cases e) (ne' b _ e)];exact e
 .rw[other b (λz=>by subst z;rw[hP]at e;cases e) (ne' b _ e)];exact e
 .by_cases z:b=P
  .subst z;rw[hP]at e;cases e;exact⟨ps',by rw[AE hPc,AL]⟩
  .exact⟨#[],by rw[other b z (ne' b _ e),e];simp⟩
 .by_cases z:b=c'
  .subst z;rw[AL]at e;cases e;obtain⟨c0,o,vs,t,e0,r⟩:=id hrec;cases e0;refine⟨hrec,⟨o,r.1⟩,λh1 h2 q1 k=>?_⟩;obtain⟨c1,o1,vs1,t1,e1,g1,r1⟩:=q1;cases e1;exact⟨_,o1,vs1,t1,rfl,k _ g1,r1⟩
  .by_cases z2:b=P
   .subst z2;rw[AE hPc,AL]at e;cases e;exact htb
   .rw[other b z2 z]at e;refine(I.hok b u e).stay (λd v hd q=>hx d v ?_ q) (λd q=>?_) λd xs q=>?_
    .rcases hd with rfl|hd
     .exact z2
     .intro y;subst y;rw[hP]at hd;cases hd
    .rw[other d (λy=>by subst y;rw[hP]at q;cases q) (ne' d _ q)];exact q
    .rw[other d (λy=>by subst y;rw[hP]at q;cases q) (ne' d _ q)];exact q
structure Made(X:Cx)(scope:Scope)(params:Arguments)(body:Expr)(P:Addr)(q:Str)(pos:Pos)(s:Shared)(H H':Hp)(f:Addr)(cd ctv:Value)(s':Shared):Prop where
 fn:s'.heap.get? f=some { cls:=.type "function",data:=.func (kla_fn "<lambda>" q params body scope (Ai X.env.cells scope.names []) ((X.mg "__name__").getD .none) cd ctv) }
 cdc:∃c,cd=.ref c/\H' c=some (.ext (cdF c q))
 step:TabStep P q pos H H'
 new:s.heap.objs.size<=f
 fre:H' f=none
def T5(S:CSc X scope fr ix)(LA:LamAt X c P)(I:Inv X pins σ H s){A:Around}{E:Value->Shared->Prop}{params:Arguments}{body:Expr}{pos:Pos}{ps:Array Value}{Q:Value->Shared->Prop}(hdef:defaultsOf params X.env=([],[]))
 (hP:H P=some (.tbl ps)) (hg:JF H (X.env.qual++"<lambda>") pos ps)
 (h:∀f cd ctv H' s',Inv X pins σ H' s'->Made X scope params body P (X.env.qual++"<lambda>") pos s H H' f cd ctv s'->Q (.ref f) s'):
 wpAny (model X.prog X.w) A (eval (.Lambda params body scope pos) X.env) Q E s:=by
 have hcl:closureFor scope X.env=pure (Ai X.env.cells scope.names []):=EN (S.clos I.ok);have hns:=I.mod.glob.keeps I.bk;have hb:=LA.bl.keeps I.bk;have hcd:=LA.hd.keeps I.bk;have hobj:s.heap.get? P=some (tabObj ps):=I.hok P _ hP;have hgP:mainGlobals≠P:=λz=>by
  obtain⟨o,es,ep,e,hd,_⟩:=hns;rw[z,hobj]at e;cases e;cases hd
 refine kla_eval hdef ?_;rcases hg with rfl|⟨c',rfl,hc'⟩
 .refine kla_makeFunction hcl I.ok.glob hns LA.code hcd hobj trivial rfl hgP hb λc' ctv h' tk hx hge hlt hrec htb=>?_;have hx':∀b o,b≠P->s.heap.get? b=some o->(h'.push (kla_obj "<lambda>" (X.env.qual++"<lambda>") params body scope (Ai X.env.cells scope.names []) ((X.mg "__name__").getD .none) c' ctv)).get? b=some o:=λb o n e=>Heap.get?_push_of_some _ (hx b o n e);have J:=Vz (t':=tk) I hP hx' hge (hrec.push _) (Heap.get?_push_of_some _ htb);refine h _ _ ctv _ _ J ⟨Heap.get?_push_size _ rfl,⟨c',rfl,AL⟩,.inr ⟨c',I.hok.fresh hge,(AV hP (I.hok.fresh hge)).symm,?_⟩,?_,?_⟩
  .simp
  .exact le_trans hge (le_of_lt hlt)
  .have hs:s.heap.objs.size<=h'.objs.size:=le_trans hge (le_of_lt hlt);rw[AE (ne_of_gt hlt),AE (ne_of_gt (lt_of_lt_of_le (Heap.lt_size hobj) hs))];exact I.hok.fresh hs
 .have hrec:s.heap.CodeRec (.ref c') (X.env.qual++"<lambda>"):=(I.hok c' _ hc').1;have hf:codeAmong pos (#[rawInt pos.line,rawInt pos.col,Value.ref c']:Array Value).toList=some (.ref c'):=by simp[codeAmong,rawInt]
  refine kla_makeFunctionHit hcl I.ok.glob hns LA.code hcd hobj (by simp[TriplesOk,rawInt]) hf hb λctv h' tk hk hsz=>?_;have hk':∀b o,s.heap.get? b=some o->(h'.push { cls:=.type "function",data:=.func (kla_fn "<lambda>" (X.env.qual++"<lambda>") params body scope (Ai X.env.cells scope.names []) ((X.mg "__name__").getD .none) (.ref c') ctv) }).get? b=some o:=λb o e=>Heap.get?_push_of_some _ (hk b o e);exact h _ _ ctv _ _ (I.kept (t':=tk) hk') ⟨Heap.get?_push_size _ rfl,⟨c',rfl,hc'⟩,.inl rfl,hsz,I.hok.fresh hsz⟩
end
end L2
namespace L2
open PySem PySem.Spec PyProof.Rows
inductive I where
 |non|bl (b:Bool)|int (i:Int)|str (x:Str)|tup (ds:List I)
inductive D where
 |im (i:I)|mu (n:Nat)|tm (ds:List D)|ro (ns:List Int)
inductive MO where
 |lst (ds:List D)|dic (kvs:List (Key×D))
abbrev Hd:=List MO
abbrev Ls:=List (Option D)
def RoL(K:PySem.W.Frag)(H:Hp)(a:Addr)(xs:List V):Prop:=(∃o,H a=some (.frz o (.lst xs))) ∨
 ∃(o:Obj) (its:Array Value) (n:Nat),K.lookup a=some o/\o.cls=.type "list"/\o.dict=none/\o.data=.seq its n/\its.size<=sizeLine/\Vals xs its.toList
def RoL.sq{K:PySem.W.Frag}{H:Hp}{a:Addr}{xs:List V}(h:RoL K H a xs):SqL K H a xs:=by
 rcases h with⟨o,h⟩|h
 .exact .inl (.inr ⟨o,h⟩)
 .exact .inr h
def RoL.grow{K:PySem.W.Frag}{H H':Hp}{a:Addr}{xs:List V}(g:Grow H H')(h:RoL K H a xs):RoL K H' a xs:=by
 rcases h with⟨o,h⟩|h
 .exact .inl ⟨o,g.frz _ _ _ h⟩
 .exact .inr h
def Bn(n:Nat):Prop:=n<=sizeLine
def F7(n:Nat):Prop:=n<sizeLine
def Dw(i j:Int):Prop:=(-(2^64)<i/\i<2^64)∨(-(2^64)<j/\j<2^64)
def OY(i j:Int):Prop:=0<=j/\j<=1000000/\i.natAbs<2^64
def J9(j:Int):Prop:=0<j/\j<1073741824
def DE(j:Int):Prop:=0<j
def JS(j:Int):Prop:=-(2^62)<=j/\j<2^62
def Wy(i j:Int):Prop:=(-(2^62)<=i/\i<2^62)/\-(2^62)<=j/\j<2^62
def Kp(j:Int):Prop:=j<2^24/\-(2^62)<=j
def Tk(i j:Int):Prop:=(-(2^62)<=i/\i<2^62)/\(-(2^62)<=j/\j<2^62)/\(j-i).toNat<=2^24
def Af{n:Nat}(h:n<=1000000):Bn n:=le_trans h (by rw[sizeLine_eq];decide)
def Cq{n:Nat}(h:n<1000000):F7 n:=lt_of_lt_of_le h (by rw[sizeLine_eq];decide)
def DP{i j:Int}(a:-1000000000000<=i)(b:i<=1000000000000):Dw i j:=.inl ⟨by omega,by omega⟩
def HK{j:Int}(a:-1000000000000<=j)(b:j<=1000000000000):JS j:=⟨by omega,by omega⟩
def Lb{j:Int}(a:-1000000000000<=j)(b:j<=1000000):Kp j:=⟨by omega,by omega⟩
section
variable(K:PySem.W.Frag)
mutual
def RI(H:Hp):I->V->Prop
 |.non,v=>v=.non
 |.bl b,v=>v=.bl b
 |.int i,v=>v=.int i
 |.str x,v=>v=.str x
 |.tup ds,v=>∃a xs,v=.ref a/\SqT K H a xs/\RIs H ds xs
def RIs(H:Hp):List I->List V->Prop
 |[],xs=>xs=[]
 |d::ds,xs=>∃x r,xs=x::r/\RI H d x/\RIs H ds r
end
mutual
def RD(ρ:List Addr)(H:Hp):D->V->Prop
 |.im i,v=>RI K H i v
 |.mu n,v=>∃a,ρ[n]?=some a/\v=.ref a
 |.tm ds,v=>∃a xs,v=.ref a/\SqT K H a xs/\RDs ρ H ds xs
 |.ro ns,v=>∃a,v=.ref a/\RoL K H a (ns.map V.int)
def RDs(ρ:List Addr)(H:Hp):List D->List V->Prop
 |[],xs=>xs=[]
 |d::ds,xs=>∃x r,xs=x::r/\RD ρ H d x/\RDs ρ H ds r
end
def RKs(ρ:List Addr)(H:Hp):List (Key×D)->List (Key×V)->Prop
 |[],xs=>xs=[]
 |d::ds,xs=>∃x r,xs=x::r/\x.1=d.1/\RD K ρ H d.2 x.2/\RKs ρ H ds r
def RC(ρ:List Addr)(H:Hp):MO->HO->Prop
 |.lst ds,o=>∃xs,o=.lst xs/\RDs K ρ H ds xs
 |.dic kvs,o=>∃kv,o=.dK kv/\RKs K ρ H kvs kv
def Km:List Value->List (Addr×Str×Pos)
 |.ref P::.str q _::.int l _::.int c _::r=>(P,q,⟨l.toNat,c.toNat,0,0⟩)::Km r
 |_=>[]
def ZS(o:Obj):List (Addr×Str×Pos):=match o.cls,o.data with
 |.str _ _,.fields vs=>Km vs.toList
 |_,_=>[]
def Ch(K:PySem.W.Frag):List (Addr×Str×Pos):=match K.getLast? with
 |some p=>ZS p.2
 |none=>[]
def TabsOk(K:PySem.W.Frag)(H:Hp):Prop:=∀x∈Ch K,∃ps,H x.1=some (.tbl ps)/\JF H x.2.1 x.2.2 ps
structure RH(ρ:List Addr)(H:Hp)(hd:Hd):Prop where
 len:ρ.length=hd.length
 nd:ρ.Nodup
 tabs:TabsOk K H
 ob:∀(n:Nat) (o:MO) (a:Addr),hd[n]?=some o->ρ[n]?=some a->∃ho,H a=some ho/\RC K ρ H o ho
structure RL(ρ:List Addr)(H:Hp)(ls:Ls)(σ:St):Prop where
 len:ls.length=σ.length
 ob:∀(i:Nat) (d:D),ls[i]?=some (some d)->∃v,σ[i]?=some (some v)/\RD K ρ H d v
end
structure Ext(ρ:List Addr)(H:Hp)(ρ':List Addr)(H':Hp):Prop where
 pre:∃r,ρ'=ρ++r/\∀b∈r,H b=none
 keep:∀b o,H b=some o->b∉ρ->(∀ps,o≠.tbl ps)->H' b=some o
 tab:∀b ps,H b=some (.tbl ps)->∃ps',H' b=some (.tbl ps')
def nt{o:HO}(h:match o with|.tbl _=>False|_=>True:=by trivial):∀ps,o≠.tbl ps:=λps e=>by subst e;exact h
def TabsOk.upd{K:PySem.W.Frag}{H:Hp}(t:TabsOk K H){a:Addr}{ho:HO}(h1:∀ps,H a≠some (.tbl ps))(h2:∀φ,H a≠some (.ext φ)):TabsOk K (upd H a ho):=λx hx=>by
 obtain⟨ps,e,g⟩:=t x hx;have ne:x.1≠a:=λz=>h1 ps (by rw[<- z];exact e);refine⟨ps,by rw[AE ne];exact e,?_⟩;rcases g with g|⟨c,g1,g2⟩
 .exact .inl g
 .have nc:c≠a:=λz=>h2 _ (by rw[<- z];exact g2);exact .inr ⟨c,g1,by rw[AE nc];exact g2⟩
section
variable{K:PySem.W.Frag}{ρ ρ' ρ1 ρ2:List Addr}{H H' H1 H2:Hp}{hd hd' hd1:Hd}
mutual
def RI.grow(g:Grow H H'):∀{i:I} {v:V},RI K H i v->RI K H' i v
 |.non,v,h=>by simpa only[RI]using h
 |.bl b,v,h=>by simpa only[RI]using h
 |.int b,v,h=>by simpa only[RI]using h
 |.str b,v,h=>by simpa only[RI]using h
 |.tup ds,v,h=>by
  simp only[RI]at h ⊢;obtain⟨a,xs,e,q,r⟩:=h;exact⟨a,xs,e,g.sq q,RIs.grow g r⟩
def RIs.grow(g:Grow H H'):∀{i:List I} {v:List V},RIs K H i v->RIs K H' i v
 |[],v,h=>by simpa only[RIs]using h
 |d::ds,v,h=>by
  simp only[RIs]at h ⊢;obtain⟨x,r,e,q,z⟩:=h;exact⟨x,r,e,q.grow g,RIs.grow g z⟩
end
def RH.mut(h:RH K ρ H hd){a:Addr}(m:a∈ρ):(∃xs,H a=some (.lst xs))∨∃kv,H a=some (.dK kv):=by
 obtain⟨n,e⟩:=mem_iff_getElem?.mp m;have hn:n<hd.length:=by rw[<- h.len];exact(List.getElem?_eq_some_iff.mp e).1
 obtain⟨ho,e1,e2⟩:=h.ob n hd[n] a (by simp[hn]) e;cases q:hd[n]with
 |lst ds=>rw[q]at e2;obtain⟨xs,rfl,_⟩:=e2;exact .inl ⟨xs,e1⟩
 |dic ds=>rw[q]at e2;obtain⟨xs,rfl,_⟩:=e2;exact .inr ⟨xs,e1⟩
def RH.tup_out(h:RH K ρ H hd){a:Addr}{xs:List V}(e:H a=some (.tup xs)):a∉ρ:=λm=>by
 rcases h.mut m with⟨y,z⟩|⟨y,z⟩<;>(rw[e]at z;cases z)
def RH.frz_out(h:RH K ρ H hd){a:Addr}{o:Obj}{u:HO}(e:H a=some (.frz o u)):a∉ρ:=λm=>by
 rcases h.mut m with⟨y,z⟩|⟨y,z⟩<;>(rw[e]at z;cases z)
def Ext.grow(e:Ext ρ H ρ' H')(h:RH K ρ H hd):Grow H H':=⟨λb xs q=>e.keep b _ q (h.tup_out q) nt,λb o u q=>e.keep b _ q (h.frz_out q) nt⟩
def Ext.refl:Ext ρ H ρ H:=⟨⟨[],by simp,by simp⟩,λ_ _ h _ _=>h,λ_ ps h=>⟨ps,h⟩⟩
def Ext.trans(e:Ext ρ H ρ1 H1)(h0:RH K ρ1 H1 hd1)(e2:Ext ρ1 H1 ρ2 H2):Ext ρ H ρ2 H2:=by
 obtain⟨r1,rfl,f1⟩:=e.pre;obtain⟨r2,rfl,f2⟩:=e2.pre;refine⟨⟨r1++r2,by simp,λb m=>?_⟩,λb o q n t=>?_,λb ps q=>?_⟩
 .rcases mem_append.mp m with m|m
  .exact f1 b m
  .have z:=f2 b m;cases q:H b with
   |none=>rfl
   |some o=>
    by_cases n:b∈ρ
    .rcases h0.mut (mem_append_left r1 n)with⟨y,w⟩|⟨y,w⟩<;>(rw[z]at w;cases w)
    .by_cases t:∃ps,o=.tbl ps
     .obtain⟨ps,rfl⟩:=t;obtain⟨ps',this⟩:=e.tab b ps q;rw[z]at this;cases this
     .have:=e.keep b o q n λps y=>t ⟨ps,y⟩;rw[z]at this;cases this
 .refine e2.keep b o (e.keep b o q n t) (λm=>?_) t;rcases mem_append.mp m with m|m
  .exact n m
  .have:=f1 b m;rw[q]at this;cases this
 .obtain⟨ps',q'⟩:=e.tab b ps q;exact e2.tab b ps' q'
mutual
def RD.mono(g:Grow H H')(r:List Addr):∀{d:D} {v:V},RD K ρ H d v->RD K (ρ++r) H' d v
 |.im i,v,h=>by simp only[RD]at h ⊢;exact h.grow g
 |.mu n,v,h=>by
  simp only[RD]at h ⊢;obtain⟨a,e,q⟩:=h;exact⟨a,by rw[List.getElem?_append_left (List.getElem?_eq_some_iff.mp e).1];exact e,q⟩
 |.tm ds,v,h=>by
  simp only[RD]at h ⊢;obtain⟨a,xs,e,q,z⟩:=h;exact⟨a,xs,e,g.sq q,RDs.mono g r z⟩
 |.ro ns,v,h=>by
  simp only[RD]at h ⊢;obtain⟨a,e,q⟩:=h;exact⟨a,e,q.grow g⟩
def RDs.mono(g:Grow H H')(r:List Addr):∀{d:List D} {v:List V},RDs K ρ H d v->RDs K (ρ++r) H' d v
 |[],v,h=>by simpa only[RDs]using h
 |d::ds,v,h=>by
  simp only[RDs]at h ⊢;obtain⟨x,r',e,q,z⟩:=h;exact⟨x,r',e,q.mono g r,RDs.mono g r z⟩
end
def RKs.mono(g:Grow H H')(r:List Addr):∀{d:List (Key×D)} {v:List (Key×V)},RKs K ρ H d v->RKs K (ρ++r) H' d v
 |[],v,h=>by simpa only[RKs]using h
 |d::ds,v,h=>by
  simp only[RKs]at h ⊢;obtain⟨x,r',e,q1,q,z⟩:=h;exact⟨x,r',e,q1,q.mono g r,RKs.mono g r z⟩
def RC.mono(g:Grow H H')(r:List Addr){o:MO}{ho:HO}(h:RC K ρ H o ho):RC K (ρ++r) H' o ho:=by
 cases o with
 |lst ds=>obtain⟨xs,e,q⟩:=h;exact⟨xs,e,q.mono g r⟩
 |dic ds=>obtain⟨xs,e,q⟩:=h;exact⟨xs,e,q.mono g r⟩
def RD.ext(h:RH K ρ H hd)(e:Ext ρ H ρ' H'){d:D}{v:V}(q:RD K ρ H d v):RD K ρ' H' d v:=by
 obtain⟨r,rfl,_⟩:=e.pre;exact q.mono (e.grow h) r
def RDs.ext(h:RH K ρ H hd)(e:Ext ρ H ρ' H'){d:List D}{v:List V}(q:RDs K ρ H d v):RDs K ρ' H' d v:=by
 obtain⟨r,rfl,_⟩:=e.pre;exact q.mono (e.grow h) r
def RL.ext(h:RH K ρ H hd)(e:Ext ρ H ρ' H'){ls:Ls}{σ:St}(q:RL K ρ H ls σ):RL K ρ' H' ls σ:=
 ⟨q.len,λi d z=>let ⟨v,a,b⟩:=q.ob i d z;⟨v,a,b.ext h e⟩⟩
def RDs.len:∀{ds:List D} {xs:List V},RDs K ρ H ds xs->xs.length=ds.length
 |[],xs,h=>by simp only[RDs]at h;rw[h];rfl
 |d::ds,xs,h=>by
  simp only[RDs]at h;obtain⟨x,r,rfl,_,z⟩:=h;simp[RDs.len z]
def RDs.get:∀{ds:List D} {xs:List V} {i:Nat} {d:D},RDs K ρ H ds xs->ds[i]?=some d->∃x,xs[i]?=some x/\RD K ρ H d x
 |[],xs,i,d,h,e=>by simp at e
 |d::ds,xs,0,e,h,q=>by
  simp only[RDs]at h;obtain⟨x,r,rfl,z,_⟩:=h;simp at q;subst q;exact⟨x,rfl,z⟩
 |d::ds,xs,i+1,e,h,q=>by
  simp only[RDs]at h;obtain⟨x,r,rfl,_,z⟩:=h;obtain⟨y,a,b⟩:=RDs.get (i:=i) z (by simpa using q);exact⟨y,by simpa using a,b⟩
def RDs.nil:RDs K ρ H [] []:=by simp[RDs]
def RDs.cons{d:D}{v:V}{ds:List D}{vs:List V}(h:RD K ρ H d v)(t:RDs K ρ H ds vs):RDs K ρ H (d::ds) (v::vs):=by
 simp only[RDs];exact⟨v,vs,rfl,h,t⟩
def RDs.app:∀{ds es:List D} {xs ys:List V},RDs K ρ H ds xs->RDs K ρ H es ys->RDs K ρ H (ds++es) (xs++ys)
 |[],es,xs,ys,h,t=>by simp only[RDs]at h;subst h;simpa using t
 |d::ds,es,xs,ys,h,t=>by
  simp only[RDs]at h;obtain⟨x,r,rfl,z,q⟩:=h;simp only[cons_append];exact .cons z (q.app t)
def RDs.set:∀{ds:List D} {xs:List V} {d:D} {v:V} (i:Nat),RDs K ρ H ds xs->RD K ρ H d v->RDs K ρ H (ds.set i d) (xs.set i v)
 |[],xs,d,v,i,h,t=>by simp only[RDs]at h;subst h;simp[RDs]
 |d::ds,xs,e,v,0,h,t=>by
  simp only[RDs]at h;obtain⟨x,r,rfl,z,q⟩:=h;simpa using RDs.cons t q
 |d::ds,xs,e,v,i+1,h,t=>by
  simp only[RDs]at h;obtain⟨x,r,rfl,z,q⟩:=h;simpa using RDs.cons z (q.set i t)
def RDs.drop:∀{ds:List D} {xs:List V} (n:Nat),RDs K ρ H ds xs->RDs K ρ H (ds.drop n) (xs.drop n)
 |ds,xs,0,h=>by simpa using h
 |[],xs,n+1,h=>by simp only[RDs]at h;subst h;simp[RDs]
 |d::ds,xs,n+1,h=>by
  simp only[RDs]at h;obtain⟨x,r,rfl,z,q⟩:=h;simpa using q.drop n
def RDs.take:∀{ds:List D} {xs:List V} (n:Nat),RDs K ρ H ds xs->RDs K ρ H (ds.take n) (xs.take n)
 |ds,xs,0,h=>by simp[RDs]
 |[],xs,n+1,h=>by simp only[RDs]at h;subst h;simp[RDs]
 |d::ds,xs,n+1,h=>by
  simp only[RDs]at h;obtain⟨x,r,rfl,z,q⟩:=h;simpa using RDs.cons z (q.take n)
def RIs.ds:∀{is:List I} {xs:List V},RIs K H is xs->RDs K ρ H (is.map D.im) xs
 |[],xs,h=>by simpa only[RIs,RDs,map_nil]using h
 |i::is,xs,h=>by
  simp only[RIs]at h;obtain⟨x,r,rfl,z,q⟩:=h;exact .cons (by simpa only[RD]using z) q.ds
def RDs.is:∀{is:List I} {xs:List V},RDs K ρ H (is.map D.im) xs->RIs K H is xs
 |[],xs,h=>by simpa only[RIs,RDs,map_nil]using h
 |i::is,xs,h=>by
  simp only[map_cons,RDs]at h;obtain⟨x,r,rfl,z,q⟩:=h;simp only[RIs];exact⟨x,r,rfl,by simpa only[RD]using z,q.is⟩
def RH.put(h:RH K ρ H hd){n:Nat}{a:Addr}(hn:ρ[n]?=some a){o:MO}{ho:HO}(c:RC K ρ H o ho):RH K ρ (upd H a ho) (hd.set n o)/\Ext ρ H ρ (upd H a ho):=by
 have ha:=h.mut (mem_of_getElem? hn);have n1:∀ps,H a≠some (.tbl ps):=λps e=>by rcases ha with⟨y,z⟩|⟨y,z⟩<;>(rw[e]at z;cases z)
 have n2:∀φ,H a≠some (.ext φ):=λps e=>by rcases ha with⟨y,z⟩|⟨y,z⟩<;>(rw[e]at z;cases z)
 have ex:Ext ρ H ρ (upd H a ho):=⟨⟨[],by simp,by simp⟩,λb o q m _=>by
  have:b≠a:=λz=>m (by rw[z];exact mem_of_getElem? hn);rw[AE this];exact q,λb ps q=>⟨ps,(AE (show b≠a from λz=>n1 ps (by rw[<- z];exact q))).trans q⟩⟩
 have gr:=ex.grow h;refine⟨⟨by simp[h.len],h.nd,h.tabs.upd n1 n2,λm o' b e1 e2=>?_⟩,ex⟩;have hm:m<hd.length:=by rw[<- h.len];exact(List.getElem?_eq_some_iff.mp e2).1
 by_cases hmn:m=n
 .subst hmn;rw[hn]at e2;cases e2;rw[List.getElem?_set_self hm]at e1;cases e1;exact⟨ho,AL,by simpa using c.mono gr []⟩
 .rw[List.getElem?_set_ne (λz=>hmn z.symm)]at e1;obtain⟨ho',q1,q2⟩:=h.ob m o' b e1 e2;have:b≠a:=λz=>by
   subst z;have l1:=(List.getElem?_eq_some_iff.mp e2).1;have l2:=(List.getElem?_eq_some_iff.mp hn).1;exact hmn ((List.getElem?_inj l1 h.nd).mp (e2.trans hn.symm))
  exact⟨ho',by rw[AE this];exact q1,by simpa using q2.mono gr []⟩
def RH.lst(h:RH K ρ H hd){n:Nat}{a:Addr}{ds:List D}(hn:ρ[n]?=some a)(e:hd[n]?=some (.lst ds)):∃xs,H a=some (.lst xs)/\RDs K ρ H ds xs:=by
 obtain⟨ho,q,xs,rfl,r⟩:=h.ob n _ a e hn;exact⟨xs,q,r⟩
def RH.dic(h:RH K ρ H hd){n:Nat}{a:Addr}{ds:List (Key×D)}(hn:ρ[n]?=some a)(e:hd[n]?=some (.dic ds)):∃xs,H a=some (.dK xs)/\RKs K ρ H ds xs:=by
 obtain⟨ho,q,xs,rfl,r⟩:=h.ob n _ a e hn;exact⟨xs,q,r⟩
def RH.hid(h:RH K ρ H hd){a:Addr}(ha:H a=none){ho:HO}:RH K ρ (upd H a ho) hd/\Ext ρ H ρ (upd H a ho):=by
 have out:a∉ρ:=λm=>by rcases h.mut m with⟨y,z⟩|⟨y,z⟩<;>(rw[ha]at z;cases z)
 have ex:Ext ρ H ρ (upd H a ho):=⟨⟨[],by simp,by simp⟩,λb o q n _=>by rw[AE (AV q ha)];exact q,λb ps q=>⟨ps,by rw[AE (AV q ha)];exact q⟩⟩
 have gr:=ex.grow h;refine⟨⟨h.len,h.nd,h.tabs.upd (by simp[ha]) (by simp[ha]),λm o' b e1 e2=>?_⟩,ex⟩;obtain⟨ho',q1,q2⟩:=h.ob m o' b e1 e2;exact⟨ho',by rw[AE (AV q1 ha)];exact q1,by simpa using q2.mono gr []⟩
def RH.hput(h:RH K ρ H hd){a:Addr}(out:a∉ρ){xs:List V}{ho:HO}(hl:H a=some (.lst xs)):RH K ρ (upd H a ho) hd:=by
 have gr:Grow H (upd H a ho):=Grow.refl.put (.lst hl);refine⟨h.len,h.nd,h.tabs.upd (by simp[hl]) (by simp[hl]),λm o' b e1 e2=>?_⟩;obtain⟨ho',q1,q2⟩:=h.ob m o' b e1 e2;have:b≠a:=λz=>out (by rw[<- z];exact mem_of_getElem? e2);exact⟨ho',by rw[AE this];exact q1,by simpa using q2.mono gr []⟩
end
end L2
namespace L2
open PySem PySem.Spec PyProof.Rows
abbrev ME:=Ls->Hd->Option (D×Hd)
abbrev MT:=Ls->Hd->Option (Bool×Hd)
abbrev MA:=Ls->Hd->Option (List D×Hd)
inductive Fl where
 |nx (ls:Ls)|rt (d:D)|bk (ls:Ls)|ct (ls:Ls)
abbrev MS:=Ls->Hd->Option (Fl×Hd)
section
variable(K:PySem.W.Frag)
def RE(t:TE)(m:ME):Prop:=∀(ρ:List Addr) (σ:St) (H:Hp) (hd:Hd) (ls:Ls) (Q:VK) (d:D) (hd':Hd),RH K ρ H hd->RL K ρ H ls σ->m ls hd=some (d,hd') ->
 (∀ρ' H' v,Ext ρ H ρ' H'->RH K ρ' H' hd'->RD K ρ' H' d v->Q v H')->t σ H Q
def RT(t:TT)(m:MT):Prop:=∀(ρ:List Addr) (σ:St) (H:Hp) (hd:Hd) (ls:Ls) (Q:Bool->Hp->Prop) (d:Bool) (hd':Hd),RH K ρ H hd->RL K ρ H ls σ->m ls hd=some (d,hd') ->
 (∀ρ' H',Ext ρ H ρ' H'->RH K ρ' H' hd'->Q d H')->t σ H Q
def RA(t:TA)(m:MA):Prop:=∀(ρ:List Addr) (σ:St) (H:Hp) (hd:Hd) (ls:Ls) (Q:List V->Hp->Prop) (d:List D) (hd':Hd),RH K ρ H hd->RL K ρ H ls σ->m ls hd=some (d,hd') ->
 (∀ρ' H' v,Ext ρ H ρ' H'->RH K ρ' H' hd'->RDs K ρ' H' d v->Q v H')->t σ H Q
def RN(t:TE)(m:MA):Prop:=∀(ρ:List Addr) (σ:St) (H:Hp) (hd:Hd) (ls:Ls) (Q:VK) (d:List D) (hd':Hd),RH K ρ H hd->RL K ρ H ls σ->m ls hd=some (d,hd') ->
 (∀ρ' H' a xs,Ext ρ H ρ' H'->RH K ρ' H' hd'->H a=none->a∉ρ'->H' a=some (.lst xs)->RDs K ρ' H' d xs->Q (.ref a) H')->t σ H Q
def aP(E:Ends)(ρ:List Addr)(H:Hp):Fl->Prop
 |.nx ls=>∀σ,RL K ρ H ls σ->E.nx σ H
 |.bk ls=>∀σ,RL K ρ H ls σ->E.bk σ H
 |.ct ls=>∀σ,RL K ρ H ls σ->E.ct σ H
 |.rt d=>∀v,RD K ρ H d v->E.rt v H
def RS(t:TS)(m:MS):Prop:=∀(ρ:List Addr) (σ:St) (H:Hp) (hd:Hd) (ls:Ls) (E:Ends) (f:Fl) (hd':Hd),RH K ρ H hd->RL K ρ H ls σ->m ls hd=some (f,hd') ->
 (∀ρ' H',Ext ρ H ρ' H'->RH K ρ' H' hd'->aP K E ρ' H' f)->t E σ H
def RB(r:R2)(f:D->D->Hd->Option (D×Hd)):Prop:=∀(ρ:List Addr) (H:Hp) (hd:Hd) (d e:D) (v u:V) (Q:VK) (z:D) (hd':Hd),RH K ρ H hd->RD K ρ H d v->RD K ρ H e u->f d e hd=some (z,hd') ->
 (∀ρ' H' w,Ext ρ H ρ' H'->RH K ρ' H' hd'->RD K ρ' H' z w->Q w H')->r v u H Q
def RF(r:List V->Hp->VK->Prop)(f:List D->Hd->Option (D×Hd)):Prop:=∀(ρ:List Addr) (H:Hp) (hd:Hd) (ds:List D) (vs:List V) (Q:VK) (z:D) (hd':Hd),RH K ρ H hd->RDs K ρ H ds vs->f ds hd=some (z,hd') ->
 (∀ρ' H' w,Ext ρ H ρ' H'->RH K ρ' H' hd'->RD K ρ' H' z w->Q w H')->r vs H Q
def RG(tp:Bool)(r:List V->Hp->VK->Prop)(g:List D->Option D):Prop:=∀(ρ:List Addr) (H:Hp) (hd:Hd) (a:Addr) (xs:List V) (ds:List D) (Q:VK) (z:D),RH K ρ H hd->(SqL K H a xs∨(tp=true/\SqT K H a xs))->RDs K ρ H ds xs->g ds=some z ->
 (∀H' w,Ext ρ H ρ H'->RH K ρ H' hd->RD K ρ H' z w->Q w H')->r [.ref a] H Q
end
structure QE(K:PySem.W.Frag)(X:Cx)(e:Expr)(t:TE)(m:ME):Prop where
 p:PE X e t
 r:RE K t m
structure QT(K:PySem.W.Frag)(X:Cx)(e:Expr)(t:TT)(m:MT):Prop where
 p:PT X e t
 r:RT K t m
structure QW(K:PySem.W.Frag)(X:Cx)(e:Expr)(t:TT)(m:MT):Prop where
 p:PW X e t
 r:RT K t m
structure QA(K:PySem.W.Frag)(X:Cx)(e:List Expr)(t:TA)(m:MA):Prop where
 p:PA X e t
 r:RA K t m
structure QN(K:PySem.W.Frag)(X:Cx)(e:Expr)(t:TE)(m:MA):Prop where
 p:PE X e t
 r:RN K t m
structure QS(K:PySem.W.Frag)(X:Cx)(e:Stmt)(t:TS)(m:MS):Prop where
 p:PS X e t
 r:RS K t m
structure QSs(K:PySem.W.Frag)(X:Cx)(e:List Stmt)(t:TS)(m:MS):Prop where
 p:PSs X e t
 r:RS K t m
def Ae:D->Option (List D)
 |.im (.tup is)=>some (is.map .im)
 |.tm ds=>some ds
 |_=>none
def BE(hd:Hd):D->Option (List D)
 |.mu n=>match hd[n]? with
  |some (.lst ds)=>some ds
  |_=>none
 |.ro ns=>some (ns.map λn=>.im (.int n))
 |_=>none
def B3(hd:Hd)(d:D):Option (List D):=match Ae d with
 |some ds=>some ds
 |none=>BE hd d
def BZ:List D->Option (List I)
 |[]=>some []
 |.im i::r=>(BZ r).map (i::·)
 |_::_=>none
def Ab(ds:List D):D:=match BZ ds with
 |some is=>.im (.tup is)
 |none=>.tm ds
def Az:List D->Option (List Int)
 |[]=>some []
 |.im (.int i)::r=>(Az r).map (i::·)
 |_::_=>none
def CK:List D->Option (List Bool)
 |[]=>some []
 |.im (.bl i)::r=>(CK r).map (i::·)
 |_::_=>none
section
variable{K:PySem.W.Frag}{ρ ρ':List Addr}{H H':Hp}{hd hd':Hd}
def GC:∀{ds:List D} {is:List I},BZ ds=some is->ds=is.map .im
 |[],is,h=>by simp[BZ]at h;subst h;rfl
 |.im i::r,is,h=>by
  simp only[BZ,Option.map_eq_some_iff]at h;obtain⟨js,e,rfl⟩:=h;simp[GC e]
 |.mu _::_,is,h=>by simp[BZ]at h
 |.tm _::_,is,h=>by simp[BZ]at h
 |.ro _::_,is,h=>by simp[BZ]at h
def Cn:∀{ds:List D} {is:List Int},Az ds=some is->ds=is.map λi=>.im (.int i)
 |[],is,h=>by simp[Az]at h;subst h;rfl
 |.im (.int i)::r,is,h=>by
  simp only[Az,Option.map_eq_some_iff]at h;obtain⟨js,e,rfl⟩:=h;simp[Cn e]
 |.im (.bl _)::_,is,h=>by simp[Az]at h
 |.im (.str _)::_,is,h=>by simp[Az]at h
 |.im .non::_,is,h=>by simp[Az]at h
 |.im (.tup _)::_,is,h=>by simp[Az]at h
 |.mu _::_,is,h=>by simp[Az]at h
 |.tm _::_,is,h=>by simp[Az]at h
 |.ro _::_,is,h=>by simp[Az]at h
def Jn:∀{ds:List D} {is:List Bool},CK ds=some is->ds=is.map λi=>.im (.bl i)
 |[],is,h=>by simp[CK]at h;subst h;rfl
 |.im (.bl i)::r,is,h=>by
  simp only[CK,Option.map_eq_some_iff]at h;obtain⟨js,e,rfl⟩:=h;simp[Jn e]
 |.im (.int _)::_,is,h=>by simp[CK]at h
 |.im (.str _)::_,is,h=>by simp[CK]at h
 |.im .non::_,is,h=>by simp[CK]at h
 |.im (.tup _)::_,is,h=>by simp[CK]at h
 |.mu _::_,is,h=>by simp[CK]at h
 |.tm _::_,is,h=>by simp[CK]at h
 |.ro _::_,is,h=>by simp[CK]at h
@[simp] theorem RJ(is:List I):BZ (is.map .im)=some is:=by induction is<;>simp_all [BZ]
@[simp] theorem QY(is:List Int):Az (is.map λi=>.im (.int i))=some is:=by induction is<;>simp_all [Az]
@[simp] theorem IH(is:List Bool):CK (is.map λi=>.im (.bl i))=some is:=by induction is<;>simp_all [CK]
def FR:∀{ns:List Int} {xs:List V},RDs K ρ H (ns.map λi=>.im (.int i)) xs->xs=ns.map V.int
 |[],xs,h=>by simpa [RDs]using h
 |n::ns,xs,h=>by
  simp only[map_cons,RDs,RD,RI]at h;obtain⟨x,r,rfl,rfl,z⟩:=h;rw[FR z];rfl
def Ds:∀{ns:List Int},RDs K ρ H (ns.map λi=>.im (.int i)) (ns.map V.int)
 |[]=>by simp[RDs]
 |n::ns=>by simp only[map_cons];exact .cons (by simp[RD,RI]) Ds
def Lf:∀{ns:List Bool} {xs:List V},RDs K ρ H (ns.map λi=>.im (.bl i)) xs->xs=ns.map V.bl
 |[],xs,h=>by simpa [RDs]using h
 |n::ns,xs,h=>by
  simp only[map_cons,RDs,RD,RI]at h;obtain⟨x,r,rfl,rfl,z⟩:=h;rw[Lf z];rfl
def RD.tup{d:D}{v:V}{ds:List D}(h:RD K ρ H d v)(e:Ae d=some ds):∃a xs,v=.ref a/\SqT K H a xs/\RDs K ρ H ds xs:=by
 cases d with
 |im i=>
  cases i with
  |tup is=>
   simp only[Ae,Option.some.injEq]at e;subst e;simp only[RD,RI]at h;obtain⟨a,xs,rfl,q,r⟩:=h;exact⟨a,xs,rfl,q,r.ds⟩
  |_=>simp[Ae]at e
 |tm es=>
  simp only[Ae,Option.some.injEq]at e;subst e;simpa only[RD]using h
 |_=>simp[Ae]at e
def RD.lst{d:D}{v:V}{ds:List D}(hR:RH K ρ H hd)(h:RD K ρ H d v)(e:BE hd d=some ds):∃a xs,v=.ref a/\SqL K H a xs/\RDs K ρ H ds xs:=by
 cases d with
 |mu n=>
  simp only[BE]at e;simp only[RD]at h;obtain⟨a,hn,rfl⟩:=h;split at e
  .next q=>
   cases e;obtain⟨xs,e1,e2⟩:=hR.lst hn q;exact⟨a,xs,rfl,SqL.of e1,e2⟩
  .cases e
 |ro ns=>
  simp only[BE,Option.some.injEq]at e;subst e;simp only[RD]at h;obtain⟨a,rfl,q⟩:=h;exact⟨a,_,rfl,q.sq,Ds⟩
 |_=>simp[BE]at e
def RD.seq{d:D}{v:V}{ds:List D}(hR:RH K ρ H hd)(h:RD K ρ H d v)(e:B3 hd d=some ds):∃a xs,v=.ref a/\(SqL K H a xs∨SqT K H a xs)/\RDs K ρ H ds xs:=by
 unfold B3 at e;split at e
 .next q=>
  cases e;obtain⟨a,xs,e1,e2,e3⟩:=h.tup q;exact⟨a,xs,e1,.inr e2,e3⟩
 .obtain⟨a,xs,e1,e2,e3⟩:=h.lst hR e;exact⟨a,xs,e1,.inl e2,e3⟩
def BS{ds:List D}{a:Addr}{xs:List V}(q:SqT K H a xs)(r:RDs K ρ H ds xs):RD K ρ H (Ab ds) (.ref a):=by
 unfold Ab;split
 .next e=>
  rw[GC e]at r;simp only[RD,RI];exact⟨a,xs,rfl,q,r.is⟩
 .simp only[RD];exact⟨a,xs,rfl,q,r⟩
def A0(i:Nat):ME:=λls hd=>match ls[i]? with
 |some (some d)=>some (d,hd)
 |_=>none
def X9{i:Nat}:RE K (Rh i) (A0 i):=by
 and_intros;unfold A0 at hm;split at hm
 .next e=>
  cases hm;obtain⟨v,e1,e2⟩:=hL.ob i _ e;exact⟨v,e1,hQ ρ H v .refl hR e2⟩
 .cases hm
def mC(i:I):ME:=λ_ hd=>some (.im i,hd)
def OO{v:V}{i:I}(h:∀H,RI K H i v):RE K (tC v) (mC i):=by
 and_intros;cases hm;exact hQ ρ H v .refl hR (by simpa only[RD]using h H)
def mOp(f:D->D->Hd->Option (D×Hd))(ma mb:ME):ME:=λls hd=>(ma ls hd).bind λp=>(mb ls p.2).bind λq=>f p.1 q.1 q.2
def Kq{r:R2}{f:D->D->Hd->Option (D×Hd)}{ta tb:TE}{ma mb:ME}(hr:RB K r f)(ha:RE K ta ma)(hb:RE K tb mb):RE K (tOp r ta tb) (mOp f ma mb):=by
 and_intros;obtain⟨⟨d1,h1⟩,e1,hm⟩:=cu hm;obtain⟨⟨d2,h2⟩,e2,hm⟩:=cu hm;refine ha ρ σ H hd ls _ d1 h1 hR hL e1 λρ1 H1 v1 x1 R1 r1=>?_;refine hb ρ1 σ H1 h1 ls _ d2 h2 R1 (hL.ext hR x1) e2 λρ2 H2 v2 x2 R2 r2=>?_;exact hr ρ2 H2 h2 d1 d2 v1 v2 Q d hd' R2 (r1.ext R1 x2) r2 hm λρ' H' w x3 R3 r3=>hQ ρ' H' w ((x1.trans R1 x2).trans R2 x3) R3 r3
def DT(ta tb:MT):MT:=λls hd=>(ta ls hd).bind λp=>if p.1=true then tb ls p.2 else some (false,p.2)
def mOr(ta tb:MT):MT:=λls hd=>(ta ls hd).bind λp=>if p.1=true then some (true,p.2)else tb ls p.2
def CC(ta:MT):MT:=λls hd=>(ta ls hd).bind λp=>some (!p.1,p.2)
def Ws{ta tb:TT}{ma mb:MT}(ha:RT K ta ma)(hb:RT K tb mb):RT K (Rt ta tb) (DT ma mb):=by
 and_intros;obtain⟨⟨d1,h1⟩,e1,hm⟩:=cu hm;refine ha ρ σ H hd ls _ d1 h1 hR hL e1 λρ1 H1 x1 R1=>?_;cases d1 with
 |true=>
  rw[if_pos rfl]at hm ⊢;exact hb ρ1 σ H1 h1 ls Q d hd' R1 (hL.ext hR x1) hm λρ2 H2 x2 R2=>hQ ρ2 H2 (x1.trans R1 x2) R2
 |false=>
  rw[if_neg Bool.false_ne_true]at hm ⊢;cases hm;exact hQ ρ1 H1 x1 R1
def ZT{ta tb:TT}{ma mb:MT}(ha:RT K ta ma)(hb:RT K tb mb):RT K (tOr ta tb) (mOr ma mb):=by
 and_intros;obtain⟨⟨d1,h1⟩,e1,hm⟩:=cu hm;refine ha ρ σ H hd ls _ d1 h1 hR hL e1 λρ1 H1 x1 R1=>?_;cases d1 with
 |true=>
  rw[if_pos rfl]at hm ⊢;cases hm;exact hQ ρ1 H1 x1 R1
 |false=>
  rw[if_neg Bool.false_ne_true]at hm ⊢;exact hb ρ1 σ H1 h1 ls Q d hd' R1 (hL.ext hR x1) hm λρ2 H2 x2 R2=>hQ ρ2 H2 (x1.trans R1 x2) R2
def Wr{ta:TT}{ma:MT}(ha:RT K ta ma):RT K (Rm ta) (CC ma):=by
 and_intros;obtain⟨⟨d1,h1⟩,e1,hm⟩:=cu hm;cases hm;exact ha ρ σ H hd ls _ d1 h1 hR hL e1 λρ1 H1 x1 R1=>hQ ρ1 H1 x1 R1
open Classical in
def EG(hd:Hd):D->Option Bool
 |.im .non=>some false
 |.im (.bl b)=>some b
 |.im (.int i)=>some (i != 0)
 |.im (.str x)=>if Bn x.length then some ((x.length:Int) != 0)else none
 |.im (.tup is)=>some (!is.isEmpty)
 |.tm is=>some (!is.isEmpty)
 |.ro ns=>some (!ns.isEmpty)
 |.mu n=>match hd[n]? with
  |some (.lst ds)=>some (!ds.isEmpty)
  |some (.dic ds)=>some (!ds.isEmpty)
  |none=>none
def D7{α β:Type}{xs:List α}{ys:List β}(h:xs.length=ys.length):xs.isEmpty=ys.isEmpty:=by
 cases xs<;>cases ys<;>simp_all
def RKs.len:∀{ds:List (Key×D)} {xs:List (Key×V)},RKs K ρ H ds xs->xs.length=ds.length
 |[],xs,h=>by simp only[RKs]at h;rw[h];rfl
 |d::ds,xs,h=>by
  simp only[RKs]at h;obtain⟨x,r,rfl,_,_,z⟩:=h;simp[RKs.len z]
def UL{d:D}{v:V}{b:Bool}(hR:RH K ρ H hd)(h:RD K ρ H d v)(e:EG hd d=some b):Mh K v H b:=by
 cases d with
 |im i=>
  cases i with
  |non=>simp only[RD,RI]at h;subst h;simp only[EG,Option.some.injEq]at e;subst e;exact rfl
  |bl c=>simp only[RD,RI]at h;subst h;simp only[EG,Option.some.injEq]at e;subst e;exact rfl
  |int c=>simp only[RD,RI]at h;subst h;simp only[EG,Option.some.injEq]at e;subst e;exact rfl
  |str c=>
   simp only[RD,RI]at h;subst h;simp only[EG]at e;split at e
   .next z=>cases e;exact⟨z,rfl⟩
   .cases e
  |tup is=>
   obtain⟨a,xs,rfl,q,r⟩:=h.tup (ds:=is.map .im) rfl;simp only[EG,Option.some.injEq]at e;subst e;exact .inr (.inl ⟨xs,q,by rw[D7 (show xs.length=is.length by simpa using r.len)]⟩)
 |tm ds=>
  obtain⟨a,xs,rfl,q,r⟩:=h.tup (ds:=ds) rfl;simp only[EG,Option.some.injEq]at e;subst e;exact .inr (.inl ⟨xs,q,by rw[D7 r.len]⟩)
 |ro ns=>
  obtain⟨a,xs,rfl,q,r⟩:=h.lst hR (hd:=hd) (ds:=ns.map λn=>.im (.int n)) rfl;simp only[EG,Option.some.injEq]at e;subst e;exact .inl ⟨xs,q,by rw[D7 (show xs.length=ns.length by simpa using r.len)]⟩
 |mu n=>
  simp only[RD]at h;obtain⟨a,hn,rfl⟩:=h;simp only[EG]at e;split at e
  .next q=>
   cases e;obtain⟨xs,e1,e2⟩:=hR.lst hn q;exact .inl ⟨xs,SqL.of e1,by rw[D7 e2.len]⟩
  .next q=>
   cases e;obtain⟨xs,e1,e2⟩:=hR.dic hn q;exact .inr (.inr ⟨xs,e1,by rw[D7 e2.len]⟩)
  .cases e
def BX(ma:ME):MT:=λls hd=>(ma ls hd).bind λp=>(EG p.2 p.1).map (·,p.2)
def S6{ta:TE}{ma:ME}(ha:RE K ta ma):RT K (λσ H Q=>ta σ H λx H'=>∃k,Mh K x H' k/\Q k H') (BX ma):=by
 and_intros;obtain⟨⟨d1,h1⟩,e1,hm⟩:=cu hm;obtain⟨b,e2,e3⟩:=cv hm;cases e3;exact ha ρ σ H hd ls _ d1 h1 hR hL e1 λρ1 H1 v x1 R1 r1=>⟨_,UL R1 r1 e2,hQ ρ1 H1 x1 R1⟩
def AD(ma:ME):MT:=λls hd=>(ma ls hd).bind λp=>match p.1 with
 |.im (.bl b)=>some (b,p.2)
 |_=>none
def Dk{ta:TE}{ma:ME}(ha:RE K ta ma):RT K (IP ta) (AD ma):=by
 and_intros;obtain⟨⟨d1,h1⟩,e1,hm⟩:=cu hm;dsimp only at hm;split at hm
 .cases hm;exact ha ρ σ H hd ls _ _ _ hR hL e1 λρ1 H1 v x1 R1 r1=>⟨_,by simpa only[RD,RI]using r1,hQ ρ1 H1 x1 R1⟩
 .cases hm
def S7{ta:TE}{ma:ME}(ha:RE K ta ma):RT K (tB ta) (AD ma):=Dk ha
def mIf(c:MT)(ma mb:ME):ME:=λls hd=>(c ls hd).bind λp=>if p.1=true then ma ls p.2 else mb ls p.2
def ZX{tc:TT}{c:MT}{ta tb:TE}{ma mb:ME}(hc:RT K tc c)(ha:RE K ta ma)(hb:RE K tb mb):RE K (tIf tc ta tb) (mIf c ma mb):=by
 and_intros;obtain⟨⟨d1,h1⟩,e1,hm⟩:=cu hm;refine hc ρ σ H hd ls _ d1 h1 hR hL e1 λρ1 H1 x1 R1=>?_;cases d1 with
 |true=>
  rw[if_pos rfl]at hm ⊢;exact ha ρ1 σ H1 h1 ls Q d hd' R1 (hL.ext hR x1) hm λρ2 H2 v x2 R2 r2=>hQ ρ2 H2 v (x1.trans R1 x2) R2 r2
 |false=>
  rw[if_neg Bool.false_ne_true]at hm ⊢;exact hb ρ1 σ H1 h1 ls Q d hd' R1 (hL.ext hR x1) hm λρ2 H2 v x2 R2 r2=>hQ ρ2 H2 v (x1.trans R1 x2) R2 r2
def EU(ma mb:ME):ME:=λls hd=>(AD ma ls hd).bind λp=>if p.1=true then mb ls p.2 else some (.im (.bl false),p.2)
def I0(ma mb:ME):ME:=λls hd=>(AD ma ls hd).bind λp=>if p.1=true then some (.im (.bl true),p.2)else mb ls p.2
def Fs(ma:ME):ME:=λls hd=>(AD ma ls hd).bind λp=>some (.im (.bl (!p.1)),p.2)
def Ul{ta tb:TE}{ma mb:ME}(ha:RE K ta ma)(hb:RE K tb mb):RE K (O8 ta tb) (EU ma mb):=by
 and_intros;obtain⟨⟨d1,h1⟩,e1,hm⟩:=cu hm;refine Dk ha ρ σ H hd ls (λc H1=>if c=true then tb σ H1 Q else Q (.bl false) H1) d1 h1 hR hL e1 λρ1 H1 x1 R1=>?_;cases d1 with
 |true=>
  rw[if_pos rfl]at hm ⊢;exact hb ρ1 σ H1 h1 ls Q d hd' R1 (hL.ext hR x1) hm λρ2 H2 v x2 R2 r2=>hQ ρ2 H2 v (x1.trans R1 x2) R2 r2
 |false=>
  rw[if_neg Bool.false_ne_true]at hm ⊢;cases hm;exact hQ ρ1 H1 _ x1 R1 (by simp[RD,RI])
def XB{ta tb:TE}{ma mb:ME}(ha:RE K ta ma)(hb:RE K tb mb):RE K (Rl ta tb) (I0 ma mb):=by
 and_intros;obtain⟨⟨d1,h1⟩,e1,hm⟩:=cu hm;refine Dk ha ρ σ H hd ls (λc H1=>if c=true then Q (.bl true) H1 else tb σ H1 Q) d1 h1 hR hL e1 λρ1 H1 x1 R1=>?_;cases d1 with
 |true=>
  rw[if_pos rfl]at hm ⊢;cases hm;exact hQ ρ1 H1 _ x1 R1 (by simp[RD,RI])
 |false=>
  rw[if_neg Bool.false_ne_true]at hm ⊢;exact hb ρ1 σ H1 h1 ls Q d hd' R1 (hL.ext hR x1) hm λρ2 H2 v x2 R2 r2=>hQ ρ2 H2 v (x1.trans R1 x2) R2 r2
def Uh{ta:TE}{ma:ME}(ha:RE K ta ma):RE K (O2 ta) (Fs ma):=by
 and_intros;obtain⟨⟨d1,h1⟩,e1,hm⟩:=cu hm;cases hm;exact Dk ha ρ σ H hd ls (λc H1=>Q (.bl (!c)) H1) d1 h1 hR hL e1 λρ1 H1 x1 R1=>hQ ρ1 H1 _ x1 R1 (by simp[RD,RI])
def A4:MA:=λ_ hd=>some ([],hd)
def A2(ma:ME)(mr:MA):MA:=λls hd=>(ma ls hd).bind λp=>(mr ls p.2).bind λq=>some (p.1::q.1,q.2)
def XN:RA K BG A4:=by
 and_intros;cases hm;exact hQ ρ H [] .refl hR .nil
def Up{ta:TE}{tr:TA}{ma:ME}{mr:MA}(ha:RE K ta ma)(hr:RA K tr mr):RA K (Ax ta tr) (A2 ma mr):=by
 and_intros;obtain⟨⟨d1,h1⟩,e1,hm⟩:=cu hm;obtain⟨⟨d2,h2⟩,e2,hm⟩:=cu hm;cases hm;refine ha ρ σ H hd ls _ d1 h1 hR hL e1 λρ1 H1 v1 x1 R1 r1=>?_;exact hr ρ1 σ H1 h1 ls _ d2 _ R1 (hL.ext hR x1) e2 λρ2 H2 v2 x2 R2 r2=>hQ ρ2 H2 _ (x1.trans R1 x2) R2 (.cons (r1.ext R1 x2) r2)
open Classical in
def As(ma:MA):ME:=λls hd=>(ma ls hd).bind λp=>if Bn p.1.length then some (Ab p.1,p.2)else none
def XA{t:TA}{m:MA}(h:RA K t m):RE K (Ri t) (As m):=by
 and_intros;obtain⟨⟨d1,h1⟩,e1,hm⟩:=cu hm;dsimp only at hm;split at hm
 .next z=>
  cases hm;refine h ρ σ H hd ls _ d1 _ hR hL e1 λρ1 H1 v1 x1 R1 r1=>⟨by rw[r1.len];exact z,λp hp=>?_⟩
  obtain⟨R2,x2⟩:=R1.hid (ho:=.tup v1) hp;exact hQ ρ1 _ _ (x1.trans R1 x2) R2 (BS (SqT.of AL) (r1.ext R1 x2))
 .cases hm
open Classical in
def CY(ma:MA):MA:=λls hd=>(ma ls hd).bind λp=>if Bn p.1.length then some (p.1,p.2)else none
def RH.out(hR:RH K ρ H hd){a:Addr}(h:H a=none):a∉ρ:=λm=>by rcases hR.mut m with⟨y,z⟩|⟨y,z⟩<;>(rw[h]at z;cases z)
def Ext.none(e:Ext ρ H ρ' H')(hR:RH K ρ H hd){a:Addr}(h:H' a=none)(hR':RH K ρ' H' hd'):H a=none:=by
 cases q:H a with
 |none=>rfl
 |some o=>
  by_cases m:a∈ρ
  .obtain⟨r,rfl,_⟩:=e.pre;exact absurd (mem_append_left r m) (hR'.out h)
  .by_cases t:∃ps,o=.tbl ps
   .obtain⟨ps,rfl⟩:=t;obtain⟨ps',this⟩:=e.tab a ps q;rw[h]at this;cases this
   .rw[e.keep a o q m λps y=>t ⟨ps,y⟩]at h;cases h
def X1{t:TA}{m:MA}(h:RA K t m):RN K (Rn t) (CY m):=by
 and_intros;obtain⟨⟨d1,h1⟩,e1,hm⟩:=cu hm;dsimp only at hm;split at hm
 .next z=>
  cases hm;refine h ρ σ H hd ls _ _ _ hR hL e1 λρ1 H1 v1 x1 R1 r1=>⟨by rw[r1.len];exact z,λp hp=>?_⟩
  obtain⟨R2,x2⟩:=R1.hid (ho:=.lst v1) hp;exact hQ ρ1 _ p v1 (x1.trans R1 x2) R2 (x1.none hR hp R1) (R1.out hp) AL (r1.ext R1 x2)
 .cases hm
def B5(ml:MA):ME:=λls hd=>(ml ls hd).bind λp=>some (.mu p.2.length,p.2++[.lst p.1])
def RH.name(hR:RH K ρ H hd){a:Addr}{xs:List V}{ds:List D}(out:a∉ρ)(e:H a=some (.lst xs))(r:RDs K ρ H ds xs):RH K (ρ++[a]) H (hd++[.lst ds]):=by
 have mono:∀{o:MO} {ho:HO},RC K ρ H o ho->RC K (ρ++[a]) H o ho:=λc=>c.mono Grow.refl [a];refine⟨by simp[hR.len],?_,hR.tabs,λn o' b e1 e2=>?_⟩
 .rw[nodup_append];refine⟨hR.nd,by simp,λx hx y hy z=>?_⟩;simp at hy;subst hy;subst z;exact out hx
 .by_cases hn:n<ρ.length
  .rw[List.getElem?_append_left hn]at e2;rw[List.getElem?_append_left (by rw[<- hR.len];exact hn)]at e1;obtain⟨ho',q1,q2⟩:=hR.ob n o' b e1 e2;exact⟨ho',q1,mono q2⟩
  .have hn':n=ρ.length:=by
    have:=(List.getElem?_eq_some_iff.mp e2).1;simp at this;omega
   subst hn';simp at e2;rw[hR.len]at e1;simp at e1;subst e1;subst e2;exact⟨_,e,mono ⟨xs,rfl,r⟩⟩
def Ext.name(e:Ext ρ H ρ' H'){a:Addr}(h:H a=Option.none):Ext ρ H (ρ'++[a]) H':=by
 obtain⟨r,rfl,f⟩:=e.pre;refine⟨⟨r++[a],by simp,λb m=>?_⟩,e.keep,e.tab⟩;rcases mem_append.mp m with m|m
 .exact f b m
 .simp at m;subst m;exact h
def Pn{t:TE}{m:MA}(h:RN K t m):RE K t (B5 m):=by
 and_intros;obtain⟨⟨d1,h1⟩,e1,hm⟩:=cu hm;cases hm;refine h ρ σ H hd ls Q d1 h1 hR hL e1 λρ1 H1 a xs x1 R1 na oa ea r1=>?_;refine hQ (ρ1++[a]) H1 _ (x1.name na) (R1.name oa ea r1) ?_;simp only[RD];exact⟨a,by rw[<- R1.len];simp,rfl⟩
end
section
variable{K:PySem.W.Frag}{ρ ρ':List Addr}{H H':Hp}{hd hd':Hd}
def fI(g:Int->Int->Option I):D->D->Hd->Option (D×Hd)
 |.im (.int i),.im (.int j),hd=>(g i j).map (.im ·,hd)
 |_,_,_=>none
def OP{C:Int->Int->Prop}{g:Int->Int->V}{f:Int->Int->Option I}(h:∀i j z,f i j=some z->C i j/\∀H,RI K H z (g i j)):RB K (rI C g) (fI f):=by
 intro ρ H hd d e v u Q z hd' hR h1 h2 hf hQ;unfold fI at hf;split at hf
 .simp only[RD,RI]at h1 h2;subst h1 h2;obtain⟨w,e1,e2⟩:=cv hf;cases e2;obtain⟨c,r⟩:=h _ _ _ e1;exact⟨_,_,rfl,rfl,c,hQ ρ H _ .refl hR (by simpa only[RD]using r H)⟩
 .cases hf
def HL{g:Int->Int->V}{f:Int->Int->I}(h:∀i j H,RI K H (f i j) (g i j)):RB K (rI0 g) (fI λi j=>some (f i j)):=by
 intro ρ H hd d e v u Q z hd' hR h1 h2 hf hQ;unfold fI at hf;split at hf
 .simp only[RD,RI]at h1 h2;subst h1 h2;cases hf;exact⟨_,_,rfl,rfl,hQ ρ H _ .refl hR (by simpa only[RD]using h _ _ H)⟩
 .cases hf
def G4(f g:D->D->Hd->Option (D×Hd)):D->D->Hd->Option (D×Hd):=λd e hd=>match f d e hd with
 |some z=>some z
 |none=>g d e hd
def Dm{r r':R2}{f g:D->D->Hd->Option (D×Hd)}(h:RB K r f)(h':RB K r' g):RB K (λx y H Q=>r x y H Q∨r' x y H Q) (G4 f g):=by
 intro ρ H hd d e v u Q z hd' hR h1 h2 hf hQ;unfold G4 at hf;split at hf
 .next q=>cases hf;exact .inl (h ρ H hd d e v u Q z hd' hR h1 h2 q hQ)
 .exact .inr (h' ρ H hd d e v u Q z hd' hR h1 h2 hf hQ)
abbrev Ji:D->D->Hd->Option (D×Hd):=fI λi j=>some (.int (i+j))
abbrev BM:D->D->Hd->Option (D×Hd):=fI λi j=>some (.int (i-j))
def Pu:RB K (rI0 λi j=>.int (i+j)) Ji:=HL λ_ _ _=>by simp[RI]
def XH:RB K (rI0 λi j=>.int (i-j)) BM:=HL λ_ _ _=>by simp[RI]
open Classical in
abbrev Du:D->D->Hd->Option (D×Hd):=fI λi j=>if Dw i j then some (.int (i*j))else none
def XJ:RB K (rI CMul λi j=>.int (i*j)) Du:=OP λi j z h=>by
 split at h
 .next q=>cases h;exact⟨q,λ_=>by simp[RI]⟩
 .cases h
open Classical in
abbrev Fx:D->D->Hd->Option (D×Hd):=fI λi j=>if DE j then some (.int (i%j))else none
def XM:RB K (rI (λ_ j=>0<j) λi j=>.int (i%j)) Fx:=OP λi j z h=>by
 split at h
 .next q=>cases h;exact⟨q,λ_=>by simp[RI]⟩
 .cases h
open Classical in
abbrev Fy:D->D->Hd->Option (D×Hd):=fI λi j=>if J9 j then some (.int (i/j))else none
def Um:RB K (rI ZM λi j=>.int (i/j)) Fy:=OP λi j z h=>by
 split at h
 .next q=>cases h;exact⟨q,λ_=>by simp[RI]⟩
 .cases h
open Classical in
abbrev TH:D->D->Hd->Option (D×Hd):=fI λi j=>if OY i j then some (.int (i^j.toNat))else none
def XI:RB K (rI ZL λi j=>.int (i^j.toNat)) TH:=OP λi j z h=>by
 split at h
 .next q=>cases h;exact⟨q,λ_=>by simp[RI]⟩
 .cases h
abbrev gLt:D->D->Hd->Option (D×Hd):=fI λi j=>some (.bl (decide (i<j)))
abbrev gLe:D->D->Hd->Option (D×Hd):=fI λi j=>some (.bl (decide (i<=j)))
abbrev gGt:D->D->Hd->Option (D×Hd):=fI λi j=>some (.bl (decide (j<i)))
abbrev gGe:D->D->Hd->Option (D×Hd):=fI λi j=>some (.bl (decide (j<=i)))
def Tn:RB K (rI0 λi j=>.bl (decide (i<j))) gLt:=HL λ_ _ _=>by simp[RI]
def To:RB K (rI0 λi j=>.bl (decide (i<=j))) gLe:=HL λ_ _ _=>by simp[RI]
def ZZ:RB K (rI0 λi j=>.bl (decide (j<i))) gGt:=HL λ_ _ _=>by simp[RI]
def Za:RB K (rI0 λi j=>.bl (decide (j<=i))) gGe:=HL λ_ _ _=>by simp[RI]
def scI:I->Option V
 |.non=>some .non
 |.bl b=>some (.bl b)
 |.int i=>some (.int i)
 |.str x=>some (.str x)
 |.tup _=>none
def IV{i:I}{v w:V}(e:scI i=some w)(h:RI K H i v):v=w:=by
 cases i with
 |tup _=>simp[scI]at e
 |_=>simp only[scI,Option.some.injEq]at e;subst e;simpa only[RI]using h
def FL(neg:Bool):D->D->Hd->Option (D×Hd)
 |.im i,.im j,hd=>match scI i,scI j with
  |some x,some y=>if LS x y=true then some (.im (.bl (if neg then !decide (x=y)else decide (x=y))),hd)else none
  |_,_=>none
 |_,_,_=>none
def Ps:RB K rEq (FL false):=by
 intro ρ H hd d e v u Q z hd' hR h1 h2 hf hQ;unfold FL at hf;split at hf
 .split at hf
  .next x y e1 e2=>
   split at hf
   .next s=>
    cases hf;simp only[RD]at h1 h2;rw[IV e1 h1,IV e2 h2];exact⟨s,hQ ρ H _ .refl hR (by simp[RD,RI])⟩
   .cases hf
  .cases hf
 .cases hf
def Pq:RB K rNe (FL true):=by
 intro ρ H hd d e v u Q z hd' hR h1 h2 hf hQ;unfold FL at hf;split at hf
 .split at hf
  .next x y e1 e2=>
   split at hf
   .next s=>
    cases hf;simp only[RD]at h1 h2;rw[IV e1 h1,IV e2 h2];exact⟨s,hQ ρ H _ .refl hR (by simp[RD,RI])⟩
   .cases hf
  .cases hf
 .cases hf
mutual
def I.py:I->PyData
 |.non=>.none
 |.bl b=>.bool b
 |.int i=>.int i
 |.str x=>.str x
 |.tup ds=>.tuple (I.pys ds)
def I.pys:List I->List PyData
 |[]=>[]
 |d::ds=>I.py d::I.pys ds
end
mutual
def RI.rep:∀{i:I} {v:V},RI K H i v->Rep K H i.py v
 |.non,v,h=>by simpa only[RI,I.py,Rep]using h
 |.bl _,v,h=>by simpa only[RI,I.py,Rep]using h
 |.int _,v,h=>by simpa only[RI,I.py,Rep]using h
 |.str _,v,h=>by simpa only[RI,I.py,Rep]using h
 |.tup ds,v,h=>by
  simp only[RI]at h;obtain⟨a,xs,e,q,r⟩:=h;simp only[I.py,Rep];exact⟨a,xs,e,q,RIs.rep r⟩
def RIs.rep:∀{i:List I} {v:List V},RIs K H i v->CS K H (I.pys i) v
 |[],v,h=>by simpa only[RIs,I.pys,CS]using h
 |d::ds,v,h=>by
  simp only[RIs]at h;obtain⟨x,r,e,q,z⟩:=h;simp only[I.pys,CS];exact⟨x,r,e,q.rep,RIs.rep z⟩
end
def pyD(hd:Hd):D->Option PyData
 |.im i=>some i.py
 |.mu n=>match hd[n]? with
  |some (.lst ds)=>(BZ ds).map λis=>.list (I.pys is)
  |_=>none
 |.ro ns=>some (.list (I.pys (ns.map I.int)))
 |_=>none
def FS{d:D}{v:V}{p:PyData}(hR:RH K ρ H hd)(h:RD K ρ H d v)(e:pyD hd d=some p):Rep K H p v:=by
 cases d with
 |im i=>simp only[pyD,Option.some.injEq]at e;subst e;simp only[RD]at h;exact h.rep
 |mu n=>
  simp only[pyD]at e;simp only[RD]at h;obtain⟨a,hn,rfl⟩:=h;split at e
  .next q=>
   obtain⟨is,e1,rfl⟩:=cv e;obtain⟨xs,e2,e3⟩:=hR.lst hn q;rw[GC e1]at e3;simp only[Rep];exact⟨a,xs,rfl,SqL.of e2,e3.is.rep⟩
  .cases e
 |ro ns=>
  simp only[pyD,Option.some.injEq]at e;subst e;obtain⟨a,xs,rfl,q,r⟩:=h.lst hR (hd:=hd) (ds:=ns.map λn=>.im (.int n)) rfl;simp only[Rep];refine⟨a,xs,rfl,q,RIs.rep (RDs.is (ρ:=ρ) ?_)⟩;rw[map_map];exact r
 |tm _=>simp[pyD]at e
def Jh(neg:Bool):D->D->Hd->Option (D×Hd):=λd e hd=>match pyD hd d,pyD hd e with
 |some x,some y=>if x.canLay0=true/\y.canLay0=true/\min x.depth y.depth<=60 then some (.im (.bl (if neg then !PyData.eqv x y else PyData.eqv x y)),hd)else none
 |_,_=>none
def Pt:RB K (SO K) (Jh false):=by
 intro ρ H hd d e v u Q z hd' hR h1 h2 hf hQ;unfold Jh at hf;split at hf
 .next e1 e2=>
  split at hf
  .next c=>cases hf;exact⟨_,_,FS hR h1 e1,FS hR h2 e2,c.1,c.2.1,c.2.2,hQ ρ H _ .refl hR (by simp[RD,RI])⟩
  .cases hf
 .cases hf
def Pr:RB K (SL K) (Jh true):=by
 intro ρ H hd d e v u Q z hd' hR h1 h2 hf hQ;unfold Jh at hf;split at hf
 .next e1 e2=>
  split at hf
  .next c=>cases hf;exact⟨_,_,FS hR h1 e1,FS hR h2 e2,c.1,c.2.1,c.2.2,hQ ρ H _ .refl hR (by simp[RD,RI])⟩
  .cases hf
 .cases hf
abbrev gEq:=G4 (FL false) (Jh false)
abbrev gNe:=G4 (FL true) (Jh true)
def gIx:D->D->Hd->Option (D×Hd)
 |d,.im (.int i),hd=>(B3 hd d).bind λds=>(atI ds i).map (·,hd)
 |_,_,_=>none
def Nm{α β:Type}{xs:List α}{ys:List β}{i:Int}{y:β}(h:xs.length=ys.length)(e:atI ys i=some y):∃(j:Nat),ys[j]?=some y/\∀x,xs[j]?=some x->atI xs i=some x:=by
 unfold atI at e;obtain⟨j,e1,e2⟩:=cu e;exact⟨j,e2,λx q=>by unfold atI;rw[h,e1];exact q⟩
def Kr(K:PySem.W.Frag):R2:=λx y H Q=>SN K x y H Q∨SM K x y H Q
def ZY:RB K (Kr K) gIx:=by
 intro ρ H hd d e v u Q z hd' hR h1 h2 hf hQ;unfold gIx at hf;split at hf
 .obtain⟨ds,e1,hf⟩:=cu hf;obtain⟨w,e2,e3⟩:=cv hf;cases e3;obtain⟨a,xs,rfl,q,r⟩:=h1.seq hR e1;simp only[RD,RI]at h2;subst h2;obtain⟨j,j1,j2⟩:=Nm r.len e2;obtain⟨x,x1,x2⟩:=r.get j1;rcases q with q|q
  .exact .inl ⟨a,xs,_,x,rfl,rfl,q,j2 x x1,hQ ρ H x .refl hR x2⟩
  .exact .inr ⟨a,xs,_,x,rfl,rfl,q,j2 x x1,hQ ρ H x .refl hR x2⟩
 .cases hf
def Gz(xs:List D)(lo hi:Option Int):List D:=(xs.drop (HT.sIx xs.length 0 lo)).take (HT.sIx xs.length xs.length hi-HT.sIx xs.length 0 lo)
def WC{ds:List D}{xs:List V}{lo hi:Option Int}(r:RDs K ρ H ds xs):RDs K ρ H (Gz ds lo hi) (IG xs lo hi):=by
 unfold Gz IG;rw[r.len];exact(r.drop _).take _
abbrev MO1:=Ls->Hd->Option (Option Int×Hd)
def RO1(K:PySem.W.Frag)(t:TO)(m:MO1):Prop:=∀(ρ:List Addr) (σ:St) (H:Hp) (hd:Hd) (ls:Ls) (Q:Option Int->Hp->Prop) (d:Option Int) (hd':Hd),RH K ρ H hd->RL K ρ H ls σ->m ls hd=some (d,hd') ->
 (∀ρ' H',Ext ρ H ρ' H'->RH K ρ' H' hd'->Q d H')->t σ H Q
def HQ:MO1:=λ_ hd=>some (none,hd)
def Ku(m:ME):MO1:=λls hd=>(m ls hd).bind λp=>match p.1 with
 |.im (.int i)=>some (some i,p.2)
 |_=>none
def Ua:RO1 K JJ HQ:=by
 and_intros;cases hm;exact hQ ρ H .refl hR
def UZ{t:TE}{m:ME}(h:RE K t m):RO1 K (O1 t) (Ku m):=by
 and_intros;obtain⟨⟨d1,h1⟩,e1,hm⟩:=cu hm;dsimp only at hm;split at hm
 .cases hm;exact h ρ σ H hd ls _ _ _ hR hL e1 λρ1 H1 v x1 R1 r1=>⟨_,by simpa only[RD,RI]using r1,hQ ρ1 H1 x1 R1⟩
 .cases hm
def ak(m:ME)(ml mh:MO1):ME:=λls hd=>(m ls hd).bind λp=>(ml ls p.2).bind λl=>(mh ls l.2).bind λh=>(Ae p.1).bind λds=>
 if ¬ (HT.sIx ds.length 0 l.1=0/\HT.sIx ds.length ds.length h.1=ds.length)then some (Ab (Gz ds l.1 h.1),h.2)else none
def M3(m:ME)(ml mh:MO1):MA:=λls hd=>(m ls hd).bind λp=>(ml ls p.2).bind λl=>(mh ls l.2).bind λh=>(BE h.2 p.1).bind λds=>some (Gz ds l.1 h.1,h.2)
def Wz{t:TE}{tl th:TO}{m:ME}{ml mh:MO1}(h:RE K t m)(hl:RO1 K tl ml)(hh:RO1 K th mh):RN K (tSl (OR K) t tl th) (M3 m ml mh):=by
 and_intros;obtain⟨⟨d1,h1⟩,e1,hm⟩:=cu hm;obtain⟨⟨d2,h2⟩,e2,hm⟩:=cu hm;obtain⟨⟨d3,h3⟩,e3,hm⟩:=cu hm;obtain⟨ds,e4,hm⟩:=cu hm;dsimp only at e2 e3 e4 hm;cases hm;refine h ρ σ H hd ls _ d1 h1 hR hL e1 λρ1 H1 v1 x1 R1 r1=>?_;refine hl ρ1 σ H1 h1 ls _ d2 h2 R1 (hL.ext hR x1) e2 λρ2 H2 x2 R2=>?_;refine hh ρ2 σ H2 h2 ls _ d3 _ R2 (hL.ext hR (x1.trans R1 x2)) e3 λρ3 H3 x3 R3=>?_;obtain⟨a,xs,rfl,q,r⟩:=RD.lst R3 ((r1.ext R1 x2).ext R2 x3) e4;refine⟨a,xs,rfl,q,λp hp=>?_⟩;obtain⟨R4,x4⟩:=R3.hid (ho:=.lst (IG xs d2 d3)) hp;have x123:=(x1.trans R1 x2).trans R2 x3;exact hQ ρ3 _ p _ (x123.trans R3 x4) R4 (x123.none hR hp R3) (R3.out hp) AL ((WC r).ext R3 x4)
def mCB(f:List D->Hd->Option (D×Hd))(ma:MA):ME:=λls hd=>(ma ls hd).bind λp=>f p.1 p.2
def Tl{r:List V->Hp->VK->Prop}{f:List D->Hd->Option (D×Hd)}{t:TA}{m:MA}(hr:RF K r f)(h:RA K t m):RE K (tCB r t) (mCB f m):=by
 and_intros;obtain⟨⟨d1,h1⟩,e1,hm⟩:=cu hm;refine h ρ σ H hd ls _ d1 h1 hR hL e1 λρ1 H1 v1 x1 R1 r1=>?_;exact hr ρ1 H1 h1 d1 v1 Q d hd' R1 r1 hm λρ' H' w x2 R2 r2=>hQ ρ' H' w (x1.trans R1 x2) R2 r2
def f1(tp:Bool)(g:List D->Option D):List D->Hd->Option (D×Hd)
 |[d],hd=>((if tp then B3 hd d else BE hd d)).bind λds=>(g ds).map (·,hd)
 |_,_=>none
def JU{tp:Bool}{r:List V->Hp->VK->Prop}{g:List D->Option D}(h:RG K tp r g):RF K r (f1 tp g):=by
 intro ρ H hd ds vs Q z hd' hR h1 hf hQ;unfold f1 at hf;split at hf
 .next d hd'=>
  obtain⟨es,e1,hf⟩:=cu hf;obtain⟨w,e2,e3⟩:=cv hf;cases e3;simp only[RDs]at h1;obtain⟨x,r,rfl,rx,rfl⟩:=h1;cases tp with
  |true=>
   rw[if_pos rfl]at e1;obtain⟨a,xs,rfl,q,rr⟩:=rx.seq hR e1;exact h ρ H hd a xs es Q z hR (q.imp id λq=>⟨rfl,q⟩) rr e2 λH' w x R r=>hQ ρ H' w x R r
  |false=>
   rw[if_neg Bool.false_ne_true]at e1;obtain⟨a,xs,rfl,q,rr⟩:=rx.lst hR e1;exact h ρ H hd a xs es Q z hR (.inl q) rr e2 λH' w x R r=>hQ ρ H' w x R r
 .cases hf
def BQ(g:List D->Option D)(ml:MA):ME:=λls hd=>(ml ls hd).bind λp=>(g p.1).map (·,p.2)
def Pp{tp:Bool}{r:List V->Hp->VK->Prop}{g:List D->Option D}{t:TE}{m:MA}(hr:RG K tp r g)(h:RN K t m):RE K (tCB r (Ax t BG)) (BQ g m):=by
 and_intros;obtain⟨⟨d1,h1⟩,e1,hm⟩:=cu hm;obtain⟨w,e2,e3⟩:=cv hm;cases e3;refine h ρ σ H hd ls _ d1 _ hR hL e1 λρ1 H1 a xs x1 R1 na oa ea r1=>?_;exact hr ρ1 H1 _ a xs d1 Q d R1 (.inl (SqL.of ea)) r1 e2 λH' w x R r=>hQ ρ1 H' w (x1.trans R1 x) R r
def BR(ds:List D):Option D:=some (.im (.int ds.length))
def X8:RG K true (XO K) BR:=by
 intro ρ H hd a xs ds Q z hR q r e hQ;cases e;refine⟨a,xs,rfl,q.imp id λq=>q.2,?_⟩;rw[r.len];exact hQ H _ .refl hR (by simp[RD,RI])
def B9(ds:List D):Option D:=some (Ab ds)
def Ld:RG K true (Lh K) B9:=by
 intro ρ H hd a xs ds Q z hR q r e hQ;cases e;refine⟨a,xs,rfl,?_⟩;rcases q with q|⟨_,q⟩
 .refine .inl ⟨q,λp hp=>?_⟩;obtain⟨R2,x2⟩:=hR.hid (ho:=.tup xs) hp;exact hQ _ _ x2 R2 (BS (SqT.of AL) (r.ext hR x2))
 .exact .inr ⟨q,hQ H _ .refl hR (BS q r)⟩
def DU(ds:List D):Option D:=(Az ds).map λns=>.im (.int ns.sum)
def ac(K:PySem.W.Frag):List V->Hp->VK->Prop:=λxs H Q=>Ts K xs H Q∨Tr K xs H Q
def Pj:RG K true (ac K) DU:=by
 intro ρ H hd a xs ds Q z hR q r e hQ;obtain⟨ns,e1,rfl⟩:=cv e;rw[Cn e1]at r;have:=FR r;subst this;rcases q with q|⟨_,q⟩
 .exact .inl ⟨a,ns,rfl,q,hQ H _ .refl hR (by simp[RD,RI])⟩
 .exact .inr ⟨a,ns,rfl,q,hQ H _ .refl hR (by simp[RD,RI])⟩
def Go(ds:List D):Option D:=(CK ds).map λbs=>.im (.bl (bs.all id))
def MC(ds:List D):Option D:=(CK ds).map λbs=>.im (.bl (bs.any id))
def Pm:RG K false (XR K) Go:=by
 intro ρ H hd a xs ds Q z hR q r e hQ;obtain⟨ns,e1,rfl⟩:=cv e;rw[Jn e1]at r;have:=Lf r;subst this;rcases q with q|⟨q,_⟩
 .exact⟨a,ns,rfl,q,hQ H _ .refl hR (by simp[RD,RI])⟩
 .cases q
def Pl:RG K false (XQ K) MC:=by
 intro ρ H hd a xs ds Q z hR q r e hQ;obtain⟨ns,e1,rfl⟩:=cv e;rw[Jn e1]at r;have:=Lf r;subst this;rcases q with q|⟨q,_⟩
 .exact⟨a,ns,rfl,q,hQ H _ .refl hR (by simp[RD,RI])⟩
 .cases q
def FG:List Int->Int
 |[]=>0
 |[x]=>x
 |x::r=>if FG r>x then FG r else x
def F2:∀{xs:List Int},xs≠[]->FG xs∈xs/\∀x∈xs,x<=FG xs
 |[],h=>absurd rfl h
 |[x],_=>by simp[FG]
 |x::y::r,_=>by
  obtain⟨h1,h2⟩:=F2 (xs:=y::r) (by simp);rw[FG];split
  .next h=>exact⟨mem_cons_of_mem _ h1,λz m=>by rcases mem_cons.mp m with rfl|m;omega;exact h2 z m⟩
  .next h=>exact⟨mem_cons_self,λz m=>by rcases mem_cons.mp m with rfl|m;omega;exact Int.le_trans (h2 z m) (by omega)⟩
  .simp
def FJ(ds:List D):Option D:=(Az ds).bind λns=>if ns=[]then none else some (.im (.int (FG ns)))
def ae(K:PySem.W.Frag):List V->Hp->VK->Prop:=λxs H Q=>Tu K xs H Q∨Tt K xs H Q
def D0{α:Type}{xs:List α}(h:xs≠[]):0<xs.length:=by cases xs<;>simp_all
def Pk:RG K true (ae K) FJ:=by
 intro ρ H hd a xs ds Q z hR q r e hQ;obtain⟨ns,e1,e⟩:=cu e;split at e
 .cases e
 .next hn=>
  cases e;rw[Cn e1]at r;have:=FR r;subst this;have u:∀M:Int,M∈ns->(∀x∈ns,x<=M)->M=FG ns:=λM m1 m2=>by
   obtain⟨n1,n2⟩:=F2 hn;have:=n2 M m1;have:=m2 _ n1;omega
  rcases q with q|⟨_,q⟩
  .exact .inl ⟨a,ns,rfl,q,D0 hn,λM m1 m2=>by rw[u M m1 m2];exact hQ H _ .refl hR (by simp[RD,RI])⟩
  .exact .inr ⟨a,ns,rfl,q,D0 hn,λM m1 m2=>by rw[u M m1 m2];exact hQ H _ .refl hR (by simp[RD,RI])⟩
def EW:List D->Hd->Option (D×Hd)
 |[.im (.int i),.im (.int j)],hd=>some (.im (.int (if j>i then j else i)),hd)
 |_,_=>none
def aH:List D->Hd->Option (D×Hd)
 |[.im (.int i),.im (.int j)],hd=>some (.im (.int (if j<i then j else i)),hd)
 |_,_=>none
def Uf:RF K (λxs H Q=>∃i j,xs=[.int i,.int j]/\Q (.int (if j>i then j else i)) H) EW:=by
 intro ρ H hd ds vs Q z hd' hR h1 hf hQ;unfold EW at hf;split at hf
 .cases hf;simp only[RDs,RD,RI]at h1;obtain⟨x,r,rfl,rfl,y,r2,rfl,rfl,rfl⟩:=h1;exact⟨_,_,rfl,hQ ρ H _ .refl hR (by simp[RD,RI])⟩
 .cases hf
def ap:List D->Hd->Option (D×Hd)
 |[.im (.int i)],hd=>some (.im (.int (if i<0 then -i else i)),hd)
 |_,_=>none
def a9(ma:ME):MA:=λls hd=>(ma ls hd).bind λp=>(B3 p.2 p.1).map (·,p.2)
def Gh(ml:MA):MA:=ml
def SC{t:TE}{m:MA}(h:RN K t m):RN K (tCB (JX K) (Ax t BG)) (Gh m):=by
 and_intros;refine h ρ σ H hd ls _ d _ hR hL hm λρ1 H1 a xs x1 R1 na oa ea r1=>?_;refine⟨a,xs,rfl,.inl (SqL.of ea),λl hl=>?_⟩;obtain⟨R2,x2⟩:=R1.hid (ho:=.lst xs) hl;exact hQ ρ1 _ l xs (x1.trans R1 x2) R2 (x1.none hR hl R1) (R1.out hl) AL (r1.ext R1 x2)
def F6:I->Option V
 |.non=>some .non
 |.bl b=>some (.bl b)
 |.int i=>some (.int i)
 |.str x=>some (.str x)
 |.tup _=>none
def Cp:List D->Option (List V)
 |[]=>some []
 |.im i::r=>(F6 i).bind λv=>(Cp r).map (v::·)
 |_::_=>none
def MM{i:I}{v w:V}(e:F6 i=some w)(h:RI K H i v):v=w/\E1 w=true:=by
 cases i with
 |tup _=>simp[F6]at e
 |_=>simp only[F6,Option.some.injEq]at e;subst e;exact⟨by simpa only[RI]using h,rfl⟩
def KC:∀{ds:List D} {vs ws:List V},Cp ds=some ws->RDs K ρ H ds vs->vs=ws/\ws.all E1=true
 |[],vs,ws,e,h=>by simp[Cp]at e;subst e;simp only[RDs]at h;subst h;exact⟨rfl,rfl⟩
 |.im i::r,vs,ws,e,h=>by
  simp only[Cp]at e;obtain⟨v,e1,e⟩:=cu e;obtain⟨us,e2,rfl⟩:=cv e;simp only[RDs,RD]at h;obtain⟨x,y,rfl,h1,h2⟩:=h;obtain⟨rfl,f1⟩:=MM e1 h1;obtain⟨rfl,f2⟩:=KC e2 h2;exact⟨rfl,by simp[f1,f2]⟩
 |.mu _::_,_,_,e,_=>by simp[Cp]at e
 |.tm _::_,_,_,e,_=>by simp[Cp]at e
 |.ro _::_,_,_,e,_=>by simp[Cp]at e
def gIn(neg:Bool):D->D->Hd->Option (D×Hd)
 |.im i,e,hd=>(F6 i).bind λx=>(B3 hd e).bind λds=>(Cp ds).map λxs=>(.im (.bl (if neg then !inV x xs else inV x xs)),hd)
 |_,_,_=>none
def Tq{neg:Bool}:RB K (rIn K neg) (gIn neg):=by
 intro ρ H hd d e v u Q z hd' hR h1 h2 hf hQ;unfold gIn at hf;split at hf
 .obtain⟨x,e1,hf⟩:=cu hf;obtain⟨ds,e2,hf⟩:=cu hf;obtain⟨xs,e3,e4⟩:=cv hf;cases e4;simp only[RD]at h1;obtain⟨rfl,f1⟩:=MM e1 h1;obtain⟨a,ys,rfl,q,r⟩:=h2.seq hR e2;obtain⟨rfl,f2⟩:=KC e3 r;exact⟨a,ys,rfl,q,f1,f2,hQ ρ H _ .refl hR (by simp[RD,RI])⟩
 .cases hf
def mMt(f:D->List D->Hd->Option (D×Hd))(mo:ME)(ma:MA):ME:=λls hd=>(mo ls hd).bind λp=>match BE p.2 p.1 with
 |some _=>(ma ls p.2).bind λq=>f p.1 q.1 q.2
 |none=>none
def RM(K:PySem.W.Frag)(r:V->List V->Hp->VK->Prop)(f:D->List D->Hd->Option (D×Hd)):Prop:=∀(ρ:List Addr) (H:Hp) (hd:Hd) (d:D) (v:V) (ds:List D) (vs:List V) (Q:VK) (z:D) (hd':Hd),RH K ρ H hd->RD K ρ H d v->RDs K ρ H ds vs->f d ds hd=some (z,hd') ->
 (∀ρ' H' w,Ext ρ H ρ' H'->RH K ρ' H' hd'->RD K ρ' H' z w->Q w H')->r v vs H Q
def ZW{r:V->List V->Hp->VK->Prop}{f:D->List D->Hd->Option (D×Hd)}{to:TE}{t:TA}{mo:ME}{ma:MA}(hr:RM K r f)(ho:RE K to mo)(ha:RA K t ma):RE K (tBM K "list" r to t) (mMt f mo ma):=by
 and_intros;obtain⟨⟨d1,h1⟩,e1,hm⟩:=cu hm;dsimp only at hm;split at hm
 .next e=>
  obtain⟨⟨d2,h2⟩,e2,hm⟩:=cu hm;refine ho ρ σ H hd ls _ d1 h1 hR hL e1 λρ1 H1 v x1 R1 r1=>⟨?_,?_⟩
  .obtain⟨a,xs,rfl,q,_⟩:=r1.lst R1 e;exact .inl ⟨rfl,xs,q⟩
  .exact ha ρ1 σ H1 h1 ls _ d2 h2 R1 (hL.ext hR x1) e2 λρ2 H2 vs x2 R2 r2=>hr ρ2 H2 h2 d1 v d2 vs Q d hd' R2 (r1.ext R1 x2) r2 hm λρ' H' w x3 R3 r3=>hQ ρ' H' w ((x1.trans R1 x2).trans R2 x3) R3 r3
 .cases hm
open Classical in
def BF:D->List D->Hd->Option (D×Hd)
 |.mu n,[x],hd=>match hd[n]? with
  |some (.lst ds)=>if F7 ds.length then some (.im .non,hd.set n (.lst (ds++[x])))else none
  |_=>none
 |_,_,_=>none
def Pi:RM K NO BF:=by
 intro ρ H hd d v ds vs Q z hd' hR h1 h2 hf hQ;unfold BF at hf;split at hf
 .split at hf
  .next q=>
   split at hf
   .next c=>
    cases hf;simp only[RD]at h1;obtain⟨a,hn,rfl⟩:=h1;simp only[RDs]at h2;obtain⟨x,r,rfl,rx,rfl⟩:=h2;obtain⟨xs,e1,e2⟩:=hR.lst hn q;obtain⟨R2,x2⟩:=hR.put hn (o:=.lst (_++[_])) (ho:=.lst (xs++[x])) ⟨_,rfl,e2.app (.cons rx .nil)⟩;exact⟨a,xs,x,rfl,rfl,e1,by rw[e2.len];exact c,hQ ρ _ _ x2 R2 (by simp[RD,RI])⟩
   .cases hf
  .cases hf
 .cases hf
end
end L2
namespace L2
open PySem PySem.Spec PyProof.Rows
section
variable{K:PySem.W.Frag}{ρ ρ':List Addr}{H H':Hp}{hd hd':Hd}
def AS:MS:=λls hd=>some (.nx ls,hd)
def NE:RS K IR AS:=by
 intro ρ σ H hd ls E f hd' hR hL hm hQ;cases hm;exact hQ ρ H .refl hR σ hL
def A8(a b:MS):MS:=λls hd=>(a ls hd).bind λp=>match p.1 with
 |.nx ls1=>b ls1 p.2
 |f=>some (f,p.2)
def Wt{t u:TS}{a b:MS}(ha:RS K t a)(hb:RS K u b):RS K (Rj t u) (A8 a b):=by
 intro ρ σ H hd ls E f hd' hR hL hm hQ;obtain⟨⟨f1,h1⟩,e1,hm⟩:=cu hm;refine ha ρ σ H hd ls { E with nx:=u E } f1 h1 hR hL e1 λρ1 H1 x1 R1=>?_;cases f1 with
 |nx ls1=>
  intro σ1 L1;exact hb ρ1 σ1 H1 h1 ls1 E f hd' R1 L1 hm λρ2 H2 x2 R2=>hQ ρ2 H2 (x1.trans R1 x2) R2
 |bk ls1=>cases hm;exact hQ ρ1 H1 x1 R1
 |ct ls1=>cases hm;exact hQ ρ1 H1 x1 R1
 |rt d=>cases hm;exact hQ ρ1 H1 x1 R1
def Yr:MS:=λls hd=>some (.bk ls,hd)
def aB:MS:=λls hd=>some (.ct ls,hd)
def Bp(m:ME):MS:=λls hd=>(m ls hd).bind λp=>some (.nx ls,p.2)
def UX{t:TE}{m:ME}(h:RE K t m):RS K (O4 t) (Bp m):=by
 intro ρ σ H hd ls E f hd' hR hL hm hQ;obtain⟨⟨d1,h1⟩,e1,hm⟩:=cu hm;cases hm;exact h ρ σ H hd ls _ d1 _ hR hL e1 λρ1 H1 v x1 R1 r1=>hQ ρ1 H1 x1 R1 σ (hL.ext hR x1)
def AN(m:ME):MS:=λls hd=>(m ls hd).bind λp=>some (.rt p.1,p.2)
def Wu{t:TE}{m:ME}(h:RE K t m):RS K (Rk t) (AN m):=by
 intro ρ σ H hd ls E f hd' hR hL hm hQ;obtain⟨⟨d1,h1⟩,e1,hm⟩:=cu hm;cases hm;exact h ρ σ H hd ls _ d1 _ hR hL e1 λρ1 H1 v x1 R1 r1=>hQ ρ1 H1 x1 R1 v r1
def a7:MS:=λ_ hd=>some (.rt (.im .non),hd)
def Aa(c:MT)(a b:MS):MS:=λls hd=>(c ls hd).bind λp=>if p.1=true then a ls p.2 else b ls p.2
def ZU{tc:TT}{t u:TS}{c:MT}{a b:MS}(hc:RT K tc c)(ha:RS K t a)(hb:RS K u b):RS K (Rq tc t u) (Aa c a b):=by
 intro ρ σ H hd ls E f hd' hR hL hm hQ;obtain⟨⟨d1,h1⟩,e1,hm⟩:=cu hm;refine hc ρ σ H hd ls _ d1 h1 hR hL e1 λρ1 H1 x1 R1=>?_;cases d1 with
 |true=>
  rw[if_pos rfl]at hm ⊢;exact ha ρ1 σ H1 h1 ls E f hd' R1 (hL.ext hR x1) hm λρ2 H2 x2 R2=>hQ ρ2 H2 (x1.trans R1 x2) R2
 |false=>
  rw[if_neg Bool.false_ne_true]at hm ⊢;exact hb ρ1 σ H1 h1 ls E f hd' R1 (hL.ext hR x1) hm λρ2 H2 x2 R2=>hQ ρ2 H2 (x1.trans R1 x2) R2
def Cj:MS:=λ_ _=>none
def S9:RS K LM Cj:=by
 intro ρ σ H hd ls E f hd' hR hL hm hQ;cases hm
abbrev MG:=D->Ls->Hd->Option Ls
abbrev MGs:=List D->Ls->Hd->Option Ls
def RGt(K:PySem.W.Frag)(t:TG)(m:MG):Prop:=∀(ρ:List Addr) (σ:St) (H:Hp) (hd:Hd) (ls ls':Ls) (d:D) (v:V) (Q:St->Hp->Prop),RH K ρ H hd->RL K ρ H ls σ->RD K ρ H d v->m d ls hd=some ls' ->
 (∀σ',RL K ρ H ls' σ'->Q σ' H)->t v σ H Q
def Mi(K:PySem.W.Frag)(t:TGs)(m:MGs):Prop:=∀(ρ:List Addr) (σ:St) (H:Hp) (hd:Hd) (ls ls':Ls) (d:List D) (v:List V) (Q:St->Hp->Prop),RH K ρ H hd->RL K ρ H ls σ->RDs K ρ H d v->m d ls hd=some ls' ->
 (∀σ',RL K ρ H ls' σ'->Q σ' H)->t v σ H Q
def RL.set{ls:Ls}{σ:St}{d:D}{v:V}(h:RL K ρ H ls σ)(i:Nat)(r:RD K ρ H d v):RL K ρ H (ls.set i (some d)) (σ.set i (some v)):=by
 refine⟨by simp[h.len],λj e q=>?_⟩;by_cases hij:i=j
 .subst hij;have hl:i<ls.length:=by
   have:=(List.getElem?_eq_some_iff.mp q).1;simpa using this
  rw[List.getElem?_set_self hl]at q;cases q;exact⟨v,by rw[List.getElem?_set_self (by rw[<- h.len];exact hl)],r⟩
 .rw[List.getElem?_set_ne hij]at q;obtain⟨w,e1,e2⟩:=h.ob j e q;exact⟨w,by rw[List.getElem?_set_ne hij];exact e1,e2⟩
def AA(i:Nat):MG:=λd ls _=>some (ls.set i (some d))
def JT{i:Nat}:RGt K (Dz i) (AA i):=by
 intro ρ σ H hd ls ls' d v Q hR hL hd hm hQ;cases hm;exact hQ _ (hL.set i hd)
def Aw:MGs:=λds ls _=>match ds with
 |[]=>some ls
 |_=>none
def AH(m:MG)(r:MGs):MGs:=λds ls hd=>match ds with
 |d::es=>(m d ls hd).bind λls1=>r es ls1 hd
 |[]=>none
def Ue:Mi K TJ Aw:=by
 intro ρ σ H hd ls ls' d v Q hR hL hd hm hQ;cases d with
 |nil=>
  simp only[RDs]at hd;subst hd;cases hm;exact⟨rfl,hQ _ hL⟩
 |cons a b=>cases hm
def SF{t:TG}{u:TGs}{m:MG}{r:MGs}(h:RGt K t m)(h':Mi K u r):Mi K (Ow t u) (AH m r):=by
 intro ρ σ H hd ls ls' d v Q hR hL hd hm hQ;cases d with
 |nil=>cases hm
 |cons a b=>
  simp only[RDs]at hd;obtain⟨x,y,rfl,h1,h2⟩:=hd;obtain⟨ls1,e1,e2⟩:=cu hm;exact⟨x,y,rfl,h ρ σ H _ ls ls1 a x _ hR hL h1 e1 λσ1 L1=>h' ρ σ1 H _ ls1 ls' b y Q hR L1 h2 e2 hQ⟩
def Av(n:Nat)(r:MGs):MG:=λd ls hd=>(Ae d).bind λds=>if ds.length=n then r ds ls hd else none
def X7{n:Nat}{u:TGs}{r:MGs}(h':Mi K u r):RGt K (Ov K n u) (Av n r):=by
 intro ρ σ H hd ls ls' d v Q hR hL hd hm hQ;obtain⟨ds,e1,hm⟩:=cu hm;split at hm
 .next c=>
  obtain⟨a,xs,rfl,q,rr⟩:=hd.tup e1;exact⟨a,xs,rfl,q,by rw[rr.len];exact c,h' ρ σ H _ ls ls' ds xs Q hR hL rr hm hQ⟩
 .cases hm
def EI(m:ME)(g:MG):MS:=λls hd=>(m ls hd).bind λp=>(g p.1 ls p.2).map λls'=>(.nx ls',p.2)
def LZ{t:TE}{m:ME}{g:TG}{n:MG}(h:RE K t m)(hg:RGt K g n):RS K (Ej t g) (EI m n):=by
 intro ρ σ H hd ls E f hd' hR hL hm hQ;obtain⟨⟨d1,h1⟩,e1,hm⟩:=cu hm;obtain⟨ls',e2,e3⟩:=cv hm;cases e3;exact h ρ σ H hd ls _ d1 _ hR hL e1 λρ1 H1 v x1 R1 r1=>hg ρ1 σ H1 _ ls ls' d1 v _ R1 (hL.ext hR x1) r1 e2 λσ' L'=>hQ ρ1 H1 x1 R1 σ' L'
abbrev AM(i:Nat)(m:ME):MS:=EI m (AA i)
def T2(ix:List Nat)(ma:MA):MS:=λls hd=>(ma ls hd).bind λp=>if p.1.length=ix.length then some (.nx ((ix.zip p.1).foldl (λl q=>l.set q.1 (some q.2)) ls),p.2)else none
def a8(i j k:Nat)(ma:MA):MS:=T2 [k,j,i] (λls hd=>(ma ls hd).map λp=>(p.1.reverse,p.2))
abbrev Gd:=List (Nat×List D)
abbrev MI:=Ls->Hd->Option ((List D×Gd)×Hd)
def GOk(hd:Hd)(g:Gd):Prop:=∀p∈g,hd[p.1]?=some (.lst p.2)
@[simp] theorem AR(hd:Hd):GOk hd []:=λp h=>by cases h
def Mg(K:PySem.W.Frag)(ρ:List Addr)(H:Hp)(J:It)(ds:List D)(g:Gd):Prop:=∀(ρ2:List Addr) (H2:Hp) (hd2:Hd),Ext ρ H ρ2 H2->RH K ρ2 H2 hd2->GOk hd2 g ->
 ∀i:Nat,(i<ds.length->J.go i H2/\∀x H3,J.yld i H2 x H3->∃ρ3 d,Ext ρ2 H2 ρ3 H3/\ρ3=ρ2/\RH K ρ3 H3 hd2/\ds[i]?=some d/\RD K ρ3 H3 d x)/\(i=ds.length->J.stop i H2)
def RIt(K:PySem.W.Frag)(t:TI)(m:MI):Prop:=∀(ρ:List Addr) (σ:St) (H:Hp) (hd:Hd) (ls:Ls) (Q:It->Hp->Prop) (d:List D) (g:Gd) (hd':Hd),RH K ρ H hd->RL K ρ H ls σ->m ls hd=some ((d,g),hd') ->
 (∀ρ' H' J,Ext ρ H ρ' H'->RH K ρ' H' hd'->GOk hd' g->Mg K ρ' H' J d g->Q J H')->t σ H Q
def Np{a:Addr}{xs:List V}{ds:List D}(hR:RH K ρ H hd)(q:SqT K H a xs)(r:RDs K ρ H ds xs)(g:Gd):Mg K ρ H (Itt K a) ds g:=by
 intro ρ2 H2 hd2 x2 R2 _ i;have q2:=(x2.grow hR).sq q;have r2:=r.ext hR x2;have uniq:∀ys,SqT K H2 a ys->True:=λ_ _=>trivial;refine⟨λhi=>?_,λhi=>⟨xs,q2,by rw[r2.len,hi];exact le_refl _⟩⟩;have e:ds[i]?=some ds[i]:=by simp[hi]
 obtain⟨x,x1,x3⟩:=r2.get e;refine⟨⟨xs,x,q2,x1⟩,λy H3 ⟨e3,hy⟩=>?_⟩;subst e3;have:=hy xs q2;rw[x1]at this;cases this;exact⟨ρ2,_,.refl,rfl,R2,e,x3⟩
def Ak(m:ME):MI:=λls hd=>(m ls hd).bind λp=>(Ae p.1).map λds=>((ds,[]),p.2)
def X4{t:TE}{m:ME}(h:RE K t m):RIt K (Os K t) (Ak m):=by
 intro ρ σ H hd ls Q d g hd' hR hL hm hQ;obtain⟨⟨d1,h1⟩,e1,hm⟩:=cu hm;obtain⟨ds,e2,e3⟩:=cv hm;cases e3;refine h ρ σ H hd ls _ d1 _ hR hL e1 λρ1 H1 v x1 R1 r1=>?_;obtain⟨a,xs,rfl,q,r⟩:=r1.tup e2;exact⟨a,rfl,⟨xs,q⟩,hQ ρ1 H1 _ x1 R1 (AR _) (Np R1 q r [])⟩
def CZ(m:ME):MI:=λls hd=>(m ls hd).bind λp=>match p.1 with
 |.mu n=>match p.2[n]? with
  |some (.lst ds)=>some ((ds,[(n,ds)]),p.2)
  |_=>none
 |.ro ns=>some ((ns.map λn=>.im (.int n),[]),p.2)
 |_=>none
def Uc{t:TE}{m:ME}(h:RE K t m):RIt K (HW K t) (CZ m):=by
 intro ρ σ H hd ls Q d g hd' hR hL hm hQ;obtain⟨⟨d1,h1⟩,e1,hm⟩:=cu hm;dsimp only at hm;split at hm
 .next n=>
  split at hm
  .next ds q=>
   cases hm;refine h ρ σ H hd ls _ _ _ hR hL e1 λρ1 H1 v x1 R1 r1=>?_;simp only[RD]at r1;obtain⟨a,hn,rfl⟩:=r1;obtain⟨xs,e2,e3⟩:=R1.lst hn q;refine⟨a,rfl,⟨xs,SqL.of e2⟩,hQ ρ1 H1 _ x1 R1 (λp z=>by simp at z;subst z;exact q) ?_⟩;intro ρ2 H2 hd2 x2 R2 G2 i;have q2:=G2 (n,d) (by simp);have hn2:ρ2[n]?=some a:=by
    obtain⟨r,rfl,_⟩:=x2.pre;rw[List.getElem?_append_left (List.getElem?_eq_some_iff.mp hn).1];exact hn
   obtain⟨ys,e4,e5⟩:=R2.lst hn2 q2;refine⟨λhi=>?_,λhi=>⟨ys,SqL.of e4,by rw[e5.len,hi];exact le_refl _⟩⟩;have e:d[i]?=some d[i]:=by simp[hi]
   obtain⟨x,y1,y2⟩:=e5.get e;refine⟨⟨ys,x,SqL.of e4,y1⟩,λy H3 ⟨e6,hy⟩=>?_⟩;subst e6;have:=hy ys (SqL.of e4);rw[y1]at this;cases this;exact⟨ρ2,_,.refl,rfl,R2,e,y2⟩
  .cases hm
 .next ns=>
  cases hm;refine h ρ σ H hd ls _ _ _ hR hL e1 λρ1 H1 v x1 R1 r1=>?_;simp only[RD]at r1;obtain⟨a,rfl,q⟩:=r1;refine⟨a,rfl,⟨_,q.sq⟩,hQ ρ1 H1 _ x1 R1 (AR _) ?_⟩;intro ρ2 H2 hd2 x2 R2 G2 i;have q2:=(q.grow (x2.grow R1)).sq;have e5:RDs K ρ2 H2 (ns.map λn=>.im (.int n)) (ns.map V.int):=Ds;refine⟨λhi=>?_,λhi=>⟨_,q2,by rw[e5.len,hi];exact le_refl _⟩⟩;have e:(ns.map λn=>D.im (.int n))[i]?=some ((ns.map λn=>D.im (.int n))[i]):=by simp[hi]
  obtain⟨x,y1,y2⟩:=e5.get e;refine⟨⟨_,x,q2,y1⟩,λy H3 ⟨e6,hy⟩=>?_⟩;subst e6;have:=hy _ q2;rw[y1]at this;cases this;exact⟨ρ2,_,.refl,rfl,R2,e,y2⟩
 .cases hm
def EH(ml:MA):MI:=λls hd=>(ml ls hd).map λp=>((p.1,[]),p.2)
def X6{t:TE}{m:MA}(h:RN K t m):RIt K (HW K t) (EH m):=by
 intro ρ σ H hd ls Q d g hd' hR hL hm hQ;obtain⟨⟨d1,h1⟩,e1,e3⟩:=cv hm;obtain⟨⟨rfl,rfl⟩,rfl⟩:=Prod.mk.inj e3 |>.imp Prod.mk.inj id;clear e3 hm;refine h ρ σ H hd ls _ _ _ hR hL e1 λρ1 H1 a xs x1 R1 na oa ea r1=>?_;refine⟨a,rfl,⟨xs,SqL.of ea⟩,hQ ρ1 H1 _ x1 R1 (AR _) ?_⟩;intro ρ2 H2 hd2 x2 R2 G2 i;have q2:SqL K H2 a xs:=SqL.of (x2.keep a _ ea oa nt);have r2:=r1.ext R1 x2;refine⟨λhi=>?_,λhi=>⟨xs,q2,by rw[r2.len,hi];exact le_refl _⟩⟩;have hi:i<d1.length:=hi;have e:d1[i]?=some d1[i]:=by simp[hi]
 obtain⟨x,y1,y2⟩:=r2.get e;refine⟨⟨xs,x,q2,y1⟩,λy H3 ⟨e6,hy⟩=>?_⟩;subst e6;have:=hy xs q2;rw[y1]at this;cases this;exact⟨ρ2,_,.refl,rfl,R2,e,y2⟩
def Ar(lo:Int):Nat->List D
 |0=>[]
 |n+1=>.im (.int lo)::Ar (lo+1) n
@[simp] theorem Ih(lo:Int)(n:Nat):(Ar lo n).length=n:=by
 induction n generalizing lo with
 |zero=>rfl
 |succ n ih=>simp[Ar,ih]
def Ii{n:Nat}:∀{lo:Int} {i:Nat},i<n->(Ar lo n)[i]?=some (.im (.int (lo+i))):=by
 induction n with
 |zero=>intro lo i h;omega
 |succ n ih=>
  intro lo i h;cases i with
  |zero=>simp[Ar]
  |succ i=>
   simp only[Ar,List.getElem?_cons_succ];rw[ih (by omega)]
   congr 3
   push_cast
   omega
def Nq{lo:Int}{n:Nat}{g:Gd}:Mg K ρ H (Itr lo n) (Ar lo n) g:=by
 intro ρ2 H2 hd2 x2 R2 G2 i;refine⟨λhi=>?_,λhi=>by rw[hi,Ih];exact le_refl _⟩;rw[Ih]at hi;refine⟨hi,λx H3 ⟨e1,e2⟩=>?_⟩;subst e1 e2;exact⟨ρ2,_,.refl,rfl,R2,Ii hi,by simp[RD,RI]⟩
open Classical in
def Er(m:MA):MI:=λls hd=>(m ls hd).bind λp=>match p.1 with
 |[.im (.int j)]=>if JS j then some ((Ar 0 j.toNat,[]),p.2)else none
 |_=>none
def Ub{t:TA}{m:MA}(h:RA K t m):RIt K (Ot t) (Er m):=by
 intro ρ σ H hd ls Q d g hd' hR hL hm hQ;obtain⟨⟨d1,h1⟩,e1,hm⟩:=cu hm;dsimp only at hm;split at hm
 .next j=>
  split at hm
  .next c=>
   cases hm;refine h ρ σ H hd ls _ _ _ hR hL e1 λρ1 H1 v x1 R1 r1=>?_;simp only[RDs,RD,RI]at r1;obtain⟨x,r,rfl,rfl,rfl⟩:=r1;exact⟨j,rfl,c.1,c.2,hQ ρ1 H1 _ x1 R1 (AR _) Nq⟩
  .cases hm
 .cases hm
open Classical in
def aA(m:MA):MI:=λls hd=>(m ls hd).bind λp=>match p.1 with
 |[.im (.int i),.im (.int j)]=>if Wy i j then some ((Ar i (j-i).toNat,[]),p.2)else none
 |_=>none
open Classical in
def Aq(n:MG)(b:MS)(g:Gd):List D->Ls->Hd->Option (Fl×Hd)
 |[],ls,hd=>some (.nx ls,hd)
 |d::r,ls,hd=>(n d ls hd).bind λls1=>(b ls1 hd).bind λp=>match p.1 with
  |.nx ls2=>if GOk p.2 g then Aq n b g r ls2 p.2 else none
  |.ct ls2=>if GOk p.2 g then Aq n b g r ls2 p.2 else none
  |.bk ls2=>some (.nx ls2,p.2)
  |.rt d=>some (.rt d,p.2)
def BI(mi:MI)(n:MG)(b:MS):MS:=λls hd=>(mi ls hd).bind λp=>Aq n b p.1.2 p.1.1 ls p.2
def Wv{wi:TI}{g:TG}{tb:TS}{mi:MI}{n:MG}{b:MS}(hi:RIt K wi mi)(hg:RGt K g n)(hb:RS K tb b):RS K (Rr wi g tb) (BI mi n b):=by
 intro ρ σ H hd ls E f hd' hR hL hm hQ;obtain⟨⟨⟨ds,gd⟩,h1⟩,e1,hm⟩:=cu hm;refine hi ρ σ H hd ls _ ds gd h1 hR hL e1 λρ1 H1 J x1 R1 G1 Y=>?_;dsimp only at hm;refine⟨λi m σ2 H2=>m=ds.length-i/\i<=ds.length/\∃ρ2 ls2 hd2,Ext ρ1 H1 ρ2 H2/\RH K ρ2 H2 hd2/\RL K ρ2 H2 ls2 σ2/\GOk hd2 gd/\Aq n b gd (ds.drop i) ls2 hd2=some (f,hd'),
  ⟨ds.length,by simp,zero_le _,ρ1,ls,h1,.refl,R1,hL.ext hR x1,G1,by simpa using hm⟩,?_⟩
 rintro i m σ2 H2 ⟨rfl,hi,ρ2,ls2,hd2,x2,R2,L2',G2,hm2⟩;obtain⟨Y1,Y2⟩:=Y ρ2 H2 hd2 x2 R2 G2 i;by_cases hlt:i<ds.length
 .obtain⟨go,Y1⟩:=Y1 hlt;have ed:ds.drop i=ds[i]::ds.drop (i+1):=List.drop_eq_getElem_cons hlt;rw[ed]at hm2;unfold Aq at hm2;obtain⟨ls3,e3,hm2⟩:=cu hm2;obtain⟨⟨fl,hd4⟩,e4,hm2⟩:=cu hm2;refine .inr ⟨go,λσ' H'=>∃ρ2 ls2 hd2,Ext ρ1 H1 ρ2 H'/\RH K ρ2 H' hd2/\RL K ρ2 H' ls2 σ'/\GOk hd2 gd/\Aq n b gd (ds.drop (i+1)) ls2 hd2=some (f,hd'),λσ' H' z=>⟨ds.length-(i+1),by omega,rfl,hlt,z⟩,λx H3 y=>?_⟩;obtain⟨ρ3,d3,x3,rfl,R3,e5,r3⟩:=Y1 x H3 y;have e6:d3=ds[i]:=by
   have:ds[i]?=some ds[i]:=by simp[hlt]
   rw[this]at e5;exact(Option.some.inj e5).symm
  subst e6;refine hg ρ3 σ2 H3 hd2 ls2 ls3 _ x _ R3 (L2'.ext R2 x3) r3 e3 λσ4 L4=>?_;refine hb ρ3 σ4 H3 hd2 ls3 _ fl hd4 R3 L4 e4 λρ5 H5 x5 R5=>?_;have x15:=(x2.trans R2 x3).trans R3 x5;cases fl with
  |nx ls5=>
   intro σ5 L5;dsimp only at hm2;split at hm2
   .next c=>exact⟨ρ5,ls5,hd4,x15,R5,L5,c,hm2⟩
   .cases hm2
  |ct ls5=>
   intro σ5 L5;dsimp only at hm2;split at hm2
   .next c=>exact⟨ρ5,ls5,hd4,x15,R5,L5,c,hm2⟩
   .cases hm2
  |bk ls5=>
   intro σ5 L5;cases hm2;exact hQ ρ5 H5 (x1.trans R1 x15) R5 σ5 L5
  |rt d5=>
   intro v5 r5;cases hm2;exact hQ ρ5 H5 (x1.trans R1 x15) R5 v5 r5
 .have e:i=ds.length:=by omega
  subst e;rw[List.drop_length]at hm2;unfold Aq at hm2;cases hm2;exact .inl ⟨Y2 rfl,hQ ρ2 H2 (x1.trans R1 x2) R2 σ2 L2'⟩
open Classical in
def Ap(n:MG)(c:MT)(m:ME)(g:Gd):List D->Ls->Hd->Option (List D×Hd)
 |[],_,hd=>some ([],hd)
 |d::r,ls,hd=>(n d ls hd).bind λls1=>(c ls1 hd).bind λp=>if p.1=true then(m ls1 p.2).bind λq=>if GOk q.2 g then(Ap n c m g r ls1 q.2).map λz=>(q.1::z.1,z.2)else none else if GOk p.2 g then Ap n c m g r ls1 p.2 else none
def E4(k:Nat)(ix:List Nat)(ls:Ls):Ls:=List.replicate k none++ix.map λi=>(ls[i]?).join
open Classical in
def Ao(k:Nat)(ix:List Nat)(mi:MI)(n:MG)(c:MT)(m:ME):MA:=λls hd=>(mi ls hd).bind λp=>if Bn p.1.1.length then Ap n c m p.1.2 p.1.1 (E4 k ix ls) p.2 else none
def WH{k:Nat}{ix:List Nat}{ls:Ls}{σ:St}(h:RL K ρ H ls σ):RL K ρ H (E4 k ix ls) (HC k ix σ):=by
 refine⟨by simp[E4,HC],λi d e=>?_⟩;unfold E4 at e;unfold HC;by_cases hi:i<k
 .rw[List.getElem?_append_left (by simpa using hi),List.getElem?_replicate]at e;split at e<;>cases e
 .have hi':k<=i:=Nat.not_lt.mp hi;rw[List.getElem?_append_right (by simpa using hi'),List.length_replicate,List.getElem?_map]at e ⊢;cases q:ix[i-k]? with
  |none=>rw[q]at e;cases e
  |some j=>
   rw[q]at e;simp only[map_some,Option.some.injEq]at e ⊢;have e5:ls[j]?=some (some d):=by
    cases w:ls[j]? with
    |none=>rw[w]at e;cases e
    |some z=>rw[w]at e;simpa using e
   obtain⟨v,e6,e7⟩:=h.ob j d e5;exact⟨v,by rw[e6];rfl,e7⟩
def NG{k:Nat}{ix:List Nat}{wi:TI}{g:TG}{tf:TT}{te:TE}{mi:MI}{n:MG}{c:MT}{m:ME}(hi:RIt K wi mi)(hg:RGt K g n)(hf:RT K tf c)(he:RE K te m):RN K (Fk k ix wi g tf te) (Ao k ix mi n c m):=by
 intro ρ σ H hd ls Q out hd' hR hL hm hQ;obtain⟨⟨⟨ds,gd⟩,h1⟩,e1,hm⟩:=cu hm;dsimp only at hm;split at hm
 .next hlen=>
  have hlen:ds.length<=sizeLine:=hlen;refine hi ρ σ H hd ls _ ds gd h1 hR hL e1 λρ1 H1 J x1 R1 G1 Y=>?_;intro Da hDa;obtain⟨R1',x1'⟩:=R1.hid (ho:=.lst []) hDa;have oD:Da∉ρ1:=R1.out hDa;have nD:H Da=none:=x1.none hR hDa R1;refine⟨λi mm σ2 ys H2=>mm=ds.length-i/\i<=ds.length/\∃ρ2 ls2 hd2 es rest,Ext ρ1 (upd H1 Da (.lst ys)) ρ2 H2/\Ext ρ1 H1 ρ2 H2/\Da∉ρ2/\H2 Da=some (.lst ys)/\RH K ρ2 H2 hd2/\RL K ρ2 H2 ls2 σ2/\RDs K ρ2 H2 es ys/\es.length<=i/\GOk hd2 gd/\Ap n c m gd (ds.drop i) ls2 hd2=some (rest,hd')/\out=es++rest,
   ⟨ds.length,by simp,zero_le _,ρ1,_,h1,[],out,.refl,x1',oD,AL,R1',(WH ((hL.ext hR x1).ext R1 x1')),.nil,le_refl _,G1,by simpa using hm,rfl⟩,?_⟩
  rintro i mm σ2 ys H2 ⟨rfl,hi,ρ2,ls2,hd2,es,rest,x2',x2,oD2,hD2,R2,L2',r2,hle,G2,hm2,rfl⟩;refine⟨hD2,?_⟩;obtain⟨Y1,Y2⟩:=Y ρ2 H2 hd2 x2 R2 G2 i;by_cases hlt:i<ds.length
  .obtain⟨go,Y1⟩:=Y1 hlt;have ed:ds.drop i=ds[i]::ds.drop (i+1):=List.drop_eq_getElem_cons hlt;rw[ed]at hm2;unfold Ap at hm2;obtain⟨ls3,e3,hm2⟩:=cu hm2;obtain⟨⟨bb,hd4⟩,e4,hm2⟩:=cu hm2;refine .inr ⟨go,Nat.lt_of_le_of_lt (by rw[r2.len];exact hle) (by omega),λσ' ys' H'=>∃ρ2 ls2 hd2 es' rest',Ext ρ1 (upd H1 Da (.lst ys')) ρ2 H'/\Ext ρ1 H1 ρ2 H'/\Da∉ρ2/\H' Da=some (.lst ys')/\RH K ρ2 H' hd2/\RL K ρ2 H' ls2 σ'/\RDs K ρ2 H' es' ys'/\es'.length<=i+1/\GOk hd2 gd/\Ap n c m gd (ds.drop (i+1)) ls2 hd2=some (rest',hd')/\es++rest=es'++rest',λσ' ys' H' z=>⟨ds.length-(i+1),by omega,rfl,hlt,z⟩,λx H3 y=>?_⟩;obtain⟨ρ3,d3,x3,rfl,R3,e5,r3⟩:=Y1 x H3 y;have e6:d3=ds[i]:=by
    have:ds[i]?=some ds[i]:=by simp[hlt]
    rw[this]at e5;exact(Option.some.inj e5).symm
   subst e6;refine hg ρ3 σ2 H3 hd2 ls2 ls3 _ x _ R3 (L2'.ext R2 x3) r3 e3 λσ4 L4=>?_;refine hf ρ3 σ4 H3 hd2 ls3 _ bb hd4 R3 L4 e4 λρ5 H5 x5 R5=>?_;have hD5:H5 Da=some (.lst ys):=x5.keep Da _ (x3.keep Da _ hD2 oD2 nt) oD2 nt;have out5:Da∉ρ5:=by
    obtain⟨r,rfl,fr⟩:=x5.pre;intro z;rcases mem_append.mp z with z|z
    .exact oD2 z
    .have:=fr _ z;rw[x3.keep Da _ hD2 oD2 nt]at this;cases this
   cases bb with
   |false=>
    rw[if_neg Bool.false_ne_true]at hm2 ⊢;have y25:=x3.trans R3 x5;split at hm2
    .next g5=>exact⟨ρ5,ls3,hd4,es,rest,x2'.trans R2 y25,(x2.trans R2 y25),out5,hD5,R5,L4.ext R3 x5,(r2.ext R2 y25),by omega,g5,hm2,rfl⟩
    .cases hm2
   |true=>
    rw[if_pos rfl]at hm2 ⊢;obtain⟨⟨z,hd6⟩,e6,hm2⟩:=cu hm2;obtain⟨g6,hm2⟩:GOk hd6 gd/\((Ap n c m gd (ds.drop (i+1)) ls3 hd6).map λq=>(z::q.1,q.2))=some (rest,hd'):=by
     dsimp only at hm2;split at hm2
     .next g6=>exact⟨g6,hm2⟩
     .cases hm2
    obtain⟨⟨zs,hd7⟩,e7,e8⟩:=cv hm2;cases e8;refine he ρ5 σ4 H5 hd4 ls3 _ z hd6 R5 (L4.ext R3 x5) e6 λρ6 H6 v6 x6 R6 r6=>?_;have hD6:H6 Da=some (.lst ys):=x6.keep Da _ hD5 out5 nt;have out6:Da∉ρ6:=by
     obtain⟨r,rfl,fr⟩:=x6.pre;intro z;rcases mem_append.mp z with z|z
     .exact out5 z
     .have:=fr _ z;rw[hD5]at this;cases this
    refine⟨hD6,?_⟩;have y26:=(x3.trans R3 x5).trans R5 x6;have gr:Grow H6 (upd H6 Da (.lst (ys++[v6]))):=Grow.refl.put (.lst hD6);have R7:=R6.hput (ho:=.lst (ys++[v6])) out6 hD6;have x12:=x2.trans R2 y26;have ext7:Ext ρ1 H1 ρ6 (upd H6 Da (.lst (ys++[v6]))):=⟨x12.pre,λb o q nb t=>by
     have:b≠Da:=AV q hDa;rw[AE this];exact x12.keep b o q nb t,λb ps q=>by
     have:b≠Da:=AV q hDa;rw[AE this];exact x12.tab b ps q⟩
    have ext8:Ext ρ1 (upd H1 Da (.lst (ys++[v6]))) ρ6 (upd H6 Da (.lst (ys++[v6]))):=by
     obtain⟨r,er,fr⟩:=x12.pre;refine⟨⟨r,er,λb hb=>?_⟩,λb o q nb t=>?_,λb ps q=>?_⟩
     .have:b≠Da:=λz=>out6 (by rw[er,<- z];exact mem_append_right _ hb);rw[AE this];exact fr b hb
     .by_cases hb:b=Da
      .subst hb;rw[AL]at q ⊢;exact q
      .rw[AE hb]at q ⊢;exact x12.keep b o q nb t
     .by_cases hb:b=Da
      .subst hb;rw[AL]at q;cases q
      .rw[AE hb]at q ⊢;exact x12.tab b ps q
    refine⟨ρ6,ls3,hd6,es++[z],zs,ext8,ext7,out6,AL,R7,?_,?_,by simp;omega,g6,e7,by simp⟩
    .have L6:=(L4.ext R3 x5).ext R5 x6;exact⟨L6.len,λi d e=>let ⟨v,a,b⟩:=L6.ob i d e;⟨v,a,by simpa using b.mono gr []⟩⟩
    .have:=((r2.ext R2 y26).app (.cons r6 .nil)).mono gr [];simpa using this
  .have e:i=ds.length:=by omega
   subst e;rw[List.drop_length]at hm2;unfold Ap at hm2;cases hm2;refine .inl ⟨Y2 rfl,?_⟩;exact hQ ρ2 H2 Da ys (x1.trans R1 x2) R2 nD oD2 hD2 (by simpa using r2)
 .cases hm
end
mutual
def clD(w:Nat):D->Bool
 |.im _=>true
 |.mu n=>decide (n<w)
 |.tm ds=>BB w ds
 |.ro _=>true
def BB(w:Nat):List D->Bool
 |[]=>true
 |d::ds=>clD w d&&BB w ds
end
def FN(w:Nat):List (Key×D)->Bool
 |[]=>true
 |d::ds=>clD w d.2&&FN w ds
def clO(w:Nat):MO->Bool
 |.lst ds=>BB w ds
 |.dic ds=>FN w ds
section
variable{K:PySem.W.Frag}{ρ ρ' ρ1:List Addr}{H H' H1:Hp}{hd hd' h1 h2:Hd}
mutual
def RD.take(w:Nat):∀{d:D} {v:V},RD K ρ H d v->clD w d=true->RD K (ρ.take w) H d v
 |.im i,v,h,_=>by simp only[RD]at h ⊢;exact h
 |.mu n,v,h,c=>by
  simp only[RD]at h ⊢;obtain⟨a,e,q⟩:=h;exact⟨a,by rw[List.getElem?_take_of_lt (by simpa [clD]using c)];exact e,q⟩
 |.tm ds,v,h,c=>by
  simp only[RD]at h ⊢;obtain⟨a,xs,e,q,z⟩:=h;exact⟨a,xs,e,q,RDs.take' w z (by simpa [clD]using c)⟩
 |.ro ns,v,h,c=>by simp only[RD]at h ⊢;exact h
def RDs.take'(w:Nat):∀{d:List D} {v:List V},RDs K ρ H d v->BB w d=true->RDs K (ρ.take w) H d v
 |[],v,h,_=>by simpa only[RDs]using h
 |d::ds,v,h,c=>by
  simp only[RDs]at h ⊢;obtain⟨x,r',e,q,z⟩:=h;have c:clD w d=true/\BB w ds=true:=by simpa [BB]using c
  exact⟨x,r',e,q.take w c.1,RDs.take' w z c.2⟩
end
def RKs.take(w:Nat):∀{d:List (Key×D)} {v:List (Key×V)},RKs K ρ H d v->FN w d=true->RKs K (ρ.take w) H d v
 |[],v,h,_=>by simpa only[RKs]using h
 |d::ds,v,h,c=>by
  simp only[RKs]at h ⊢;obtain⟨x,r',e,q1,q,z⟩:=h;have c:clD w d.2=true/\FN w ds=true:=by simpa [FN]using c
  exact⟨x,r',e,q1,q.take w c.1,RKs.take w z c.2⟩
def RC.take(w:Nat){o:MO}{ho:HO}(h:RC K ρ H o ho)(c:clO w o=true):RC K (ρ.take w) H o ho:=by
 cases o with
 |lst ds=>obtain⟨xs,e,q⟩:=h;exact⟨xs,e,q.take' w c⟩
 |dic ds=>obtain⟨xs,e,q⟩:=h;exact⟨xs,e,q.take w c⟩
def RH.take(h:RH K ρ H hd)(w:Nat)(c:(hd.take w).all (clO w)=true):RH K (ρ.take w) H (hd.take w):=by
 refine⟨by simp[h.len],h.nd.sublist (List.take_sublist _ _),h.tabs,λn o a e1 e2=>?_⟩;have co:=all_eq_true.mp c o (mem_of_getElem? e1);have hn:n<w:=by
  have:=(List.getElem?_eq_some_iff.mp e1).1;simp at this;omega
 rw[List.getElem?_take_of_lt hn]at e1 e2;obtain⟨ho,q1,q2⟩:=h.ob n o a e1 e2;exact⟨ho,q1,q2.take w co⟩
def RH.back(R1:RH K ρ1 H1 h1){w:Nat}(hw:w<=h1.length)(c1:(h1.take w).all (clO w)=true)(x:Ext (ρ1.take w) H1 ρ' H')(R':RH K ρ' H' h2)(c:(h2.take w).all (clO w)=true):
 RH K ρ1 H' (h2.take w++h1.drop w)/\Ext ρ1 H1 ρ1 H'/\ρ'.take w=ρ1.take w:=by
 obtain⟨r,rfl,fr⟩:=x.pre;have lw:(ρ1.take w).length=w:=by rw[length_take,R1.len];omega
 have l2:w<=h2.length:=by rw[<- R'.len];simp[lw]
 have tk:(ρ1.take w++r).take w=ρ1.take w:=by rw[List.take_append_of_le_length (by omega),List.take_take];simp
 refine⟨⟨?_,R1.nd,R'.tabs,λn o a e1 e2=>?_⟩,⟨⟨[],by simp,by simp⟩,λb o q nb t=>x.keep b o q (λm=>nb (List.mem_of_mem_take m)) t,x.tab⟩,tk⟩
 .rw[length_append,length_take,List.length_drop,R1.len];omega
 .by_cases hn:n<w
  .rw[List.getElem?_append_left (by rw[length_take];omega),List.getElem?_take_of_lt hn]at e1;have e3:(ρ1.take w++r)[n]?=some a:=by
    rw[List.getElem?_append_left (by omega),List.getElem?_take_of_lt hn];exact e2
   obtain⟨ho,q1,q2⟩:=R'.ob n o a e1 e3;have co:=all_eq_true.mp c o (by
    have:(h2.take w)[n]?=some o:=by rw[List.getElem?_take_of_lt hn];exact e1
    exact mem_of_getElem? this)
   have q3:=q2.take w co;rw[tk]at q3;have q4:=q3.mono (Grow.refl (H:=H')) (ρ1.drop w);rw[List.take_append_drop]at q4;exact⟨ho,q1,q4⟩
  .rw[List.getElem?_append_right (by rw[length_take];omega),length_take,List.getElem?_drop]at e1;have e1:h1[n]?=some o:=by
    have:w+(n-min w h2.length)=n:=by omega
    rw[this]at e1;exact e1
   obtain⟨ho,q1,q2⟩:=R1.ob n o a e1 e2;have out:a∉ρ1.take w:=λm=>by
    obtain⟨k,hk⟩:=mem_iff_getElem?.mp m;have kw:k<w:=by
     have:=(List.getElem?_eq_some_iff.mp hk).1;rw[lw]at this;exact this
    rw[List.getElem?_take_of_lt kw]at hk;have:=(List.getElem?_inj (List.getElem?_eq_some_iff.mp e2).1 R1.nd).mp (e2.trans hk.symm);omega
   have gr:=x.grow (R1.take w c1);exact⟨ho,x.keep a ho q1 out (λps z=>by rcases R1.mut (mem_of_getElem? e2)with⟨y,w⟩|⟨y,w⟩<;>(rw[q1,z]at w;cases w)),by simpa using q2.mono gr []⟩
def spF(K:PySem.W.Frag)(k:Nat)(F:List D->Hd->Option (D×Hd)):Sp:=λvs H Q _=>vs.length=k/\∃(ρ:List Addr) (hd:Hd) (ds:List D) (d:D) (hd':Hd),RH K ρ H hd/\RDs K ρ H ds vs/\F ds hd=some (d,hd')/\
 ∀ρ' H' v,Ext ρ H ρ' H'->RH K ρ' H' hd'->RD K ρ' H' d v->Q v H'
def mkF(k n:Nat)(m:MS):List D->Hd->Option (D×Hd):=λds hd=>if ds.length=k then(match m (ds.map some++List.replicate (n-k) none) hd with
 |some (.rt d,hd')=>some (d,hd')
 |some (.nx _,hd')=>some (.im .non,hd')
 | _=>none)else none
def Lc{N:List Str}:∀{ds:List D} {vs:List V},RDs K ρ H ds vs->RL K ρ H (ds.map some++List.replicate (N.length-ds.length) none) (DD N vs):=by
 intro ds vs r;have hl:=r.len;refine⟨by simp[DD,hl],λi d e=>?_⟩;unfold DD;by_cases hi:i<ds.length
 .rw[List.getElem?_append_left (by simpa using hi),List.getElem?_map]at e;have e':ds[i]?=some d:=by
   cases q:ds[i]? with
   |none=>rw[q]at e;cases e
   |some z=>rw[q]at e;simpa using e
  obtain⟨x,x1,x2⟩:=r.get e';exact⟨x,by rw[List.getElem?_append_left (by rw[length_map,hl];exact hi),List.getElem?_map,x1];rfl,x2⟩
 .rw[List.getElem?_append_right (by simpa using Nat.not_lt.mp hi),List.getElem?_replicate]at e;split at e<;>cases e
def N7{k:Nat}{N:List Str}{m:MS}{t:TS}(h:RS K t m){vs:List V}{H:Hp}{Q:VK}{E:XK}(s:spF K k (mkF k N.length m) vs H Q E):t { nx:=λ_ H'=>Q .non H',rt:=Q } (DD N vs) H:=by
 obtain⟨hk,ρ,hd,ds,d,hd',hR,hr,hF,hQ⟩:=s;unfold mkF at hF;split at hF
 .next hl=>
  subst hl;split at hF
  .next q=>
   cases hF;exact h ρ _ H hd _ _ _ _ hR (Lc hr) q λρ' H' x R v r=>hQ ρ' H' v x R r
  .next q=>
   cases hF;exact h ρ _ H hd _ _ _ _ hR (Lc hr) q λρ' H' x R σ L=>hQ ρ' H' .non x R (by simp[RD,RI])
  .cases hF
 .cases hF
def EB(F:List D->Hd->Option (D×Hd))(ma:MA):ME:=λls hd=>(ma ls hd).bind λp=>F p.1 p.2
def SI{k:Nat}{F:List D->Hd->Option (D×Hd)}{t:TA}{m:MA}(h:RA K t m)(hk:∀ds hd z,F ds hd=some z->ds.length=k):RE K (Ey (spF K k F) [] E0 t) (EB F m):=by
 and_intros;obtain⟨⟨d1,h1⟩,e1,hm⟩:=cu hm;refine h ρ σ H hd ls _ d1 h1 hR hL e1 λρ1 H1 v1 x1 R1 r1=>?_;rw[append_nil];exact⟨by rw[r1.len];exact hk _ _ _ hm,ρ1,h1,d1,d,hd',R1,r1,hm,λρ' H' w x2 R2 r2=>hQ ρ' H' w (x1.trans R1 x2) R2 r2⟩
def NU{k n:Nat}{m:MS}:∀ds hd z,mkF k n m ds hd=some z->ds.length=k:=λds hd z h=>by
 unfold mkF at h;split at h
 .next e=>exact e
 .cases h
def fin(w:Nat)(d:D)(h2 rest:Hd):Option (D×Hd):=if(h2.take w).all (clO w)=true then(match d with
 | .mu k=>if k<w then some (.mu k,h2.take w++rest)else(match h2[k]? with
  |some (.lst ds)=>if BB w ds=true then some (.mu (w+rest.length),h2.take w++rest++[.lst ds])else none
  | _=>none)
 | d=>if clD w d=true then some (d,h2.take w++rest)else none)else none
def A9(w:Nat)(F:List D->Hd->Option (D×Hd))(ma:MA):ME:=λls hd=>(ma ls hd).bind λp=>
 if w<=p.2.length/\BB w p.1=true/\(p.2.take w).all (clO w)=true then(F p.1 (p.2.take w)).bind λr=>fin w r.1 r.2 (p.2.drop w)else none
def SH{w k:Nat}{F:List D->Hd->Option (D×Hd)}{t:TA}{m:MA}(h:RA K t m)(hk:∀ds hd z,F ds hd=some z->ds.length=k):RE K (Ey (spF K k F) [] E0 t) (A9 w F m):=by
 and_intros;obtain⟨⟨d1,h1⟩,e1,hm⟩:=cu hm;dsimp only at hm;split at hm
 .next c=>
  obtain⟨c0,c1,c2⟩:=c;obtain⟨⟨d2,h2⟩,e2,hm⟩:=cu hm;refine h ρ σ H hd ls _ d1 h1 hR hL e1 λρ1 H1 v1 x1 R1 r1=>?_;rw[append_nil];refine⟨by rw[r1.len];exact hk _ _ _ e2,ρ1.take w,h1.take w,d1,d2,h2,R1.take w c2,r1.take' w c1,e2,λρ' H' v x2 R2 r2=>?_⟩;unfold fin at hm;dsimp only at hm;split at hm
  .next c3=>
   obtain⟨R3,x3,tk⟩:=R1.back c0 c2 x2 R2 c3;have up:∀{d:D} {v:V},RD K ρ' H' d v->clD w d=true->RD K ρ1 H' d v:=λr c=>by
    have q:=r.take w c;rw[tk]at q;have q:=q.mono (Grow.refl (H:=H')) (ρ1.drop w);rw[List.take_append_drop]at q;exact q
   have ups:∀{d:List D} {v:List V},RDs K ρ' H' d v->BB w d=true->RDs K ρ1 H' d v:=λr c=>by
    have q:=r.take' w c;rw[tk]at q;have q:=q.mono (Grow.refl (H:=H')) (ρ1.drop w);rw[List.take_append_drop]at q;exact q
   split at hm
   .next k'=>
    split at hm
    .next hk'=>
     cases hm;exact hQ ρ1 H' v (x1.trans R1 x3) R3 (up r2 (by simpa [clD]using hk'))
    .next hk'=>
     split at hm
     .next ds q=>
      split at hm
      .next c4=>
       cases hm;simp only[RD]at r2;obtain⟨a,ea,rfl⟩:=r2;obtain⟨xs,l1,l2⟩:=R2.lst ea q;have len3:=R3.len;have out:a∉ρ1:=λm=>by
        -- a is one of those made behind the first w
        obtain⟨r,er,fr⟩:=x2.pre;have lw:(ρ1.take w).length=w:=by rw[length_take,R1.len];omega
        have ma:a∈r:=by
         rw[er,List.getElem?_append_right (by rw[lw];omega)]at ea;exact mem_of_getElem? ea
        exact R1.out (fr a ma) m
       have na:H1 a=none:=by
        obtain⟨r,er,fr⟩:=x2.pre;have lw:(ρ1.take w).length=w:=by rw[length_take,R1.len];omega
        have ma:a∈r:=by
         rw[er,List.getElem?_append_right (by rw[lw];omega)]at ea;exact mem_of_getElem? ea
        exact fr a ma
       refine hQ (ρ1++[a]) H' _ (x1.trans R1 (x3.name na)) (R3.name out l1 (ups l2 c4)) ?_;simp only[RD];refine⟨a,?_,rfl⟩;have:w+(List.drop w h1).length=ρ1.length:=by rw[List.length_drop,R1.len];omega
       rw[this];simp
      .cases hm
     .cases hm
   .next d' nd=>
    split at hm
    .next c4=>cases hm;exact hQ ρ1 H' v (x1.trans R1 x3) R3 (up r2 c4)
    .cases hm
  .cases hm
 .cases hm
def Cg(kvs:List (Key×D))(k:Key):Option D:=(kvs.find? λkv=>decide (kv.1=k)).map (·.2)
def DS(kvs:List (Key×D))(k:Key)(v:D):List (Key×D):=
 if(kvs.any λkv=>decide (kv.1=k))=true then kvs.map (λkv=>if kv.1=k then(kv.1,v)else kv)else kvs++[(k,v)]
def RKs.val:∀{kvs:List (Key×D)} {xs:List (Key×V)} {k:Key} {d:D},RKs K ρ H kvs xs->Cg kvs k=some d->∃v,Di xs k=some v/\RD K ρ H d v
 |[],xs,k,d,h,e=>by simp[Cg]at e
 |p::kvs,xs,k,d,h,e=>by
  simp only[RKs]at h;obtain⟨x,r,rfl,e1,r1,r2⟩:=h;by_cases hk:p.1=k
  .rw[Eh (e1.trans hk)];simp[Cg,find?_cons,hk]at e;subst e;exact⟨_,rfl,r1⟩
  .rw[Ei (by rw[e1];exact hk)];simp only[Cg,find?_cons,hk,decide_false]at e;exact RKs.val r2 e
def RKs.valN:∀{kvs:List (Key×D)} {xs:List (Key×V)} {k:Key},RKs K ρ H kvs xs->(Di xs k).isSome=(Cg kvs k).isSome
 |[],xs,k,h=>by simp only[RKs]at h;subst h;rfl
 |p::kvs,xs,k,h=>by
  simp only[RKs]at h;obtain⟨x,r,rfl,e1,r1,r2⟩:=h;by_cases hk:p.1=k
  .rw[Eh (e1.trans hk)];simp[Cg,find?_cons,hk]
  .rw[Ei (by rw[e1];exact hk)];simp only[Cg,find?_cons,hk,decide_false];exact RKs.valN r2
def RKs.any:∀{kvs:List (Key×D)} {xs:List (Key×V)} {k:Key},RKs K ρ H kvs xs->(xs.any λkv=>decide (kv.1=k))=(kvs.any λkv=>decide (kv.1=k))
 |[],xs,k,h=>by simp only[RKs]at h;subst h;rfl
 |p::kvs,xs,k,h=>by
  simp only[RKs]at h;obtain⟨x,r,rfl,e1,r1,r2⟩:=h;simp only[any_cons,e1,RKs.any r2]
def RKs.upd:∀{kvs:List (Key×D)} {xs:List (Key×V)} {k:Key} {d:D} {v:V},RKs K ρ H kvs xs->RD K ρ H d v->RKs K ρ H (kvs.map (λkv=>if kv.1=k then(kv.1,d)else kv)) (xs.map (λkv=>if kv.1=k then(kv.1,v)else kv))
 |[],xs,k,d,v,h,_=>by simp only[RKs]at h;subst h;simp[RKs]
 |p::kvs,xs,k,d,v,h,q=>by
  simp only[RKs]at h;obtain⟨x,r,rfl,e1,r1,r2⟩:=h;simp only[map_cons,RKs];refine⟨_,_,rfl,?_,?_,RKs.upd r2 q⟩
  .rw[e1];split<;>simp[e1]
  .rw[e1];split
   .exact q
   .exact r1
def RKs.app:∀{kvs ks:List (Key×D)} {xs ys:List (Key×V)},RKs K ρ H kvs xs->RKs K ρ H ks ys->RKs K ρ H (kvs++ks) (xs++ys)
 |[],ks,xs,ys,h,t=>by simp only[RKs]at h;subst h;simpa using t
 |d::ds,ks,xs,ys,h,t=>by
  simp only[RKs]at h;obtain⟨x,r,rfl,e,z,q⟩:=h;simp only[cons_append,RKs];exact⟨_,_,rfl,e,z,q.app t⟩
def RKs.put{kvs:List (Key×D)}{xs:List (Key×V)}{k:Key}{d:D}{v:V}(h:RKs K ρ H kvs xs)(q:RD K ρ H d v):RKs K ρ H (DS kvs k d) (CA xs k v):=by
 unfold DS CA;rw[h.any];split
 .exact h.upd q
 .exact h.app (by simp only[RKs];exact⟨_,_,rfl,rfl,q,rfl⟩)
def Dr:D->Option Key
 |.im (.int i)=>some (.inl i)
 |.im (.str x)=>some (.inr x)
 |_=>none
def Jg{d:D}{v:V}{k:Key}(h:RD K ρ H d v)(e:Dr d=some k):v=kV k:=by
 cases d with
 |im i=>
  cases i with
  |int i=>simp only[Dr,Option.some.injEq]at e;subst e;simp only[RD,RI]at h;exact h
  |str i=>simp only[Dr,Option.some.injEq]at e;subst e;simp only[RD,RI]at h;exact h
  |_=>simp[Dr]at e
 |_=>simp[Dr]at e
def Ef(hd:Hd):D->Option (List (Key×D))
 |.mu n=>match hd[n]? with
  |some (.dic kvs)=>some kvs
  |_=>none
 |_=>none
def RD.dic{d:D}{v:V}{kvs:List (Key×D)}(hR:RH K ρ H hd)(h:RD K ρ H d v)(e:Ef hd d=some kvs):∃n a xs,d=.mu n/\v=.ref a/\ρ[n]?=some a/\H a=some (.dK xs)/\RKs K ρ H kvs xs:=by
 cases d with
 |mu n=>
  simp only[Ef]at e;simp only[RD]at h;obtain⟨a,hn,rfl⟩:=h;split at e
  .next q=>
   cases e;obtain⟨xs,e1,e2⟩:=hR.dic hn q;exact⟨n,a,xs,rfl,rfl,hn,e1,e2⟩
  .cases e
 |_=>simp[Ef]at e
def CI:D->D->Hd->Option (D×Hd):=λd e hd=>(Ef hd d).bind λkvs=>(Dr e).bind λk=>(Cg kvs k).map (·,hd)
def Uk{td ty:TE}{md my:ME}(hd:RE K td md)(hy:RE K ty my):RE K (O6 td ty) (mOp CI md my):=by
 intro ρ σ H hd0 ls Q d hd' hR hL hm hQ;obtain⟨⟨d1,h1⟩,e1,hm⟩:=cu hm;obtain⟨⟨d2,h2⟩,e2,hm⟩:=cu hm;obtain⟨kvs,e3,hm⟩:=cu hm;obtain⟨k,e4,hm⟩:=cu hm;obtain⟨w,e5,e6⟩:=cv hm;cases e6;refine hd ρ σ H hd0 ls _ d1 h1 hR hL e1 λρ1 H1 v1 x1 R1 r1=>?_;refine hy ρ1 σ H1 h1 ls _ d2 _ R1 (hL.ext hR x1) e2 λρ2 H2 v2 x2 R2 r2=>?_;obtain⟨n,a,xs,rfl,rfl,hn,l1,l2⟩:=RD.dic R2 (r1.ext R1 x2) e3;have:=Jg r2 e4;subst this;obtain⟨v,v1,v2⟩:=l2.val e5;exact⟨a,v,rfl,v1 ▸ DGet.k l1,hQ ρ2 H2 v (x1.trans R1 x2) R2 v2⟩
open Classical in
def F4(md my mv:ME):MS:=λls hd=>(mv ls hd).bind λp=>(md ls p.2).bind λq=>(my ls q.2).bind λr=>(Dr r.1).bind λk=>match q.1 with
 |.mu n=>match r.2[n]? with
  |some (.dic kvs)=>if F7 kvs.length then some (.nx ls,r.2.set n (.dic (DS kvs k p.1)))else none
  |_=>none
 |_=>none
def UY{td ty tv:TE}{md my mv:ME}(hd:RE K td md)(hy:RE K ty my)(hv:RE K tv mv):RS K (OJ td ty tv) (F4 md my mv):=by
 intro ρ σ H hd0 ls E f hd' hR hL hm hQ;obtain⟨⟨d1,h1⟩,e1,hm⟩:=cu hm;obtain⟨⟨d2,h2⟩,e2,hm⟩:=cu hm;obtain⟨⟨d3,h3⟩,e3,hm⟩:=cu hm;obtain⟨k,e4,hm⟩:=cu hm;dsimp only at hm;split at hm
 .split at hm
  .next q=>
   split at hm
   .next c=>
    cases hm;refine hv ρ σ H hd0 ls _ d1 h1 hR hL e1 λρ1 H1 v1 x1 R1 r1=>?_;refine hd ρ1 σ H1 h1 ls _ _ h2 R1 (hL.ext hR x1) e2 λρ2 H2 v2 x2 R2 r2=>?_;refine hy ρ2 σ H2 h2 ls _ d3 _ R2 (hL.ext hR (x1.trans R1 x2)) e3 λρ3 H3 v3 x3 R3 r3=>?_;have r2:=r2.ext R2 x3;simp only[RD]at r2;obtain⟨a,hn,rfl⟩:=r2;obtain⟨xs,l1,l2⟩:=R3.dic hn q;have:=Jg r3 e4;subst this;obtain⟨R4,x4⟩:=R3.put hn (o:=.dic (DS _ k d1)) (ho:=.dK (CA xs k v1)) ⟨_,rfl,l2.put ((r1.ext R1 x2).ext R2 x3)⟩;have x13:=(x1.trans R1 x2).trans R2 x3;exact⟨a,_,rfl,DPut.k l1 (by rw[l2.len];exact c),hQ ρ3 _ (x13.trans R3 x4) R4 σ ((hL.ext hR x13).ext R3 x4)⟩
   .cases hm
  .cases hm
 .cases hm
def EA:List (ME×ME)->Ls->Hd->Option (List (Key×D)×Hd)
 |[],_,hd=>some ([],hd)
 |(mk,mv)::r,ls,hd=>(mk ls hd).bind λp=>(mv ls p.2).bind λq=>(EA r ls q.2).bind λz=>(Dr p.1).map λk=>((k,q.1)::z.1,z.2)
def FY(kvs more:List (Key×D)):List (Key×D):=more.foldl (λacc kv=>DS acc kv.1 kv.2) kvs
def RKs.merge:∀{more kvs:List (Key×D)} {ms xs:List (Key×V)},RKs K ρ H more ms->RKs K ρ H kvs xs->RKs K ρ H (FY kvs more) (E8 xs ms)
 |[],kvs,ms,xs,h,t=>by simp only[RKs]at h;subst h;exact t
 |d::ds,kvs,ms,xs,h,t=>by
  simp only[RKs]at h;obtain⟨x,r,rfl,e,z,q⟩:=h;show RKs K ρ H (FY (DS kvs d.1 d.2) ds) (E8 (CA xs x.1 x.2) r);rw[e];exact q.merge (t.put z)
def RPs(K:PySem.W.Frag):List (TE×TE)->List (ME×ME)->Prop
 |[],[]=>True
 |t::ts,m::ms=>RE K t.1 m.1/\RE K t.2 m.2/\RPs K ts ms
 |_,_=>False
def Ln:∀{trs:List (TE×TE)} {ms:List (ME×ME)},RPs K trs ms->∀(ρ:List Addr) (σ:St) (H:Hp) (hd:Hd) (ls:Ls) (Q:List (V×V)->Hp->Prop) (kvs:List (Key×D)) (hd':Hd),RH K ρ H hd->RL K ρ H ls σ->EA ms ls hd=some (kvs,hd') ->
 (∀ρ' H' xs,Ext ρ H ρ' H'->RH K ρ' H' hd'->RKs K ρ' H' kvs xs->Q (xs.map λkv=>(kV kv.1,kv.2)) H')->GQ trs σ H Q
 |[],[],_,ρ,σ,H,hd,ls,Q,kvs,hd',hR,hL,hm,hQ=>by
  cases hm;exact hQ ρ H [] .refl hR (by simp[RKs])
 |(tk,tv)::ts,(mk,mv)::ms,⟨a,b,c⟩,ρ,σ,H,hd,ls,Q,kvs,hd',hR,hL,hm,hQ=>by
   unfold EA at hm;obtain⟨⟨d1,h1⟩,e1,hm⟩:=cu hm;obtain⟨⟨d2,h2⟩,e2,hm⟩:=cu hm;obtain⟨⟨d3,h3⟩,e3,hm⟩:=cu hm;obtain⟨k,e4,e5⟩:=cv hm;cases e5;unfold GQ;refine a ρ σ H hd ls _ d1 h1 hR hL e1 λρ1 H1 v1 x1 R1 r1=>?_;refine b ρ1 σ H1 h1 ls _ d2 h2 R1 (hL.ext hR x1) e2 λρ2 H2 v2 x2 R2 r2=>?_;refine Ln c ρ2 σ H2 h2 ls _ d3 _ R2 (hL.ext hR (x1.trans R1 x2)) e3 λρ3 H3 xs x3 R3 r3=>?_;have:=Jg r1 e4;subst this;exact hQ ρ3 H3 ((k,v2)::xs) ((x1.trans R1 x2).trans R2 x3) R3 (by simp only[RKs];exact⟨_,_,rfl,rfl,r2.ext R2 x3,r3⟩)
 |[],_::_,h,_,_,_,_,_,_,_,_,_,_,_,_=>h.elim
 |_::_,[],h,_,_,_,_,_,_,_,_,_,_,_,_=>h.elim
def Kv(ms:List (ME×ME)):ME:=λls hd=>(EA ms ls hd).bind λp=>if p.1.length<=15 then some (.mu p.2.length,p.2++[.dic (FY [] p.1)])else none
def RH.nameD(hR:RH K ρ H hd){a:Addr}{xs:List (Key×V)}{kvs:List (Key×D)}(out:a∉ρ){o:HO}(e:H a=some o)(ht:∀ys,o≠.tup ys)(hf:∀x u,o≠.frz x u)(r:RKs K ρ H kvs xs)(h1:∀ps,o≠.tbl ps:=by intro _ z;cases z)(h2:∀φ,o≠.ext φ:=by intro _ z;cases z):RH K (ρ++[a]) (upd H a (.dK xs)) (hd++[.dic kvs]):=by
 have gr:Grow H (upd H a (.dK xs)):=Grow.refl.put ⟨λys z=>ht ys (by rw[e]at z;exact Option.some.inj z),λx u z=>hf x u (by rw[e]at z;exact Option.some.inj z)⟩;refine⟨by simp[hR.len],?_,hR.tabs.upd (λps z=>h1 ps (Option.some.inj (e.symm.trans z))) (λps z=>h2 ps (Option.some.inj (e.symm.trans z))),λn o' b e1 e2=>?_⟩
 .rw[nodup_append];refine⟨hR.nd,by simp,λx hx y hy z=>?_⟩;simp at hy;subst hy;subst z;exact out hx
 .by_cases hn:n<ρ.length
  .rw[List.getElem?_append_left hn]at e2;rw[List.getElem?_append_left (by rw[<- hR.len];exact hn)]at e1;obtain⟨ho',q1,q2⟩:=hR.ob n o' b e1 e2;have:b≠a:=λz=>out (by rw[<- z];exact mem_of_getElem? e2);exact⟨ho',by rw[AE this];exact q1,q2.mono gr [a]⟩
  .have hn':n=ρ.length:=by
    have:=(List.getElem?_eq_some_iff.mp e2).1;simp at this;omega
   subst hn';simp at e2;rw[hR.len]at e1;simp at e1;subst e1;subst e2;exact⟨_,AL,⟨xs,rfl,r.mono gr [_]⟩⟩
def Uj{trs:List (TE×TE)}{ms:List (ME×ME)}(h:RPs K trs ms):RE K (O5 trs) (Kv ms):=by
 and_intros;obtain⟨⟨kvs,h1⟩,e1,hm⟩:=cu hm;dsimp only at hm;split at hm
 .next c=>
  cases hm;intro p hp;obtain⟨R0,x0⟩:=hR.hid (ho:=.dK []) hp;refine Ln h ρ σ _ hd ls _ kvs h1 R0 (hL.ext hR x0) e1 λρ1 H1 xs x1 R1 r1=>?_;have hp1:H1 p=some (.dK []):=x1.keep p _ AL (hR.out hp) nt;have op:p∉ρ1:=by
   obtain⟨r,rfl,fr⟩:=x1.pre;intro z;rcases mem_append.mp z with z|z
   .exact hR.out hp z
   .have:=fr _ z;rw[AL]at this;cases this
  refine⟨hp1,xs,rfl,by rw[r1.len];exact c,?_⟩;have mm:RKs K ρ1 H1 (FY [] kvs) (E8 [] xs):=r1.merge (by simp[RKs]);have R2:=R1.nameD op hp1 (λ_ z=>by cases z) (λ_ _ z=>by cases z) mm;have x01:=x0.trans R0 x1;refine hQ (ρ1++[p]) _ _ ?_ R2 ?_
  .obtain⟨r,er,fr⟩:=x01.pre;refine⟨⟨r++[p],by rw[er];simp,λb m=>?_⟩,λb o q nb t=>?_,λb ps q=>?_⟩
   .rcases mem_append.mp m with m|m
    .exact fr b m
    .simp at m;subst m;exact hp
   .have:b≠p:=AV q hp;rw[AE this];exact x01.keep b o q nb t
   .have:b≠p:=AV q hp;rw[AE this];exact x01.tab b ps q
  .simp only[RD];exact⟨p,by rw[<- R1.len];simp,rfl⟩
 .cases hm
def ES(mo mi mv:ME):MS:=λls hd=>(mv ls hd).bind λp=>(mo ls p.2).bind λq=>(mi ls q.2).bind λr=>match q.1,r.1 with
 |.mu n,.im (.int i)=>match r.2[n]? with
  |some (.lst ds)=>(ixN ds.length i).map λj=>(.nx ls,r.2.set n (.lst (ds.set j p.1)))
  |_=>none
 |_,_=>none
def UW{to ti tv:TE}{mo mi mv:ME}(ho:RE K to mo)(hi:RE K ti mi)(hv:RE K tv mv):RS K (Ej tv (TF to ti OS)) (ES mo mi mv):=by
 intro ρ σ H hd0 ls E f hd' hR hL hm hQ;obtain⟨⟨d1,h1⟩,e1,hm⟩:=cu hm;obtain⟨⟨d2,h2⟩,e2,hm⟩:=cu hm;obtain⟨⟨d3,h3⟩,e3,hm⟩:=cu hm;dsimp only at hm;split at hm
 .split at hm
  .next q=>
   obtain⟨j,e4,e5⟩:=cv hm;cases e5;refine hv ρ σ H hd0 ls _ d1 h1 hR hL e1 λρ1 H1 v1 x1 R1 r1=>?_;refine ho ρ1 σ H1 h1 ls _ _ h2 R1 (hL.ext hR x1) e2 λρ2 H2 v2 x2 R2 r2=>?_;refine hi ρ2 σ H2 h2 ls _ _ _ R2 (hL.ext hR (x1.trans R1 x2)) e3 λρ3 H3 v3 x3 R3 r3=>?_;have r2:=r2.ext R2 x3;simp only[RD]at r2;obtain⟨a,hn,rfl⟩:=r2;simp only[RD,RI]at r3;subst r3;obtain⟨xs,l1,l2⟩:=R3.lst hn q;obtain⟨R4,x4⟩:=R3.put hn (o:=.lst _) (ho:=.lst (xs.set j v1)) ⟨_,rfl,l2.set j ((r1.ext R1 x2).ext R2 x3)⟩;have x13:=(x1.trans R1 x2).trans R2 x3;exact⟨a,xs,_,j,rfl,rfl,l1,by rw[l2.len];exact e4,hQ ρ3 _ (x13.trans R3 x4) R4 σ ((hL.ext hR x13).ext R3 x4)⟩
  .cases hm
 .cases hm
def Gj(i:Nat)(g:Int->Int->Int)(m:ME):MS:=λls hd=>match ls[i]? with
 |some (some (.im (.int x)))=>(m ls hd).bind λp=>match p.1 with
  |.im (.int y)=>some (.nx (ls.set i (some (.im (.int (g x y))))),p.2)
  |_=>none
 |_=>none
def Ww{i:Nat}{g:Int->Int->Int}{t:TE}{m:ME}(h:RE K t m):RS K (O7 i t (ipI g)) (Gj i g m):=by
 intro ρ σ H hd0 ls E f hd' hR hL hm hQ;unfold Gj at hm;split at hm
 .next x e0=>
  obtain⟨⟨d1,h1⟩,e1,hm⟩:=cu hm;dsimp only at hm;split at hm
  .cases hm;obtain⟨v,v1,v2⟩:=hL.ob i _ e0;simp only[RD,RI]at v2;subst v2;refine⟨_,v1,h ρ σ H hd0 ls _ _ _ hR hL e1 λρ1 H1 w x1 R1 r1=>?_⟩;simp only[RD,RI]at r1;subst r1;exact⟨_,_,rfl,rfl,hQ ρ1 H1 x1 R1 _ ((hL.ext hR x1).set i (by simp[RD,RI]))⟩
  .cases hm
 .cases hm
end
end L2
namespace L2
open PySem PySem.Spec PyProof.Rows
structure QG(K:PySem.W.Frag)(X:Cx)(e:Expr)(t:TG)(m:MG):Prop where
 p:PG X e t
 r:RGt K t m
structure QGs(K:PySem.W.Frag)(X:Cx)(e:List Expr)(t:TGs)(m:MGs):Prop where
 p:PGs X e t
 r:Mi K t m
structure QI(K:PySem.W.Frag)(X:Cx)(tg e:Expr)(t:TI)(m:MI):Prop where
 p:PI X tg e t
 r:RIt K t m
structure QF(K:PySem.W.Frag)(X:Cx)(e:List Expr)(t:TT)(m:MT):Prop where
 p:PF X e t
 r:RT K t m
structure QO(K:PySem.W.Frag)(X:Cx)(e:Option Expr)(t:TO)(m:MO1):Prop where
 p:PO X e t
 r:RO1 K t m
structure QPs(K:PySem.W.Frag)(X:Cx)(pos:Pos)(keys:List (Option Expr))(values:List Expr)(t:List (TE×TE))(m:List (ME×ME)):Prop where
 p:PPs X pos keys values t
 r:RPs K t m
def UB(a b:List D):Prop:=a≠[]/\Bn (a.length+b.length)
open Classical in
def Fz:D->D->Hd->Option (D×Hd):=λd e hd=>(Ae d).bind λa=>(Ae e).bind λb=>if UB a b then some (Ab (a++b),hd)else none
def NK{K:PySem.W.Frag}:RB K (OU K) Fz:=by
 intro ρ H hd d e v u Q z hd' hR h1 h2 hf hQ;unfold Fz at hf;obtain⟨a,e1,hf⟩:=cu hf;obtain⟨b,e2,hf⟩:=cu hf;split at hf
 .next c=>
  cases hf;obtain⟨p,xs,rfl,q1,r1⟩:=h1.tup e1;obtain⟨p2,ys,rfl,q2,r2⟩:=h2.tup e2;have l1:=r1.len;have l2:=r2.len;refine⟨p,p2,xs,ys,rfl,rfl,q1,q2,λz=>c.1 (by rw[z]at l1;simpa using l1.symm),by rw[l1,l2];exact c.2,λz=>?_,λ_ p3 hp=>?_⟩
  .have:b=[]:=by rw[z]at l2;simpa using l2.symm
   subst this;exact hQ ρ H _ .refl hR (by rw[append_nil];exact BS q1 r1)
  .obtain⟨R2,x2⟩:=hR.hid (ho:=.tup (xs++ys)) hp;exact hQ ρ _ _ x2 R2 (BS (SqT.of AL) ((r1.app r2).ext hR x2))
 .cases hf
abbrev AY:=G4 Ji Fz
def B0(neg:Bool)(m:ME):ME:=λls hd=>(m ls hd).bind λp=>some (.im (.bl (match p.1 with
 |.im .non=>!neg
 | _=>neg)),p.2)
def Yk{K:PySem.W.Frag}{ρ:List Addr}{H:Hp}{d:D}{v:V}(h:RD K ρ H d v):decide (v=.non)=(match d with|.im .non=>true|_=>false):=by
 cases d with
 |im i=>
  cases i with
  |non=>simp only[RD,RI]at h;subst h;rfl
  |tup is=>simp only[RD,RI]at h;obtain⟨a,xs,rfl,_⟩:=h;rfl
  |_=>simp only[RD,RI]at h;subst h;rfl
 |mu n=>simp only[RD]at h;obtain⟨a,_,rfl⟩:=h;rfl
 |tm ds=>simp only[RD]at h;obtain⟨a,xs,rfl,_⟩:=h;rfl
 |ro ns=>simp only[RD]at h;obtain⟨a,rfl,_⟩:=h;rfl
def Po{K:PySem.W.Frag}{t:TE}{m:ME}(h:RE K t m):RE K (O3 t) (B0 false m):=by
 and_intros;obtain⟨⟨d1,h1⟩,e1,hm⟩:=cu hm;cases hm;refine h ρ σ H hd ls _ d1 _ hR hL e1 λρ1 H1 v x1 R1 r1=>?_;rw[Yk r1];refine hQ ρ1 H1 _ x1 R1 ?_;simp only[RD,RI];cases d1 with
 |im i=>cases i<;>rfl
 |_=>rfl
def NH{K:PySem.W.Frag}{t:TE}{m:ME}(h:RE K t m):RE K (Ko t) (B0 true m):=by
 and_intros;obtain⟨⟨d1,h1⟩,e1,hm⟩:=cu hm;cases hm;refine h ρ σ H hd ls _ d1 _ hR hL e1 λρ1 H1 v x1 R1 r1=>?_;rw[Yk r1];refine hQ ρ1 H1 _ x1 R1 ?_;simp only[RD,RI];cases d1 with
 |im i=>cases i<;>rfl
 |_=>rfl
def Ft(m:ME):ME:=λls hd=>(m ls hd).bind λp=>match p.1 with
 |.im (.int i)=>some (.im (.int (-i)),p.2)
 |_=>none
def XC{K:PySem.W.Frag}{t:TE}{m:ME}(h:RE K t m):RE K (tUn (rU λi=>.int (-i)) t) (Ft m):=by
 and_intros;obtain⟨⟨d1,h1⟩,e1,hm⟩:=cu hm;dsimp only at hm;split at hm
 .cases hm;exact h ρ σ H hd ls _ _ _ hR hL e1 λρ1 H1 v x1 R1 r1=>⟨_,by simpa only[RD,RI]using r1,hQ ρ1 H1 _ x1 R1 (by simp[RD,RI])⟩
 .cases hm
def Bi:MT:=λ_ hd=>some (true,hd)
def Wq{K:PySem.W.Frag}:RT K Rg Bi:=by
 and_intros;cases hm;exact hQ ρ H .refl hR
section
variable(K:PySem.W.Frag){X:Cx}{a b c e:Expr}{es:List Expr}{ta tb tc te:TE}{ma mb mc me:ME}{tA tB':TT}{nA nB:MT}{t:TA}{m:MA}{pos:Pos}{x:Str}
def qv(i:Nat){x:Str}{pos:Pos}(hN:X.N[i]?=some x:=by rfl)(hv:Vis X.env.scope x:=by first|exact Or.inl rfl|exact Or.inr (Or.inl rfl)|exact Or.inr (Or.inr rfl))(hd:(x==("__debug__":Str))=false:=by decide)
 (hcd:(x==("__classdict__":Str))=false:=by decide):QE K X (.Name x pos) (Rh i) (A0 i):=⟨YK hN hv hd hcd,X9⟩
def Y0{i:Int}{j pos}:QE K X (.Constant (.int i) j pos) (tC (.int i)) (mC (.int i)):=⟨YT,OO λ_=>by simp[RI]⟩
def Zj{i:Bool}{j pos}:QE K X (.Constant (.bool i) j pos) (tC (.bl i)) (mC (.bl i)):=⟨Zq,OO λ_=>by simp[RI]⟩
def Xu{j pos}:QE K X (.Constant .none j pos) (tC .non) (mC .non):=⟨YQ,OO λ_=>by simp[RI]⟩
def Xp{x:Str}{j pos}:QE K X (.Constant (.str x) j pos) (tC (.str x)) (mC (.str x)):=⟨YM,OO λ_=>by simp[RI]⟩
def Fo{op:Operator}{r:R2}{f:D->D->Hd->Option (D×Hd)}(ho:OpR X (binaryOp op) r)(hr:RB K r f)(ha:QE K X a ta ma)(hb:QE K X b tb mb):QE K X (.BinOp a op b pos) (tOp r ta tb) (mOp f ma mb):=⟨Kt ho ha.p hb.p,Kq hr ha.r hb.r⟩
def Xw(ha:QE K X a ta ma):QE K X (.UnaryOp .USub a pos) (tUn (rU λi=>.int (-i)) ta) (Ft ma):=⟨Zn Wa ha.p,XC ha.r⟩
def Ik{op:CmpOp}{r:R2}{f:D->D->Hd->Option (D×Hd)}(ho:OpR X (compareOp op) r)(hr:RB K r f)(ha:QE K X a ta ma)(hb:QE K X b tb mb)(hm:behindInMarks op b=false:=by first|exact Gb _|rfl):QE K X (.Compare a [op] [b] pos) (tOp r ta tb) (mOp f ma mb):=⟨NP ho ha.p hb.p hm,Kq hr ha.r hb.r⟩
def E7{op:CmpOp}{r:R2}{f:D->D->Hd->Option (D×Hd)}(ho:OpR X (compareOp op) r)(hr:RB K r f)(ha:QE K X a ta ma)(hb:QE K X b tb mb)(hm:behindInMarks op b=false:=by first|exact Gb _|rfl):QT K X (.Compare a [op] [b] pos) (IP (tOp r ta tb)) (AD (mOp f ma mb)):=⟨JY ho ha.p hb.p hm,Dk (Kq hr ha.r hb.r)⟩
def Xz{j pos'}(ha:QE K X a ta ma):QE K X (.Compare a [.Is] [.Constant .none j pos'] pos) (O3 ta) (B0 false ma):=⟨Q0 (Q2 ha.p),Po ha.r⟩
def VE{j pos'}(ha:QE K X a ta ma):QE K X (.Compare a [.IsNot] [.Constant .none j pos'] pos) (Ko ta) (B0 true ma):=⟨Q0 (NQ ha.p),NH ha.r⟩
def XV{j pos'}(ha:QE K X a ta ma):QT K X (.Compare a [.Is] [.Constant .none j pos'] pos) (tB (O3 ta)) (AD (B0 false ma)):=⟨Ll (Q2 ha.p),S7 (Po ha.r)⟩
def Us{j pos'}(ha:QE K X a ta ma):QT K X (.Compare a [.IsNot] [.Constant .none j pos'] pos) (tB (Ko ta)) (AD (B0 true ma)):=⟨Ll (NQ ha.p),S7 (NH ha.r)⟩
def SR(ha:QE K X a ta ma)(he:∀whole,isTrue a X.env whole=(do let v <- whole;standAt a.pos;holding [v] (truthy v)):=by intro _;rfl)(hK:X.K=K:=by rfl):
 QT K X a (λσ H Q=>ta σ H λx H'=>∃k,Mh K x H' k/\Q k H') (BX ma):=by
 subst hK;exact⟨Sg ha.p he,S6 ha.r⟩
def XU(ha:QT K X a tA nA):QT K X (.UnaryOp .Not a pos) (Rm tA) (CC nA):=⟨Y7 ha.p,Wr ha.r⟩
def Ur(ha:QT K X a tA nA):QW K X (.BoolOp .And [a] pos) tA nA:=⟨VJ ha.p,ha.r⟩
def XS(ha:QT K X a tA nA):QW K X (.BoolOp .Or [a] pos) tA nA:=⟨Y5 ha.p,ha.r⟩
def XT{rest:List Expr}(ha:QT K X a tA nA)(hb:QW K X (.BoolOp .And (b::rest) pos) tB' nB):QW K X (.BoolOp .And (a::b::rest) pos) (Rt tA tB') (DT nA nB):=⟨Y6 ha.p hb.p,Ws ha.r hb.r⟩
def Zb{rest:List Expr}(ha:QT K X a tA nA)(hb:QW K X (.BoolOp .Or (b::rest) pos) tB' nB):QW K X (.BoolOp .Or (a::b::rest) pos) (tOr tA tB') (mOr nA nB):=⟨Zl ha.p hb.p,ZT ha.r hb.r⟩
def QW.toT{K:PySem.W.Frag}{X:Cx}{e:Expr}{t:TT}{m:MT}(h:QW K X e t m):QT K X e t m:=⟨h.p.pt,h.r⟩
def Xq{op}(ha:QE K X a ta ma):QE K X (.BoolOp op [a] pos) ta ma:=⟨YN ha.p,ha.r⟩
def Y3{rest:List Expr}(ha:QE K X a ta ma)(hb:QE K X (.BoolOp .And (b::rest) pos) tb mb):QE K X (.BoolOp .And (a::b::rest) pos) (O8 ta tb) (EU ma mb):=⟨YV ha.p hb.p,Ul ha.r hb.r⟩
def Zd{rest:List Expr}(ha:QE K X a ta ma)(hb:QE K X (.BoolOp .Or (b::rest) pos) tb mb):QE K X (.BoolOp .Or (a::b::rest) pos) (Rl ta tb) (I0 ma mb):=⟨Zo ha.p hb.p,XB ha.r hb.r⟩
def Xr(ha:QE K X a ta ma):QE K X (.UnaryOp .Not a pos) (O2 ta) (Fs ma):=⟨YO ha.p,Uh ha.r⟩
def Sd(hc:QT K X c tA nA)(ha:QE K X a ta ma)(hb:QE K X b tb mb):QE K X (.IfExp c a b pos) (tIf tA ta tb) (mIf nA ma mb):=⟨Su hc.p ha.p hb.p,ZX hc.r ha.r hb.r⟩
def Y4:QA K X [] BG A4:=⟨By,XN⟩
def VI(ha:QE K X e te me)(hr:QA K X es t m)(hs:starEach (e::es) X.env=(false,eval e X.env)::starEach es X.env:=by rfl):QA K X (e::es) (Ax te t) (A2 me m):=⟨BH ha.p hr.p hs,Up ha.r hr.r⟩
def Xo{x1}(h:QA K X es t m):QE K X (.Tuple es x1 pos) (Ri t) (As m):=⟨YL h.p,XA h.r⟩
def Xf(h:QA K X es t m):QN K X (.List es pos) (Rn t) (CY m):=⟨YR h.p,X1 h.r⟩
def Xv(h:QN K X e te m):QE K X e te (B5 m):=⟨h.p,Pn h.r⟩
def Zf(ha:QE K X a ta ma)(hb:QE K X b tb mb)(hs:Jp b:=by exact λ_ _=>rfl)(hK:X.K=K:=by rfl):QE K X (.Subscript a b pos) (tOp (Kr K) ta tb) (mOp gIx ma mb):=⟨Tx ((MD K hK).or (Na K hK)) ha.p hb.p hs,Kq ZY ha.r hb.r⟩
def VH(hu:X.A.units+1<cLine)(ha:QE K X a ta ma)(hb:QE K X b tb mb)(hs:Tc b:=by exact λ_ _=>rfl):QE K X (.Subscript a b pos) (O6 ta tb) (mOp CI ma mb):=⟨Ve hu ha.p hb.p hs,Uk ha.r hb.r⟩
def V6:QO K X none JJ HQ:=⟨VT,Ua⟩
def V5(h:QE K X e te me):QO K X (some e) (O1 te) (Ku me):=⟨VS h.p,UZ h.r⟩
def Xd{lo hi:Option Expr}{tl th:TO}{ml mh:MO1}{p2:Pos}(h:QE K X e te me)(hl:QO K X lo tl ml)(hh:QO K X hi th mh)(hK:X.K=K:=by rfl):QN K X (.Subscript e (.Slice lo hi none p2) pos) (tSl (OR K) te tl th) (M3 me ml mh):=⟨Ss (Rz K hK) h.p hl.p hh.p,Wz h.r hl.r hh.r⟩
def HM{id:String}{p:Pos}{r:List V->Hp->VK->Prop}{f:List D->Hd->Option (D×Hd)}(hc:CallR X (.builtin id) r)(hr:RF K r f)(hm:X.mg x=none)(hv:bootBuiltins x=some (.builtin id))(ha:QA K X (e::es) t m)(hg:Gl X x:=by rfl)(hn:x≠"__name__":=by decide)(hdb:(x==("__debug__":Str))=false:=by decide)
 (he:starEach (e::es) X.env=(false,eval e X.env)::starEach es X.env:=by rfl) (hpl:(backTo pos (starEach es X.env)).any (·.1)=false:=by rfl):QE K X (.Call (.Name x p) (e::es) [] pos) (tCB r t) (mCB f m):=⟨Eo hc hg hm hv ha.p hn hdb he hpl,Tl hr ha.r⟩
def Zi{id:String}{p:Pos}{r:List V->Hp->VK->Prop}{f:List D->Hd->Option (D×Hd)}(hc:CallR X (.type id) r)(hr:RF K r f)(hm:X.mg x=none)(hv:bootBuiltins x=some (.type id))(ha:QA K X (e::es) t m)(hg:Gl X x:=by rfl)(hn:x≠"__name__":=by decide)(hdb:(x==("__debug__":Str))=false:=by decide)
 (he:starEach (e::es) X.env=(false,eval e X.env)::starEach es X.env:=by rfl) (hpl:(backTo pos (starEach es X.env)).any (·.1)=false:=by rfl):QE K X (.Call (.Name x p) (e::es) [] pos) (tCB r t) (mCB f m):=⟨DO hc hg hm hv ha.p hn hdb he hpl,Tl hr ha.r⟩
def Ks{id:String}{p:Pos}{r:List V->Hp->VK->Prop}{tp:Bool}{g:List D->Option D}(hc:CallR X (.builtin id) r)(hr:RG K tp r g)(hm:X.mg x=none)(hv:bootBuiltins x=some (.builtin id))(ha:QN K X e te m)(hg:Gl X x:=by rfl)(hn:x≠"__name__":=by decide)(hdb:(x==("__debug__":Str))=false:=by decide)
 (he:starEach [e] X.env=[(false,eval e X.env)]:=by rfl):QE K X (.Call (.Name x p) [e] [] pos) (tCB r (Ax te BG)) (BQ g m):=⟨Eo hc hg hm hv (BH ha.p By he) hn hdb he rfl,Pp hr ha.r⟩
def Zh{id:String}{p:Pos}{r:List V->Hp->VK->Prop}{tp:Bool}{g:List D->Option D}(hc:CallR X (.type id) r)(hr:RG K tp r g)(hm:X.mg x=none)(hv:bootBuiltins x=some (.type id))(ha:QN K X e te m)(hg:Gl X x:=by rfl)(hn:x≠"__name__":=by decide)(hdb:(x==("__debug__":Str))=false:=by decide)
 (he:starEach [e] X.env=[(false,eval e X.env)]:=by rfl):QE K X (.Call (.Name x p) [e] [] pos) (tCB r (Ax te BG)) (BQ g m):=⟨DO hc hg hm hv (BH ha.p By he) hn hdb he rfl,Pp hr ha.r⟩
def SZ{p:Pos}(hm:X.mg "list"=none)(ha:QN K X e te m)(hg:Gl X "list":=by rfl)(he:starEach [e] X.env=[(false,eval e X.env)]:=by rfl)(hK:X.K=K:=by rfl):QN K X (.Call (.Name "list" p) [e] [] pos) (tCB (JX K) (Ax te BG)) (Gh m):=⟨DO (P9 K hK) hg hm Jm (BH ha.p By he) (by decide) (by decide) he rfl,SC ha.r⟩
def Ze{id:String}{r:V->List V->Hp->VK->Prop}{f:D->List D->Hd->Option (D×Hd)}{name:Str}{apos cpos:Pos}{o:Expr}{to:TE}{mo:ME}(slot:Slot "list" name id)(hty:typeOf (.builtin id)=pure (.type "method_descriptor"))(hm:MtM X id r)(hr:RM K r f)(ho:QE K X o to mo)(ha:QA K X (e::es) t m)
 (hbase:attributeBase o name X.env (eval o X.env)=eval o X.env:=by rfl)
 (hfew:((backTo cpos (starEach (e::es) X.env)).all (λx=>!x.1)&&(backToKw cpos (keywordEach [] X.env)).all (λx=>x.1.isSome)
  && decide ((e::es).length+([]:List Keyword).length+(if([]:List Keyword).isEmpty then 0 else 1)<30))=true:=by rfl)
 (hline:(apos.endLine==cpos.line)=true:=by rfl) (hs:starEach (e::es) X.env=(false,eval e X.env)::starEach es X.env:=by rfl) (hplain:(backTo cpos (starEach es X.env)).any (·.1)=false:=by rfl) (hK:X.K=K:=by rfl):
 QE K X (.Call (.Attribute o name apos) (e::es) [] cpos) (tBM K "list" r to t) (mMt f mo m):=by
 subst hK;exact⟨Zp PySem.F.plainAttrs_list slot hty hm ho.p ha.p hbase hfew hline hs hplain,ZW hr ho.r ha.r⟩
def Se(w:Nat){j k:Nat}{f:Addr}{fd:FuncData}{ps:List Str}{n:Nat}{F:List D->Hd->Option (D×Hd)}{st:Stmt}{p:Pos}(G:FnOk X.prog X.w X.K X.mg X.base CX0 j f fd ps (spF K n F))(hr:Room k X.A)(DA:DefAt X.K X.mg x st f fd ps)(ha:QA K X (e::es) t m)(hF:∀ds hd z,F ds hd=some z->ds.length=n)
 (hjk:j<=k:=by decide) (hg:Gl X x:=by rfl) (hdb:(x==("__debug__":Str))=false:=by decide) (he:starEach (e::es) X.env=(false,eval e X.env)::starEach es X.env:=by rfl) (hpl:(backTo pos (starEach es X.env)).any (·.1)=false:=by rfl):
 QE K X (.Call (.Name x p) (e::es) [] pos) (Ey (spF K n F) [] E0 t) (A9 w F m):=⟨Tz G hr DA ha.p hjk hg hdb he hpl,SH ha.r hF⟩
def Sf{j k:Nat}{f:Addr}{fd:FuncData}{ps:List Str}{n:Nat}{F:List D->Hd->Option (D×Hd)}{st:Stmt}{p:Pos}(G:FnOk X.prog X.w X.K X.mg X.base CX0 j f fd ps (spF K n F))(hr:Room k X.A)(DA:DefAt X.K X.mg x st f fd ps)(ha:QA K X (e::es) t m)(hF:∀ds hd z,F ds hd=some z->ds.length=n)
 (hjk:j<=k:=by decide) (hg:Gl X x:=by rfl) (hdb:(x==("__debug__":Str))=false:=by decide) (he:starEach (e::es) X.env=(false,eval e X.env)::starEach es X.env:=by rfl) (hpl:(backTo pos (starEach es X.env)).any (·.1)=false:=by rfl):
 QE K X (.Call (.Name x p) (e::es) [] pos) (Ey (spF K n F) [] E0 t) (EB F m):=⟨Tz G hr DA ha.p hjk hg hdb he hpl,SI ha.r hF⟩
def V4{pos:Pos}:QPs K X pos [] [] [] []:=⟨VR,trivial⟩
def SW{pos:Pos}{k v:Expr}{ks:List (Option Expr)}{vs:List Expr}{tk tv:TE}{mk mv:ME}{trs:List (TE×TE)}{ms:List (ME×ME)}(hk:QE K X k tk mk)(hv:QE K X v tv mv)(hr:QPs K X pos ks vs trs ms):QPs K X pos (some k::ks) (v::vs) ((tk,tv)::trs) ((mk,mv)::ms):=⟨Sk hk.p hv.p hr.p,hk.r,hv.r,hr.r⟩
def VG{pos:Pos}{keys:List (Option Expr)}{values:List Expr}{trs:List (TE×TE)}{ms:List (ME×ME)}(h:QPs K X pos keys values trs ms)(hall:keys.all (·.isSome)=true:=by rfl)(hl:keys.length=values.length:=by rfl)(h0:keys≠[]:=by simp)
 (h15:keys.length<=15:=by decide):QE K X (.Dict keys values pos) (O5 trs) (Kv ms):=⟨Vd h.p hall hl h0 h15,Uj h.r⟩
def VC{i:Nat}(hN:X.N.Nodup)(hi:X.N[i]?=some x)(hx:Loc X.env.scope x)(hf:X.fn x=true∨X.env.scope.names.lookup x=some .local:=by first|exact .inl rfl|exact .inr rfl|assumption):QG K X (.Name x pos) (Dz i) (AA i):=⟨Vc hN hi hx hf,JT⟩
def VB:QGs K X [] TJ Aw:=⟨Va,Ue⟩
def Sc{tg:TG}{tgs:TGs}{n:MG}{ns:MGs}(h1:QG K X e tg n)(h2:QGs K X es tgs ns)(hs:(assignEach (e::es) X.env).map (·.2)=assign e X.env::(assignEach es X.env).map (·.2):=by rfl):QGs K X (e::es) (Ow tg tgs) (AH n ns):=⟨Sq h1.p h2.p hs,SF h1.r h2.r⟩
def Xl{k n:Nat}{tgs:TGs}{ns:MGs}(hc:X.calm=true)(h:QGs K X es tgs ns)(hK:X.K=K:=by rfl)(hn:(assignEach es X.env).length=n:=by rfl)(hst:(assignEach es X.env).findIdx? (·.1)=none:=by rfl):QG K X (.Tuple es k pos) (Ov K n tgs) (Av n ns):=⟨Vb K hc h.p hK hn hst,X7 h.r⟩
def Xi{tg:Expr}(h:QE K X e te me)(hK:X.K=K:=by rfl):QI K X tg e (Os K te) (Ak me):=⟨VX K h.p hK,X4 h.r⟩
def V9{tg:Expr}(h:QE K X e te me)(hK:X.K=K:=by rfl):QI K X tg e (HW K te) (CZ me):=⟨Lm K h.p hK,Uc h.r⟩
def Xk{tg:Expr}(h:QN K X e te m)(hK:X.K=K:=by rfl):QI K X tg e (HW K te) (EH m):=⟨Lm K h.p hK,X6 h.r⟩
def V8{tg:Expr}{p:Pos}(hm:X.mg "range"=none)(ha:QA K X [a] t m)(hg:Gl X "range":=by rfl)(hs:starEach [a] X.env=[(false,eval a X.env)]:=by rfl):QI K X tg (.Call (.Name "range" p) [a] [] pos) (Ot t) (Er m):=⟨Pz hg hm ha.p hs,Ub ha.r⟩
def Xn:QF K X [] Rg Bi:=⟨YJ,Wq⟩
def Xm(h:QT K X c tA nA):QF K X [c] tA nA:=⟨YI h.p,h.r⟩
def V7{elt tg iter:Expr}{ifs:List Expr}{scope:Scope}{loc fr:List Str}{ix:List Nat}{wi:TI}{g:TG}{tf:TT}{te:TE}{mi:MI}{n:MG}{mf:MT}{mm:ME}(hc:X.calm=true)(S:CSc X scope fr ix)(hi:QI K X tg iter wi mi)
 (hg:∀s H ex,QG K (cCx X (loc++fr) scope s H ex) tg g n) (hf:∀s H ex,QF K (cCx X (loc++fr) scope s H ex) ifs tf mf) (he:∀s H ex,QE K (cCx X (loc++fr) scope s H ex) elt te mm)
 (hs:∀x,foldedSetIterable iter X.env x=pure x:=by intro _;rfl):QN K X (.ListComp elt [⟨tg,iter,ifs,0⟩] scope pos) (Fk loc.length ix wi g tf te) (Ao loc.length ix mi n mf mm):=
 ⟨Vf hc S hi.p (λs H ex=>(hg s H ex).p) (λs H ex=>(hf s H ex).p) (λs H ex=>(he s H ex).p) hs,NG hi.r (hg X.s₀ X.H₀ []).r (hf X.s₀ X.H₀ []).r (he X.s₀ X.H₀ []).r⟩
def Ux:QSs K X [] IR AS:=⟨VM,NE⟩
def SS{st:Stmt}{rest:List Stmt}{u v:TS}{m1 m2:MS}(h1:QS K X st u m1)(h2:QSs K X rest v m2):QSs K X (st::rest) (Rj u v) (A8 m1 m2):=⟨Sh h1.p h2.p,Wt h1.r h2.r⟩
def Uw{st:Stmt}{u:TS}{m1:MS}(h1:QS K X st u m1):QSs K X [st] u m1:=⟨VL h1.p,h1.r⟩
def Uz:QS K X (.Pass pos) IR AS:=⟨VO,NE⟩
def V1(he:QE K X e te me)(hs:swapsWith e none pos.line X.env=pure false:=by rfl):QS K X (.Expr e pos) (O4 te) (Bp me):=⟨VP he.p hs,UX he.r⟩
def XY(he:QE K X e te me):QS K X (.Return (some e) pos) (Rk te) (AN me):=⟨Y9 he.p,Wu he.r⟩
def Zc{a b:List Stmt}{u v:TS}{m1 m2:MS}(hc:QT K X c tA nA)(ha:QSs K X a u m1)(hb:QSs K X b v m2):QS K X (.If c a b pos) (Rq tA u v) (Aa nA m1 m2):=⟨Zm hc.p ha.p hb.p,ZU hc.r ha.r hb.r⟩
def SV{st:Stmt}:QS K X st LM Cj:=⟨Si,S9⟩
def Xb{tg:Expr}{g:TG}{n:MG}(he:QE K X e te me)(hg:QG K X tg g n)(hs:swapsWithSole [tg] e pos.line X.env=pure false:=by rfl)(hw:swappedStores [tg] e X.env=pure none:=by rfl)
 (h1:(assignEach [tg] X.env).map (·.2)=[assign tg X.env]:=by rfl):QS K X (.Assign [tg] e pos) (Ej te g) (EI me n):=⟨Pw he.p hg.p hs hw h1,LZ he.r hg.r⟩
def XX{i:Nat}{pos':Pos}(hN:X.N.Nodup)(hi:X.N[i]?=some x)(hx:Loc X.env.scope x)(he:QE K X e te me)(hs:swapsWith e (some (.Name x pos')) pos.line X.env=pure false:=by rfl)(hf:X.fn x=true∨X.env.scope.names.lookup x=some .local:=by first|exact .inl rfl|exact .inr rfl|assumption):
 QS K X (.Assign [.Name x pos'] e pos) (Ej te (Dz i)) (AM i me):=⟨Y8 hN hi hx he.p hs hf,LZ he.r JT⟩
def Uy{i:Nat}{y:Str}{elt tg iter:Expr}{ifs:List Expr}{scope:Scope}{spos py:Pos}{loc fr:List Str}{ix:List Nat}{wi:TI}{g:TG}{tf:TT}{te:TE}{mi:MI}{n:MG}{mf:MT}{mm:ME}(hN:X.N.Nodup)(hiN:X.N[i]?=some y)(hy:X.env.scope.names.lookup y=some .local)
 (hc:X.calm=true) (S:CSc X scope fr ix) (hi:QI K X tg iter wi mi)
 (hg:∀s H ex,QG K (cCx X (loc++fr) scope s H ex) tg g n) (hf:∀s H ex,QF K (cCx X (loc++fr) scope s H ex) ifs tf mf) (he:∀s H ex,QE K (cCx X (loc++fr) scope s H ex) elt te mm)
 (hsw:swapsWith (.ListComp elt [⟨tg,iter,ifs,0⟩] scope pos) (some (.Name y py)) spos.line X.env=pure true:=by rfl) (hs:∀x,foldedSetIterable iter X.env x=pure x:=by intro _;rfl):
 QS K X (.Assign [.Name y py] (.ListComp elt [⟨tg,iter,ifs,0⟩] scope pos) spos) (Ej (Fk loc.length ix wi g tf te) (Dz i)) (AM i (B5 (Ao loc.length ix mi n mf mm))):=
 ⟨VN hN hiN hy hc S hi.p (λs H ex=>(hg s H ex).p) (λs H ex=>(hf s H ex).p) (λs H ex=>(he s H ex).p) hsw hs,LZ (Pn (NG hi.r (hg X.s₀ X.H₀ []).r (hf X.s₀ X.H₀ []).r (he X.s₀ X.H₀ []).r)) JT⟩
def V2{o i value:Expr}{pos':Pos}{td ty tv:TE}{md my mv:ME}(hu:X.A.units+1<cLine)(ho:QE K X o td md)(hi:QE K X i ty my)(hv:QE K X value tv mv)(hs:swapsWith value (some (.Subscript o i pos')) pos.line X.env=pure false:=by rfl):
 QS K X (.Assign [.Subscript o i pos'] value pos) (OJ td ty tv) (F4 md my mv):=⟨VQ hu ho.p hi.p hv.p hs,UY ho.r hi.r hv.r⟩
def V0{o i value:Expr}{pos':Pos}{to ti tv:TE}{mo mi mv:ME}(ho:QE K X o to mo)(hi:QE K X i ti mi)(hv:QE K X value tv mv)(hs:swapsWithSole [.Subscript o i pos'] value pos.line X.env=pure false:=by rfl)(hw:swappedStores [.Subscript o i pos'] value X.env=pure none:=by rfl)
 (h1:(assignEach [.Subscript o i pos'] X.env).map (·.2)=[assign (.Subscript o i pos') X.env]:=by rfl)
 (ha:∀v,assign (.Subscript o i pos') X.env v=(do
  let ov <- holding [v] (eval o X.env)
  let iv <- holding [v,ov] (eval i X.env)
  standAt pos'
  holding [v,ov,iv] (setItem ov iv v)
  release [v,ov,iv] []):=by intro _;rfl):QS K X (.Assign [.Subscript o i pos'] value pos) (Ej tv (TF to ti OS)) (ES mo mi mv):=⟨Pw hv.p (YH ho.p hi.p S0 ha) hs hw h1,UW ho.r hi.r hv.r⟩
def Xa{i:Nat}{op:Operator}{g:Int->Int->Int}{pos':Pos}(hN:X.N.Nodup)(hi:X.N[i]?=some x)(hx:Loc X.env.scope x)(he:QE K X e te me)(ho:PIp X op (ipI g))(hf:X.fn x=true∨X.env.scope.names.lookup x=some .local:=by first|exact .inl rfl|exact .inr rfl|assumption):
 QS K X (.AugAssign (.Name x pos') op e pos) (O7 i te (ipI g)) (Gj i g me):=⟨YB hN hi hx he.p ho hf,Ww he.r⟩
def XZ{tg iter:Expr}{body:List Stmt}{wi:TI}{g:TG}{tb:TS}{mi:MI}{n:MG}{mb:MS}(hc:X.calm=true)(hi:QI K X tg iter wi mi)(hg:QG K X tg g n)(hb:QSs K X body tb mb)(hp:PassesOwn (model X.prog X.w) X.A X.env X.xe:=by exact PassesOwn.never)
 (hs:∀x,foldedSetIterable iter X.env x=pure x:=by intro _;rfl):QS K X (.For tg iter body [] pos) (Rr wi g tb) (BI mi n mb):=⟨YA hp hc hi.p hg.p hb.p hs,Wv hi.r hg.r hb.r⟩
end
def Vm{P:Program}{w:World}{K:PySem.W.Frag}{mg:Str->Option Value}{base:Heap}{x:Str}{st:Stmt}{f:Addr}{fd:FuncData}{N ps:List Str}{j:Nat}{m:MS}(DA:DefAt K mg x st f fd ps)(S:FnScope N ps (AB st))
 (h:∀(cdv:Value) (A:Around) (outer:List Env) (s:Shared) (H:Hp) (E:XK),Room j (A.deeper (envOfC x (AB st) s.heap.objs.size f cdv))->∃t,QSs K (FM CX0 P w K mg base N x (AB st) f cdv A outer s H E).nox (BJ st) t m):
 FnOk P w K mg base CX0 (j+1) f fd ps (spF K ps.length (mkF ps.length N.length m)):=by
 refine DA.fn.ok S (λvs H Q E h=>h.1) (λcdv A outer s H vs Q E hr hs=>?_);obtain⟨t,q⟩:=h cdv A outer s H E hr;exact⟨t,q.p,N7 q.r hs⟩
section
variable{X:Cx}{pins:List (Addr×Obj)}{σ:List (Option V)}{H H':Hp}{s:Shared}{h':Heap}
def Inv.turns{tk:Nat}{fp:List Addr}(I:Inv X pins σ H s)(k:∀b o,b∉fp->s.heap.get? b=some o->h'.get? b=some o)(hf:∀b∈fp,FpOk X pins H b):Inv X pins σ H { s with heap:=h',toks:=tk }:=by
 have out:∀b u,H b=some u->b∉fp:=λb u e z=>by rw[(hf b z).1]at e;cases e
 have hL:X.env.locals∉fp:=λz=>(hf _ z).2.1 rfl;refine I.step (g':=s.gens) (d':=s.drawn) (ch:=fp) (λb hb=>⟨(hf b hb).2.2.2.1,(hf b hb).2.1,(hf b hb).2.2.2.2.1,(hf b hb).2.2.2.2.2⟩) (λb o _ _ hc e _=>k b o hc e) (λb o _ _ hc e _=>⟨o.slots,k b o hc e⟩) (λ_ _ _ _ n=>n)
  (λb o hc e=>⟨o,k b o hc e⟩) (λ_ _ e=>e) (λ_ _ _ e=>e) (λb ps e=>⟨#[],by rw[e];simp⟩) (λm hm=>?_) (λb u e=>?_) I.bare
 .obtain⟨o,es,ep,ho,r⟩:=hm;exact⟨o,es,ep,k _ o hL ho,r⟩
 .refine(I.hok b u e).stay (λc v hc q=>k c v ?_ q) (λ_ q=>q) λ_ _ q=>q;rcases hc with z|z
  .rw[z];exact out b u e
  .exact out c _ z
end
def Inv.turnsL{X:Cx}{pins:List (Addr×Obj)}{σ:List (Option V)}{H:Hp}{s:Shared}{h':Heap}{tk:Nat}{fp:List Addr}{a:Addr}{o:HO}(I:Inv X pins σ H s)(k:∀b o,b∉fp->s.heap.get? b=some o->h'.get? b=some o)(hf:∀b∈fp,FpOk X pins H b)(ha:s.heap.objs.size<=a)(new:ObjOk X.prog X.w (upd H a o) h' a o):
 Inv X pins σ (upd H a o) { s with heap:=h',toks:=tk }:=by
 have out:∀b u,H b=some u->b∉fp:=λb u e z=>by rw[(hf b z).1]at e;cases e
 have hL:X.env.locals∉fp:=λz=>(hf _ z).2.1 rfl;have fr:H a=none:=I.hok.fresh ha;refine I.step (g':=s.gens) (d':=s.drawn) (ch:=fp) (λb hb=>⟨(hf b hb).2.2.2.1,(hf b hb).2.1,(hf b hb).2.2.2.2.1,(hf b hb).2.2.2.2.2⟩) (λb o _ _ hc e _=>k b o hc e) (λb o _ _ hc e _=>⟨o.slots,k b o hc e⟩)
  (λb o _ e n=>by rw[AE (ne_of_lt (lt_of_lt_of_le (Heap.lt_size e) ha))];exact n) (λb o hc e=>⟨o,k b o hc e⟩) (λb xs e=>by rw[AE (AV e fr)];exact e) (λb o u e=>by rw[AE (AV e fr)];exact e)
  (λb ps e=>⟨#[],by rw[AE (AV e fr),e];simp⟩) (λm hm=>?_) (λb u e=>?_) I.bare
 .obtain⟨o,es,ep,ho,r⟩:=hm;exact⟨o,es,ep,k _ o hL ho,r⟩
 .by_cases hb:b=a
  .subst hb;rw[AL]at e;cases e;exact new
  .rw[AE hb]at e;refine(I.hok b u e).stay (λc v hc q=>k c v ?_ q) (λc q=>by rw[AE (AV q fr)];exact q) λc xs q=>by rw[AE (AV q fr)];exact q
   rcases hc with z|z
   .rw[z];exact out b u e
   .exact out c _ z
def RowI(tp:Bool)(h:Heap)(it l:Addr)(k:Nat):Prop:=match tp with
 |true=>h.IsTupleIter it l k
 |false=>h.IsListIter it l k
def RowL(tp:Bool)(h:Heap)(l:Addr)(xs:Array Value):Prop:=match tp with
 |true=>h.IsTuple l xs
 |false=>h.IsList l xs
def RowI.at{tp:Bool}{h h':Heap}{it l:Addr}{k:Nat}(x:RowI tp h it l k)(e:∀o,h.get? it=some o->h'.get? it=some o):RowI tp h' it l k:=by
 cases tp with
 |true=>exact Heap.IsTupleIter.at x e
 |false=>exact Heap.IsListIter.at x e
def RowL.at{tp:Bool}{h h':Heap}{l:Addr}{xs:Array Value}(x:RowL tp h l xs)(e:∀o,h.get? l=some o->h'.get? l=some o):RowL tp h' l xs:=by
 cases tp with
 |true=>obtain⟨o,e1,r⟩:=(show h.IsTuple l xs from x);exact⟨o,e _ e1,r⟩
 |false=>obtain⟨o,e1,r⟩:=(show h.IsList l xs from x);exact⟨o,e _ e1,r⟩
def RowI.obj{tp:Bool}{h:Heap}{it l:Addr}{k:Nat}(x:RowI tp h it l k):∃o,h.get? it=some o/\o.data=.fields #[.ref l,.int k 0]:=by
 cases tp with
 |true=>obtain⟨o,e,_,d⟩:=(show h.IsTupleIter it l k from x);exact⟨o,e,d⟩
 |false=>obtain⟨o,e,_,d⟩:=(show h.IsListIter it l k from x);exact⟨o,e,d⟩
def RowL.obj{tp:Bool}{h:Heap}{l:Addr}{xs:Array Value}(x:RowL tp h l xs):∃o n,h.get? l=some o/\o.data=.seq xs n:=by
 cases tp with
 |true=>obtain⟨o,e,_,n,d⟩:=(show h.IsTuple l xs from x);exact⟨o,n,e,d⟩
 |false=>obtain⟨o,e,_,n,d⟩:=(show h.IsList l xs from x);exact⟨o,n,e,d⟩
section
variable{prog:Program}{w:World}{A:Around}{E:Value->Shared->Prop}{s:Shared}{it l:Addr}{k:Nat}{xs:Array Value}{x:Value}
def Rb(hit:s.heap.IsTupleIter it l k)(hl:s.heap.IsTuple l xs)(hx:xs[k]?=some x){Q:Value->Shared->Prop}(hQ:∀g,g.IsTupleIter it l (k+1)->Heap.SameBut it s.heap g->Q x { s with heap:=g }):
 wpAny (model prog w) A (Builtin.SmallTypes.nextOf (.ref it)) Q E s:=by
 obtain⟨o,eo,ec,ed⟩:=id hit;obtain⟨ol,el,_,nl,edl⟩:=hl;unfold Builtin.SmallTypes.nextOf;refine wpAny_bind (wpAny_callSpecial?_slot (name:=Str.ofString "__next__") hit.typeIs PyProof.Rows.slot_tupleiter_next (wpAny_call_entry PyProof.Rows.slot_tupleiter_next hit.typeIs PyProof.Rows.entry_tupleiter_next ?_ (PyProof.Rows.args_tupleiter_next _)));show wpAny _ _ (field (.ref it) 0 >>= _) _ _ s;refine wpAny_bind (wpAny_field eo ed (x:=.ref l) rfl ?_);show wpAny _ _ (if(Value.ref l==Value.none)=true then _ else _) _ _ s;rw[if_neg (show ¬ (Value.ref l==Value.none)=true from Bool.false_ne_true)];show wpAny _ _ (field (.ref it) 1 >>= _) _ _ s;refine wpAny_bind (wpAny_field eo ed (x:=.int k 0) rfl ?_);show wpAny _ _ (seqItems? (.ref l) >>= _) _ _ s;refine wpAny_bind (wpAny_seqItems el edl ?_);simp only[toNat_natCast,hx];refine wpAny_bind (wpAny_setField eo ed (by simp) (wpAny_pure ⟨x,rfl,wpAny_pure (hQ _ ⟨_,Heap.get?_update_self _ eo (Obj.isFreed_of_fields (Obj.data_mapFields ed _)),(Obj.cls_mapFields ..).trans ec,?_⟩ (Heap.SameBut.update ..))⟩));rw[Obj.data_mapFields ed];simp[rawInt]
def Ra(hh:A.handled=none)(hit:s.heap.IsTupleIter it l k)(hl:s.heap.IsTuple l xs)(hx:xs[k]?=none){Q:Value->Shared->Prop}(hE:∀g e,Heap.ExtBut it s.heap g->(∃o,g.get? e=some o/\o.cls=.type "StopIteration")->E (.ref e) { s with heap:=g }):
 wpAny (model prog w) A (Builtin.SmallTypes.nextOf (.ref it)) Q E s:=by
 obtain⟨o,eo,ec,ed⟩:=id hit;obtain⟨ol,el,_,nl,edl⟩:=hl;unfold Builtin.SmallTypes.nextOf;refine wpAny_bind (wpAny_callSpecial?_slot (name:=Str.ofString "__next__") hit.typeIs PyProof.Rows.slot_tupleiter_next (wpAny_call_entry PyProof.Rows.slot_tupleiter_next hit.typeIs PyProof.Rows.entry_tupleiter_next ?_ (PyProof.Rows.args_tupleiter_next _)));show wpAny _ _ (field (.ref it) 0 >>= _) _ _ s;refine wpAny_bind (wpAny_field eo ed (x:=.ref l) rfl ?_);show wpAny _ _ (if(Value.ref l==Value.none)=true then _ else _) _ _ s;rw[if_neg (show ¬ (Value.ref l==Value.none)=true from Bool.false_ne_true)];show wpAny _ _ (field (.ref it) 1 >>= _) _ _ s;refine wpAny_bind (wpAny_field eo ed (x:=.int k 0) rfl ?_);show wpAny _ _ (seqItems? (.ref l) >>= _) _ _ s;refine wpAny_bind (wpAny_seqItems el edl ?_);simp only[toNat_natCast,hx];refine wpAny_bind (wpAny_rule (wpAny_bind (wpAny_setField eo ed (by simp) ?_)));show wpAny _ _ (newExc (.type "StopIteration") [] >>= _) _ _ _;refine wpAny_bind ?_;simp only[newExc,newTuple];refine wpAny_bind (wpAny_newObj_type ?_ (by size_fits));refine wpAny_bind (m:=firstArgMember _ _) (wpAny_of_eq (a:=Value.none) (by first|rfl|(simp only[firstArgMember];rfl)) ?_);refine wpAny_newObj_type ?_ (by size_fits);simp only[raiseNew];refine wpAny_bind (wpAny_handled ?_)
 first|rw[show A.in1.handled=none from hh]|rw[hh]
 exact wpAny_bind (wpAny_pure (wpAny_throw (hE _ _ (((Heap.SameBut.update ..).extBut.push _).push _) ⟨_,Heap.get?_push_size _ rfl,rfl⟩)))
def Ht{tp:Bool}(hit:RowI tp s.heap it l k)(hl:RowL tp s.heap l xs)(hx:xs[k]?=some x){Q:Value->Shared->Prop}(hQ:∀g,RowI tp g it l (k+1)->Heap.SameBut it s.heap g->Q x { s with heap:=g }):
 wpAny (model prog w) A (Builtin.SmallTypes.nextOf (.ref it)) Q E s:=by
 cases tp with
 |true=>exact Rb hit hl hx hQ
 |false=>exact wpAny_nextOf_list_item hit hl hx hQ
def La{tp:Bool}(hh:A.handled=none)(hit:RowI tp s.heap it l k)(hl:RowL tp s.heap l xs)(hx:xs[k]?=none){Q:Value->Shared->Prop}(hE:∀g e,Heap.ExtBut it s.heap g->(∃o,g.get? e=some o/\o.cls=.type "StopIteration")->E (.ref e) { s with heap:=g }):
 wpAny (model prog w) A (Builtin.SmallTypes.nextOf (.ref it)) Q E s:=by
 cases tp with
 |true=>exact Ra hh hit hl hx hE
 |false=>exact wpAny_nextOf_list_end hh hit hl hx hE
end
structure ZAt(t1 t2:Bool)(h:Heap)(z a b i1 i2 l1 l2:Addr)(f0:Value)(j k:Nat):Prop where
 z:IsZip h z a b f0
 p:IsPair h a (.ref i1) (.ref i2)
 o:∃u v,IsPair h b u v
 r1:RowI t1 h i1 l1 j
 r2:RowI t2 h i2 l2 k
structure ZNe(z a b i1 i2 l1 l2:Addr):Prop where
 az:a≠z
 bz:b≠z
 iz:i1≠z
 jz:i2≠z
 ab:a≠b
 ai:a≠i1
 aj:a≠i2
 bi:b≠i1
 bj:b≠i2
 ij:i1≠i2
 lz:l1≠z
 lb:l1≠b
 li:l1≠i1
 lj:l1≠i2
 mz:l2≠z
 mb:l2≠b
 mi:l2≠i1
 mj:l2≠i2
section
variable{prog:Program}{w:World}{A:Around}{E:Value->Shared->Prop}{s:Shared}{t1 t2:Bool}{z a b i1 i2 l1 l2:Addr}{j k:Nat}{xs ys:Array Value}{x y:Value}
abbrev PB(z b i1 i2:Addr)(h h':Heap):Prop:=∀c o,c≠z->c≠b->c≠i1->c≠i2->h.get? c=some o->h'.get? c=some o
def RO(N:ZNe z a b i1 i2 l1 l2)(Z:ZAt t1 t2 s.heap z a b i1 i2 l1 l2 .none j k)(hl1:RowL t1 s.heap l1 xs)(hl2:RowL t2 s.heap l2 ys)(hx:xs[j]?=some x)(hy:ys[k]?=some y){Q:Value->Shared->Prop}
 (hQ:∀g,ZAt t1 t2 g z a b i1 i2 l1 l2 (rawInt s.heap.objs.size) (j+1) (k+1)->IsPair g s.heap.objs.size x y->PB z b i1 i2 s.heap g->Q (.ref s.heap.objs.size) { s with heap:=g }):
 wpAny (model prog w) A (Builtin.«zip.__next__» ⟨[.ref z],[]⟩) (λfin s'=>∃v,fin=.done (.ret v)/\Q v s') E s:=by
 obtain⟨hz,hp,⟨u,v,hb⟩,q1,q2⟩:=Z;show wpAny _ _ (field (.ref z) 2 >>= _) _ _ _;refine wpAny_bind (wpAny_field hz rfl (x:=.bool false) rfl ?_);show wpAny _ _ (field (.ref z) 3 >>= _) _ _ _;refine wpAny_bind (wpAny_field hz rfl (x:=.ref a) rfl (wpAny_bind (wpAny_seqItems hp rfl ?_)));show wpAny _ _ (Builtin.SmallTypes.ownedTupleIsFree (.ref z) >>= _) _ _ _;unfold Builtin.SmallTypes.ownedTupleIsFree;refine wpAny_bind (wpAny_bind (wpAny_field hz rfl (x:=.none) rfl (wpAny_pure ?_)));simp only[if_true];refine wpAny_bind (wpAny_rule (wpAny_bind (wpAny_field hz rfl (x:=.ref b) rfl ?_)));refine wpAny_bind (wpAny_setField_rec hz (by simp) λg1 z1 s1=>?_);have z1:IsZip g1 z a b .ellipsis:=z1;refine wpAny_bind ?_;simp only[zipIdx_cons,List.zipIdx_nil,List.forIn_cons,List.forIn_nil];refine wpAny_bind (wpAny_bind (wpAny_onRaise ?_));show wpAny _ _ (Builtin.SmallTypes.nextOf (.ref i1) >>= _) _ _ _;refine wpAny_bind (Ht (s:={ s with heap:=g1 }) (q1.at λo e=>s1.extBut _ _ N.iz e) (hl1.at λo e=>s1.extBut _ _ N.lz e) hx λg2 r2 s2=>wpAny_pure ?_);have b2:IsPair g2 b u v:=s2.extBut _ _ N.bi (s1.extBut _ _ N.bz hb);refine wpAny_bind (wpAny_seqItems b2 rfl (wpAny_bind (wpAny_updateSeq_pair b2 λg3 b3 s3=>?_)));have b3:IsPair g3 b x v:=b3;refine wpAny_bind (wpAny_letGo (wpAny_pure (wpAny_bind (wpAny_bind (wpAny_onRaise ?_)))));show wpAny _ _ (Builtin.SmallTypes.nextOf (.ref i2) >>= _) _ _ _;have q3:RowI t2 g3 i2 l2 k:=q2.at λo e=>s3.extBut _ _ N.bj.symm (s2.extBut _ _ N.ij.symm (s1.extBut _ _ N.jz e));have m3:RowL t2 g3 l2 ys:=hl2.at λo e=>s3.extBut _ _ N.mb (s2.extBut _ _ N.mi (s1.extBut _ _ N.mz e));refine wpAny_bind (Ht (s:={ s with heap:=g3 }) q3 m3 hy λg4 r4 s4=>wpAny_pure ?_);have b4:IsPair g4 b x v:=s4.extBut _ _ N.bj b3;refine wpAny_bind (wpAny_seqItems b4 rfl (wpAny_bind (wpAny_updateSeq_pair b4 λg5 b5 s5=>?_)));have b5:IsPair g5 b x y:=b5;refine wpAny_bind (wpAny_letGo (wpAny_pure (wpAny_pure (wpAny_bind (wpAny_seqItems b5 rfl (wpAny_bind (wpAny_newTuple ?_)))))));have sz:g5.objs.size=s.heap.objs.size:=by rw[s5.1,s4.1,s3.1,s2.1,s1.1]
 have z5:IsZip g5 z a b .ellipsis:=s5.extBut _ _ N.bz.symm (s4.extBut _ _ N.jz.symm (s3.extBut _ _ N.bz.symm (s2.extBut _ _ N.iz.symm z1)));have kp:PB z b i1 i2 s.heap g5:=λc o c1 c2 c3 c4 e=>s5.extBut _ _ c2 (s4.extBut _ _ c4 (s3.extBut _ _ c2 (s2.extBut _ _ c3 (s1.extBut _ _ c1 e))));have w1:RowI t1 g5 i1 l1 (j+1):=r2.at λo e=>s5.extBut _ _ N.bi.symm (s4.extBut _ _ N.ij (s3.extBut _ _ N.bi.symm e));have w2:RowI t2 g5 i2 l2 (k+1):=r4.at λo e=>s5.extBut _ _ N.bj.symm e;have zlt:=Heap.lt_size z5;show wpAny _ _ (Builtin.SmallTypes.ownedTupleHandOut (.ref z) (.ref g5.objs.size) >>= _) _ _ _;unfold Builtin.SmallTypes.ownedTupleHandOut;have z6:IsZip (g5.push { cls:=.type "tuple",data:=.seq #[x,y] }) z a b .ellipsis:=Heap.get?_push_of_some _ z5;refine wpAny_bind (wpAny_bind (wpAny_setField_rec z6 (by simp) λg7 z7 s7=>?_));have z7:IsZip g7 z a b (rawInt g5.objs.size):=z7;refine wpAny_setField_rec z7 (by simp) λg8 z8 s8=>wpAny_pure ⟨_,rfl,?_⟩;have z8:IsZip g8 z a b (rawInt g5.objs.size):=z8;have up:∀c o,c≠z->g5.get? c=some o->g8.get? c=some o:=λc o c1 e=>s8.extBut _ _ c1 (s7.extBut _ _ c1 (Heap.get?_push_of_some _ e));have t8:IsPair g8 g5.objs.size x y:=s8.extBut _ _ (ne_of_gt zlt) (s7.extBut _ _ (ne_of_gt zlt) (Heap.get?_push_size _ rfl));show Q (.ref g5.objs.size) _;rw[sz]at z8 t8 ⊢;exact hQ g8 ⟨z8,up _ _ N.az (kp _ _ N.az N.ab N.ai N.aj hp),⟨_,_,up _ _ N.bz b5⟩,w1.at λo e=>up _ o N.iz e,w2.at λo e=>up _ o N.jz e⟩ t8 λc o c1 c2 c3 c4 e=>up c o c1 (kp c o c1 c2 c3 c4 e)
def RK(hh:A.handled=none)(N:ZNe z a b i1 i2 l1 l2)(Z:ZAt t1 t2 s.heap z a b i1 i2 l1 l2 .none j k)(hl1:RowL t1 s.heap l1 xs)(hl2:RowL t2 s.heap l2 ys)(hend:xs[j]?=none∨ys[k]?=none){Q:Fin->Shared->Prop}
 (hE:∀g e,PB z b i1 i2 s.heap g->(∃o,g.get? e=some o/\o.cls=.type "StopIteration")->E (.ref e) { s with heap:=g }):
 wpAny (model prog w) A (Builtin.«zip.__next__» ⟨[.ref z],[]⟩) Q E s:=by
 obtain⟨hz,hp,⟨u,v,hb⟩,q1,q2⟩:=Z;show wpAny _ _ (field (.ref z) 2 >>= _) _ _ _;refine wpAny_bind (wpAny_field hz rfl (x:=.bool false) rfl ?_);show wpAny _ _ (field (.ref z) 3 >>= _) _ _ _;refine wpAny_bind (wpAny_field hz rfl (x:=.ref a) rfl (wpAny_bind (wpAny_seqItems hp rfl ?_)));show wpAny _ _ (Builtin.SmallTypes.ownedTupleIsFree (.ref z) >>= _) _ _ _;unfold Builtin.SmallTypes.ownedTupleIsFree;refine wpAny_bind (wpAny_bind (wpAny_field hz rfl (x:=.none) rfl (wpAny_pure ?_)));simp only[if_true];refine wpAny_bind (wpAny_rule (wpAny_bind (wpAny_field hz rfl (x:=.ref b) rfl ?_)));refine wpAny_bind (wpAny_setField_rec hz (by simp) λg1 z1 s1=>?_);have z1:IsZip g1 z a b .ellipsis:=z1;refine wpAny_bind ?_;simp only[zipIdx_cons,List.zipIdx_nil,List.forIn_cons,List.forIn_nil];refine wpAny_bind (wpAny_bind (wpAny_onRaise ?_));show wpAny _ _ (Builtin.SmallTypes.nextOf (.ref i1) >>= _) _ _ _;have o1:RowI t1 g1 i1 l1 j:=q1.at λo e=>s1.extBut _ _ N.iz e;have m1:RowL t1 g1 l1 xs:=hl1.at λo e=>s1.extBut _ _ N.lz e;cases hx:xs[j]? with
 |none=>
  refine wpAny_bind (La (s:={ s with heap:=g1 }) hh o1 m1 hx λg2 e s2 he=>?_);obtain⟨oe,he1,he2⟩:=he;have z2:IsZip g2 z a b .ellipsis:=s2 _ _ N.iz.symm z1;have ne:e≠z:=λq=>by subst q;rw[z2]at he1;cases he1;simp at he2
  exact wpAny_setField_rec z2 (by simp) λg3 _ s3=>hE g3 e (λc o c1 _ c3 _ q=>s3.extBut _ _ c1 (s2 _ _ c3 (s1.extBut _ _ c1 q))) ⟨oe,s3.extBut _ _ ne he1,he2⟩
 |some x=>
  have hy:ys[k]?=none:=by
   rcases hend with q|q
   .rw[hx]at q;cases q
   .exact q
  refine wpAny_bind (Ht (s:={ s with heap:=g1 }) o1 m1 hx λg2 r2 s2=>wpAny_pure ?_);have b2:IsPair g2 b u v:=s2.extBut _ _ N.bi (s1.extBut _ _ N.bz hb);refine wpAny_bind (wpAny_seqItems b2 rfl (wpAny_bind (wpAny_updateSeq_pair b2 λg3 b3 s3=>?_)));refine wpAny_bind (wpAny_letGo (wpAny_pure (wpAny_bind (wpAny_bind (wpAny_onRaise ?_)))));show wpAny _ _ (Builtin.SmallTypes.nextOf (.ref i2) >>= _) _ _ _;have q3:RowI t2 g3 i2 l2 k:=q2.at λo e=>s3.extBut _ _ N.bj.symm (s2.extBut _ _ N.ij.symm (s1.extBut _ _ N.jz e));have m3:RowL t2 g3 l2 ys:=hl2.at λo e=>s3.extBut _ _ N.mb (s2.extBut _ _ N.mi (s1.extBut _ _ N.mz e));refine wpAny_bind (La (s:={ s with heap:=g3 }) hh q3 m3 hy λg4 e s4 he=>?_);obtain⟨oe,he1,he2⟩:=he;have z4:IsZip g4 z a b .ellipsis:=s4 _ _ N.jz.symm (s3.extBut _ _ N.bz.symm (s2.extBut _ _ N.iz.symm z1));have ne:e≠z:=λq=>by subst q;rw[z4]at he1;cases he1;simp at he2
  exact wpAny_setField_rec z4 (by simp) λg5 _ s5=>hE g5 e (λc o c1 c2 c3 c4 q=>s5.extBut _ _ c1 (s4 _ _ c4 (s3.extBut _ _ c2 (s2.extBut _ _ c3 (s1.extBut _ _ c1 q))))) ⟨oe,s5.extBut _ _ ne he1,he2⟩
end
def SqS(K:PySem.W.Frag)(tp:Bool)(H:Hp)(a:Addr)(xs:List V):Prop:=match tp with
 |true=>SqT K H a xs
 |false=>SqL K H a xs
def Itz(K:PySem.W.Frag)(t1 t2:Bool)(a b:Addr):It:=
 ⟨λi H=>∃xs ys x y,SqS K t1 H a xs/\SqS K t2 H b ys/\xs[i]?=some x/\ys[i]?=some y,
  λi H x H'=>∃p u v,H p=none/\H'=upd H p (.tup [u,v])/\x=.ref p/\(∀xs,SqS K t1 H a xs->xs[i]?=some u)/\∀ys,SqS K t2 H b ys->ys[i]?=some v,
  λi H=>∃xs ys,SqS K t1 H a xs/\SqS K t2 H b ys/\(xs.length<=i∨ys.length<=i)⟩
section
variable{X:Cx}{pins:List (Addr×Obj)}{σ:List (Option V)}{H:Hp}{s:Shared}
def Inv.row{tp:Bool}{a:Addr}{xs:List V}(I:Inv X pins σ H s)(h:SqS X.K tp H a xs):∃its:List Value,Vals xs its/\RowL tp s.heap a its.toArray/\xs.length<=sizeLine:=by
 cases tp with
 |true=>obtain⟨its,r,p,z⟩:=I.tuple h;exact⟨its,r,(show s.heap.IsTuple a its.toArray from p),z⟩
 |false=>obtain⟨its,r,p,z⟩:=I.list h;exact⟨its,r,p.isList,z⟩
def Inv.row_inj{tp:Bool}{a:Addr}{xs ys:List V}(I:Inv X pins σ H s)(h:SqS X.K tp H a xs)(h':SqS X.K tp H a ys):xs=ys:=by
 cases tp with
 |true=>exact I.tuple_inj h h'
 |false=>exact I.list_inj h h'
end
def RowL.lt{tp:Bool}{h:Heap}{l:Addr}{xs:Array Value}(x:RowL tp h l xs):l<h.objs.size:=by
 obtain⟨o,n,e,_⟩:=x.obj;exact Heap.lt_size e
def WM{M:Model}{A:Around}{E:Value->Shared->Prop}{s:Shared}{elts:List Expr}{x1}{pos:Pos}{z a b T:Addr}{Q:Unit->Shared->Prop}(hz:IsZip s.heap z a b (rawInt T)){prog:Program}{w:World}
 (hQ:∀g,IsZip g z a b .none->Heap.SameBut z s.heap g->Q () { s with heap:=g }):wpAny (model prog w) A (letOwnedTupleGo (.Tuple elts x1 pos) (.ref z) (.ref T)) Q E s:=wpAny_letOwnedTupleGo_zip hz hQ
def RY{P:Program}{w:World}{K:PySem.W.Frag}{elts:List Expr}{kk:Nat}{tpos:Pos}{t1 t2:Bool}{z a b i1 i2 l1 l2:Addr}(N:ZNe z a b i1 i2 l1 l2):Turn P w K (.Tuple elts kk tpos) (Itz K t1 t2 l1 l2) [z,a,b,i1,i2] z (λi h=>ZAt t1 t2 h z a b i1 i2 l1 l2 .none i i) where
 mem:=by simp
 obj:=λi h st c hc=>by
  obtain⟨hz,hp,⟨u,v,hb⟩,q1,q2⟩:=st;simp only[mem_cons,not_mem_nil,or_false]at hc;rcases hc with rfl|rfl|rfl|rfl|rfl
  .exact⟨_,hz,λv z=>by cases(show Data.fields _=Data.cell v from z)⟩
  .exact⟨_,hp,λv z=>by cases(show Data.seq _ _=Data.cell v from z)⟩
  .exact⟨_,hb,λv z=>by cases(show Data.seq _ _=Data.cell v from z)⟩
  .obtain⟨o,e,d⟩:=q1.obj;exact⟨o,e,λv z=>by rw[d]at z;cases z⟩
  .obtain⟨o,e,d⟩:=q2.obj;exact⟨o,e,λv z=>by rw[d]at z;cases z⟩
 keep:=λi h h' st k=>by
  obtain⟨hz,hp,⟨u,v,hb⟩,q1,q2⟩:=st;exact⟨k z (by simp) _ hz,k a (by simp) _ hp,⟨u,v,k b (by simp) _ hb⟩,q1.at λo e=>k i1 (by simp) o e,q2.at λo e=>k i2 (by simp) o e⟩
 item:=by
  intro X hP hw hK hc i pins s σ H E I hf st hg;subst hP hw hK;obtain⟨xs,ys,x,y,h1,h2,hx,hy⟩:=hg;obtain⟨ix,rx,px,zx⟩:=I.row h1;obtain⟨iy,ry,py,zy⟩:=I.row h2;obtain⟨u,hu,ru⟩:=rx.get hx;obtain⟨v,hv,rv⟩:=ry.get hy;have hT:s.TypeIs (.ref z) "zip":=⟨_,st.z,rfl⟩
  unfold pyNext;refine wpAny_bind (wpAny_attempt (wpAny_callSpecial?_slot (name:=Str.ofString "__next__") hT F.slot_zip_next (wpAny_call_entry F.slot_zip_next hT F.entry_zip_next
   (RO N st px py (x:=u) (y:=v) (by simpa using hu) (by simpa using hv) λg Z g5 kp=>wpAny_pure ⟨_,rfl,?_⟩) (F.args_zip_next_1 _))))
  refine WM (M:=model X.prog X.w) (s:={ s with heap:=g }) Z.z λg' z' sb=>?_;have kp2:∀c o,c∉[z,a,b,i1,i2]->s.heap.get? c=some o->g'.get? c=some o:=λc o nc e=>by
   simp only[mem_cons,not_mem_nil,or_false,not_or]at nc;exact sb.extBut _ _ nc.1 (kp c o nc.1 nc.2.2.1 nc.2.2.2.1 nc.2.2.2.2 e)
  have hTz:s.heap.objs.size≠z:=ne_of_gt (Heap.lt_size st.z);have hpair:IsPair g' s.heap.objs.size u v:=sb.extBut _ _ hTz g5;have fresh:H s.heap.objs.size=none:=I.hok.fresh (le_refl _);have I2:Inv X pins σ (upd H s.heap.objs.size (.tup [x,y])) { s with heap:=g' }:=I.turnsL (tk:=s.toks) (o:=.tup [x,y]) kp2 hf (le_refl _)
   (show ObjOk X.prog X.w _ g' _ (.tup [x,y])from⟨by show 2<=sizeLine;decide,[u,v],.cons ru (.cons rv .nil),⟨_,hpair,rfl,⟨_,rfl⟩,rfl⟩⟩)
  refine⟨.ref s.heap.objs.size,_,I2,rfl,⟨_,x,y,fresh,rfl,rfl,λxs' q=>by rw[I.row_inj q h1];exact hx,λys' q=>by rw[I.row_inj q h2];exact hy⟩,⟨z',?_,?_,?_,?_⟩,λc hc=>?_⟩
  .exact sb.extBut _ _ N.az Z.p
  .obtain⟨p,q,e⟩:=Z.o;exact⟨p,q,sb.extBut _ _ N.bz e⟩
  .exact Z.r1.at λo e=>sb.extBut _ _ N.iz e
  .exact Z.r2.at λo e=>sb.extBut _ _ N.jz e
  .have lt:c<s.heap.objs.size:=by
    obtain⟨hz,hp,⟨u,v,hb⟩,q1,q2⟩:=st;simp only[mem_cons,not_mem_nil,or_false]at hc;rcases hc with rfl|rfl|rfl|rfl|rfl
    .exact Heap.lt_size hz
    .exact Heap.lt_size hp
    .exact Heap.lt_size hb
    .obtain⟨o,e,_⟩:=q1.obj;exact Heap.lt_size e
    .obtain⟨o,e,_⟩:=q2.obj;exact Heap.lt_size e
   rw[AE (ne_of_lt lt)];exact(hf c hc).1
 done:=by
  intro X hP hw hK hc i pins s σ H E I hf st hg;subst hP hw hK;obtain⟨xs,ys,h1,h2,hend⟩:=hg;obtain⟨ix,rx,px,zx⟩:=I.row h1;obtain⟨iy,ry,py,zy⟩:=I.row h2;have l1':=rx.length;have l2':=ry.length;have hT:s.TypeIs (.ref z) "zip":=⟨_,st.z,rfl⟩
  unfold pyNext;refine wpAny_bind (wpAny_attempt (wpAny_callSpecial?_slot (name:=Str.ofString "__next__") hT F.slot_zip_next (wpAny_call_entry F.slot_zip_next hT F.entry_zip_next
   (RK (A:=X.A.in1) (show X.A.in1.handled=none from I.ok.hd hc) N st px py (hend.imp (λq=>by simp;omega) λq=>by simp;omega) λg e kp he=>?_) (F.args_zip_next_1 _))))
  obtain⟨o,ho,hcl⟩:=he;refine wpAny_bind (wpAny_isInstance (T:="StopIteration") (b:=true) ⟨o,ho,hcl⟩ isSubtype_stop (wpAny_pure ⟨rfl,?_⟩));exact I.turns (tk:=s.toks) (λc o nc e=>by
   simp only[mem_cons,not_mem_nil,or_false,not_or]at nc;exact kp c o nc.1 nc.2.2.1 nc.2.2.2.1 nc.2.2.2.2 e) hf
 self:=λ_ _ _ _ _ st h=>wpAny_pyIter_zip st.z h
abbrev Dx(tp:Bool)(l:Addr):Obj:={ cls:=.type (match tp with|true=>"tuple_iterator" | false=>"list_iterator"),data:=.fields #[.ref l,.int 0 0] }
abbrev zh1(t1:Bool)(h:Heap)(l1:Addr):Heap:=h.push (Dx t1 l1)
abbrev zh2(t1 t2:Bool)(h:Heap)(l1 l2:Addr):Heap:=(zh1 t1 h l1).push (Dx t2 l2)
abbrev zh3(t1 t2:Bool)(h:Heap)(l1 l2:Addr):Heap:=(zh2 t1 t2 h l1 l2).push { cls:=.type "tuple",data:=.seq #[.ref h.objs.size,.ref (zh1 t1 h l1).objs.size] }
abbrev zh4(t1 t2:Bool)(h:Heap)(l1 l2:Addr):Heap:=(zh3 t1 t2 h l1 l2).push { cls:=.type "tuple",data:=.seq #[.none,.none] }
abbrev zh5(t1 t2:Bool)(h:Heap)(l1 l2:Addr):Heap:=(zh4 t1 t2 h l1 l2).push { cls:=.type "zip",data:=.fields #[.none,.bool false,.bool false,.ref (zh2 t1 t2 h l1 l2).objs.size,.ref (zh3 t1 t2 h l1 l2).objs.size] }
set_option maxHeartbeats 4000000 in
def RP(t1 t2:Bool)(l1 l2:Addr)(xs ys:Array Value):
 Meets (Builtin.«zip.__new__» ⟨[.type "zip",.ref l1,.ref l2],[]⟩) (λ_ R s=>RowL t1 s.heap l1 xs/\RowL t2 s.heap l2 ys/\R (.ok (.ret (.ref (zh4 t1 t2 s.heap l1 l2).objs.size))) { s with heap:=zh5 t1 t2 s.heap l1 l2 }):=
 .of_wp λprog w A R s h=>by
  obtain⟨hp,g,d,tk,os⟩:=s;obtain⟨q1,q2,h⟩:=h;have hsub:=sub_zip;have q2':RowL t2 (hp.push (Dx t1 l1)) l2 ys:=q2.at λo e=>Heap.get?_push_of_some _ e;cases t1<;>cases t2
  .have p1:Heap.IsList (Shared.heap ⟨hp,g,d,tk,os⟩) l1 xs:=q1;have p2:Heap.IsList (Shared.heap ⟨hp.push (Dx false l1),g,d,tk,os⟩) l2 ys:=q2'
   wp_walk using wpAny_pyIter_list p1,wpAny_pyIter_list p2
   exact⟨_,rfl,h⟩
  .have p1:Heap.IsList (Shared.heap ⟨hp,g,d,tk,os⟩) l1 xs:=q1;have p2:Heap.IsTuple (Shared.heap ⟨hp.push (Dx false l1),g,d,tk,os⟩) l2 ys:=q2'
   wp_walk using wpAny_pyIter_list p1,wpAny_pyIter_tuple p2
   exact⟨_,rfl,h⟩
  .have p1:Heap.IsTuple (Shared.heap ⟨hp,g,d,tk,os⟩) l1 xs:=q1;have p2:Heap.IsList (Shared.heap ⟨hp.push (Dx true l1),g,d,tk,os⟩) l2 ys:=q2'
   wp_walk using wpAny_pyIter_tuple p1,wpAny_pyIter_list p2
   exact⟨_,rfl,h⟩
  .have p1:Heap.IsTuple (Shared.heap ⟨hp,g,d,tk,os⟩) l1 xs:=q1;have p2:Heap.IsTuple (Shared.heap ⟨hp.push (Dx true l1),g,d,tk,os⟩) l2 ys:=q2'
   wp_walk using wpAny_pyIter_tuple p1,wpAny_pyIter_tuple p2
   exact⟨_,rfl,h⟩
def UD{n l1 l2:Addr}(h1:l1<n)(h2:l2<n):ZNe (n+4) (n+2) (n+3) n (n+1) l1 l2:=by
 have k1:@LT.lt Nat _ l1 n:=h1;have k2:@LT.lt Nat _ l2 n:=h2;constructor<;>(intro z;have z:@Eq Nat _ _:=z;omega)
def NF{tp:Bool}{h:Heap}{a l:Addr}(e:h.get? a=some (Dx tp l)):RowI tp h a l 0:=by
 cases tp with
 |true=>exact⟨_,e,rfl,rfl⟩
 |false=>exact⟨_,e,rfl,rfl⟩
section
variable{prog:Program}{w:World}{A:Around}{E:Value->Shared->Prop}{s:Shared}
def RQ{t1 t2:Bool}{l1 l2:Addr}{xs ys:Array Value}{Q:Value->Shared->Prop}(q1:RowL t1 s.heap l1 xs)(q2:RowL t2 s.heap l2 ys)
 (h:∀g,ZAt t1 t2 g (s.heap.objs.size+4) (s.heap.objs.size+2) (s.heap.objs.size+3) s.heap.objs.size (s.heap.objs.size+1) l1 l2 .none 0 0->(∀c o,s.heap.get? c=some o->g.get? c=some o)->Q (.ref (s.heap.objs.size+4)) { s with heap:=g }):
 wpAny (model prog w) A (call (.type "zip") [.ref l1,.ref l2]) Q E s:=by
 refine callType_new F.called_zip (by decide) (F.typeCall_zip_2 _ _) (F.newCall_zip_2 _ _) (λobj=>F.args_object_init_3 obj _ _) F.entry_zip_new (RP t1 t2 l1 l2 xs ys) ⟨q1,q2,?_⟩;have n1:(zh1 t1 s.heap l1).objs.size=s.heap.objs.size+1:=Heap.size_push ..;have n2:(zh2 t1 t2 s.heap l1 l2).objs.size=s.heap.objs.size+2:=by rw[Heap.size_push,n1]
 have n3:(zh3 t1 t2 s.heap l1 l2).objs.size=s.heap.objs.size+3:=by rw[Heap.size_push,n2]
 have n4:(zh4 t1 t2 s.heap l1 l2).objs.size=s.heap.objs.size+4:=by rw[Heap.size_push,n3]
 have up:∀{g:Heap} {c:Addr} {o x:Obj},g.get? c=some o->(g.push x).get? c=some o:=λe=>Heap.get?_push_of_some _ e;have e5:(zh5 t1 t2 s.heap l1 l2).get? (zh4 t1 t2 s.heap l1 l2).objs.size=some _:=Heap.get?_push_size _ rfl;have e4:(zh5 t1 t2 s.heap l1 l2).get? (zh3 t1 t2 s.heap l1 l2).objs.size=some _:=up (Heap.get?_push_size _ rfl);have e3:(zh5 t1 t2 s.heap l1 l2).get? (zh2 t1 t2 s.heap l1 l2).objs.size=some _:=up (up (Heap.get?_push_size _ rfl));have e2:(zh5 t1 t2 s.heap l1 l2).get? (zh1 t1 s.heap l1).objs.size=some (Dx t2 l2):=up (up (up (Heap.get?_push_size _ (by cases t2<;>rfl))));have e1:(zh5 t1 t2 s.heap l1 l2).get? s.heap.objs.size=some (Dx t1 l1):=up (up (up (up (Heap.get?_push_size _ (by cases t1<;>rfl)))));show _/\_;rw[n2,n3,n4]at e5;rw[n1,n2]at e3;rw[n3]at e4;rw[n1]at e2;rw[n4];exact⟨⟨_,e5,rfl⟩,h _ ⟨e5,e3,⟨_,_,e4⟩,NF e1,NF e2⟩ λc o x=>up (up (up (up (up x))))⟩
end
def Oq(K:PySem.W.Frag)(t1 t2:Bool)(ta:TA):TI:=λσ H R=>ta σ H λvs H1=>∃a b xs ys,vs=[.ref a,.ref b]/\SqS K t1 H1 a xs/\SqS K t2 H1 b ys/\R (Itz K t1 t2 a b) H1
section
variable{X:Cx}
def YD{t1 t2:Bool}{a b:Expr}{ta:TA}{elts:List Expr}{kk:Nat}{tpos p pos:Pos}(hg:Gl X "zip")(hm:X.mg "zip"=none)(ha:PA X [a,b] ta)(hs:starEach [a,b] X.env=[(false,eval a X.env),(false,eval b X.env)]:=by rfl)(hs2:starEach [b] X.env=[(false,eval b X.env)]:=by rfl):
 PI X (.Tuple elts kk tpos) (.Call (.Name "zip" p) [a,b] [] pos) (Oq X.K t1 t2 ta):=by
 intro pins s σ H R I h;refine Call_ (C7 I hg hm boot_zip (PyProof.Rows.callWith_type1 (thn (ha pos pins s σ H _ I h) λus s1 ⟨vs,H1,I1,r1,q1⟩=>?_) (by rw[hs,hs2]) (by rw[hs2];rfl)));obtain⟨l1,l2,xs,ys,e,c1,c2,q⟩:=q1;subst e;obtain⟨u,v,rfl,ru,rv⟩:=Nu r1;cases ru;cases rv;obtain⟨ix,rx,px,zx⟩:=I1.row c1;obtain⟨iy,ry,py,zy⟩:=I1.row c2;refine RQ px py λg Z kp=>wpAny_pyIter_zip Z.z ?_;refine⟨_,_,_,_,H1,rfl,I1.kept (t':=s1.toks) kp,RY (UD px.lt py.lt),Z,λc hc=>?_,q⟩;simp only[mem_cons,not_mem_nil,or_false]at hc;have le:s1.heap.objs.size<=c:=by
  rcases hc with rfl|rfl|rfl|rfl|rfl
  .exact le_add_right _ _
  .exact le_add_right _ _
  .exact le_add_right _ _
  .exact le_refl _
  .exact le_add_right _ _
 exact I1.fpOk le (I1.hok.fresh le)
def VW(K:PySem.W.Frag){t1 t2:Bool}{a b:Expr}{ta:TA}{elts:List Expr}{kk:Nat}{tpos p pos:Pos}(hg:Gl X "zip")(hm:X.mg "zip"=none)(ha:PA X [a,b] ta)(hK:X.K=K:=by rfl)(hs:starEach [a,b] X.env=[(false,eval a X.env),(false,eval b X.env)]:=by rfl)(hs2:starEach [b] X.env=[(false,eval b X.env)]:=by rfl):
 PI X (.Tuple elts kk tpos) (.Call (.Name "zip" p) [a,b] [] pos) (Oq K t1 t2 ta):=by subst hK;exact YD hg hm ha hs hs2
end
def aO(K:PySem.W.Frag)(ρ:List Addr)(H:Hp)(tp:Bool)(a:Addr)(ds:List D)(g:Gd):Prop:=∀(ρ2:List Addr) (H2:Hp) (hd2:Hd),Ext ρ H ρ2 H2->RH K ρ2 H2 hd2->GOk hd2 g->∃xs,SqS K tp H2 a xs/\RDs K ρ2 H2 ds xs
def RRw(K:PySem.W.Frag)(tp:Bool)(t:TE)(m:MI):Prop:=∀(ρ:List Addr) (σ:St) (H:Hp) (hd:Hd) (ls:Ls) (Q:VK) (d:List D) (g:Gd) (hd':Hd),RH K ρ H hd->RL K ρ H ls σ->m ls hd=some ((d,g),hd') ->
 (∀ρ' H' a,Ext ρ H ρ' H'->RH K ρ' H' hd'->GOk hd' g->aO K ρ' H' tp a d g->Q (.ref a) H')->t σ H Q
structure QR(K:PySem.W.Frag)(tp:Bool)(X:Cx)(e:Expr)(t:TE)(m:MI):Prop where
 p:PE X e t
 r:RRw K tp t m
section
variable{K:PySem.W.Frag}{ρ ρ':List Addr}{H H':Hp}{hd hd':Hd}
def Wl{t:TE}{m:ME}(h:RE K t m):RRw K true t (Ak m):=by
 intro ρ σ H hd ls Q d g hd' hR hL hm hQ;obtain⟨⟨d1,h1⟩,e1,hm⟩:=cu hm;obtain⟨ds,e2,e3⟩:=cv hm;cases e3;refine h ρ σ H hd ls _ d1 _ hR hL e1 λρ1 H1 v x1 R1 r1=>?_;obtain⟨a,xs,rfl,q,r⟩:=r1.tup e2;exact hQ ρ1 H1 a x1 R1 (AR _) λρ2 H2 hd2 x2 R2 _=>⟨xs,(x2.grow R1).sq q,r.ext R1 x2⟩
def UU{t:TE}{m:ME}(h:RE K t m):RRw K false t (CZ m):=by
 intro ρ σ H hd ls Q d g hd' hR hL hm hQ;obtain⟨⟨d1,h1⟩,e1,hm⟩:=cu hm;dsimp only at hm;split at hm
 .next n=>
  split at hm
  .next ds q=>
   cases hm;refine h ρ σ H hd ls _ _ _ hR hL e1 λρ1 H1 v x1 R1 r1=>?_;simp only[RD]at r1;obtain⟨a,hn,rfl⟩:=r1;refine hQ ρ1 H1 a x1 R1 (λp z=>by simp at z;subst z;exact q) λρ2 H2 hd2 x2 R2 G2=>?_;have hn2:ρ2[n]?=some a:=by
    obtain⟨r,rfl,_⟩:=x2.pre;rw[List.getElem?_append_left (List.getElem?_eq_some_iff.mp hn).1];exact hn
   obtain⟨ys,e4,e5⟩:=R2.lst hn2 (G2 (n,d) (by simp));exact⟨ys,SqL.of e4,e5⟩
  .cases hm
 .next ns=>
  cases hm;refine h ρ σ H hd ls _ _ _ hR hL e1 λρ1 H1 v x1 R1 r1=>?_;simp only[RD]at r1;obtain⟨a,rfl,q⟩:=r1;exact hQ ρ1 H1 a x1 R1 (AR _) λρ2 H2 hd2 x2 R2 _=>⟨_,(q.grow (x2.grow R1)).sq,Ds⟩
 .cases hm
def Wn{t:TE}{m:MA}(h:RN K t m):RRw K false t (EH m):=by
 intro ρ σ H hd ls Q d g hd' hR hL hm hQ;obtain⟨⟨d1,h1⟩,e1,e3⟩:=cv hm;cases e3;refine h ρ σ H hd ls _ _ _ hR hL e1 λρ1 H1 a xs x1 R1 na oa ea r1=>?_;exact hQ ρ1 H1 a x1 R1 (AR _) λρ2 H2 hd2 x2 R2 _=>⟨xs,SqL.of (x2.keep a _ ea oa nt),r1.ext R1 x2⟩
open Classical in
def Fq(ma mb:MI):MI:=λls hd=>(ma ls hd).bind λp=>(mb ls p.2).bind λq=>if GOk q.2 p.1.2 then some ((List.zipWith (λx y=>Ab [x,y]) p.1.1 q.1.1,p.1.2++q.1.2),q.2)else none
def X3{t1 t2:Bool}{ta tb:TE}{ma mb:MI}(ha:RRw K t1 ta ma)(hb:RRw K t2 tb mb):RIt K (Oq K t1 t2 (Ax ta (Ax tb BG))) (Fq ma mb):=by
 intro ρ σ H hd ls Q d g hd' hR hL hm hQ;obtain⟨⟨⟨d1,g1⟩,h1⟩,e1,hm⟩:=cu hm;obtain⟨⟨⟨d2,g2⟩,h2⟩,e2,hm⟩:=cu hm;dsimp only at hm;split at hm
 .next gk=>
  cases hm;refine ha ρ σ H hd ls _ d1 g1 h1 hR hL e1 λρ1 H1 a x1 R1 G1 S1=>?_;refine hb ρ1 σ H1 h1 ls _ d2 g2 _ R1 (hL.ext hR x1) e2 λρ2 H2 b x2 R2 G2 S2=>?_;obtain⟨xs,c1,r1⟩:=S1 ρ2 H2 _ x2 R2 gk;obtain⟨ys,c2,r2⟩:=S2 ρ2 H2 _ .refl R2 G2;refine⟨a,b,xs,ys,rfl,c1,c2,hQ ρ2 H2 _ (x1.trans R1 x2) R2 (λp hp=>(mem_append.mp hp).elim (gk p) (G2 p)) ?_⟩;intro ρ3 H3 hd3 x3 R3 G3 i;obtain⟨xs,c1,r1⟩:=S1 ρ3 H3 _ (x2.trans R2 x3) R3 λp hp=>G3 p (mem_append_left _ hp);obtain⟨ys,c2,r2⟩:=S2 ρ3 H3 _ x3 R3 λp hp=>G3 p (mem_append_right _ hp);have l1:=r1.len;have l2:=r2.len;refine⟨λhi=>?_,λhi=>⟨xs,ys,c1,c2,?_⟩⟩
  .simp only[List.length_zipWith]at hi;have i1:d1[i]?=some (d1[i]'(by omega)):=List.getElem?_eq_getElem _;have i2:d2[i]?=some (d2[i]'(by omega)):=List.getElem?_eq_getElem _;obtain⟨x,x4,x5⟩:=r1.get i1;obtain⟨y,y4,y5⟩:=r2.get i2;refine⟨⟨xs,ys,x,y,c1,c2,x4,y4⟩,λz H4 hz=>?_⟩;obtain⟨p,u,v,fp,rfl,rfl,hu,hv⟩:=hz;have eu:=hu xs c1;rw[x4]at eu;cases eu;have ev:=hv ys c2;rw[y4]at ev;cases ev;obtain⟨R4,x6⟩:=R3.hid (ho:=.tup [x,y]) fp;refine⟨ρ3,Ab [d1[i]'(by omega),d2[i]'(by omega)],x6,rfl,R4,?_,BS (SqT.of AL) (.cons (x5.ext R3 x6) (.cons (y5.ext R3 x6) .nil))⟩;simp[List.getElem?_zipWith,i1,i2]
  .simp only[List.length_zipWith]at hi;omega
 .cases hm
end
section
variable(K:PySem.W.Frag){X:Cx}{a b e:Expr}{ta tb te:TE}{me:ME}{m:MA}
def Lj(h:QE K X e te me):QR K true X e te (Ak me):=⟨h.p,Wl h.r⟩
def V3(h:QE K X e te me):QR K false X e te (CZ me):=⟨h.p,UU h.r⟩
def Xc(h:QN K X e te m):QR K false X e te (EH m):=⟨h.p,Wn h.r⟩
def Xh{t1 t2:Bool}{ma mb:MI}{elts:List Expr}{kk:Nat}{tpos p pos:Pos}(hm:X.mg "zip"=none)(ha:QR K t1 X a ta ma)(hb:QR K t2 X b tb mb)(hg:Gl X "zip":=by rfl)(hK:X.K=K:=by rfl)(hs:starEach [a,b] X.env=[(false,eval a X.env),(false,eval b X.env)]:=by rfl)(hs2:starEach [b] X.env=[(false,eval b X.env)]:=by rfl):
 QI K X (.Tuple elts kk tpos) (.Call (.Name "zip" p) [a,b] [] pos) (Oq K t1 t2 (Ax ta (Ax tb BG))) (Fq ma mb):=⟨VW K hg hm (BH ha.p (BH hb.p By hs2) (by rw[hs,hs2])) hK hs hs2,X3 ha.r hb.r⟩
end
section
variable{K:PySem.W.Frag}
def IA(ml:MA)(mb:ME):ME:=λls hd=>(ml ls hd).bind λp=>(mb ls p.2).bind λq=>match q.1 with
 |.im (.int i)=>(atI p.1 i).map (·,q.2)
 |_=>none
def XE{ta tb:TE}{ml:MA}{mb:ME}(ha:RN K ta ml)(hb:RE K tb mb):RE K (tOp (Kr K) ta tb) (IA ml mb):=by
 and_intros;obtain⟨⟨d1,h1⟩,e1,hm⟩:=cu hm;obtain⟨⟨d2,h2⟩,e2,hm⟩:=cu hm;dsimp only at hm;split at hm
 .obtain⟨w,e3,e4⟩:=cv hm;cases e4;refine ha ρ σ H hd ls _ d1 h1 hR hL e1 λρ1 H1 a xs x1 R1 na oa ea r1=>?_;refine hb ρ1 σ H1 h1 ls _ _ _ R1 (hL.ext hR x1) e2 λρ2 H2 v2 x2 R2 r2=>?_;simp only[RD,RI]at r2;subst r2;have r1':=r1.ext R1 x2;obtain⟨j,j1,j2⟩:=Nm r1'.len e3;obtain⟨x,y1,y2⟩:=r1'.get j1;exact .inl ⟨a,xs,_,x,rfl,rfl,SqL.of (x2.keep a _ ea oa nt),j2 x y1,hQ ρ2 H2 x (x1.trans R1 x2) R2 y2⟩
 .cases hm
def G5(neg:Bool)(x y:PyData)(hd:Hd):Option (D×Hd):=if x.canLay0=true/\y.canLay0=true/\min x.depth y.depth<=60 then some (.im (.bl (if neg then !PyData.eqv x y else PyData.eqv x y)),hd)else none
def F3(neg:Bool)(ma:ME)(ml:MA):ME:=λls hd=>(ma ls hd).bind λp=>(ml ls p.2).bind λq=>(pyD q.2 p.1).bind λx=>(BZ q.1).bind λis=>G5 neg x (.list (I.pys is)) q.2
def ET(neg:Bool)(ml mk:MA):ME:=λls hd=>(ml ls hd).bind λp=>(mk ls p.2).bind λq=>(BZ p.1).bind λis=>(BZ q.1).bind λjs=>G5 neg (.list (I.pys is)) (.list (I.pys js)) q.2
def rEN(K:PySem.W.Frag)(neg:Bool):R2:=λx y H Q=>∃d e,Rep K H d x/\Rep K H e y/\d.canLay0=true/\e.canLay0=true/\min d.depth e.depth<=60/\Q (.bl (if neg then !PyData.eqv d e else PyData.eqv d e)) H
def JV{ρ:List Addr}{H:Hp}{a:Addr}{xs:List V}{ds:List D}{is:List I}(ea:H a=some (.lst xs))(r:RDs K ρ H ds xs)(e:BZ ds=some is):Rep K H (.list (I.pys is)) (.ref a):=by
 rw[GC e]at r;simp only[Rep];exact⟨a,xs,rfl,SqL.of ea,r.is.rep⟩
def Ui{neg:Bool}{ta tb:TE}{ma:ME}{ml:MA}(ha:RE K ta ma)(hb:RN K tb ml):RE K (tOp (rEN K neg) ta tb) (F3 neg ma ml):=by
 and_intros;obtain⟨⟨d1,h1⟩,e1,hm⟩:=cu hm;obtain⟨⟨d2,h2⟩,e2,hm⟩:=cu hm;obtain⟨x,e3,hm⟩:=cu hm;obtain⟨is,e4,hm⟩:=cu hm;unfold G5 at hm;split at hm
 .next c=>
  cases hm;refine ha ρ σ H hd ls _ d1 h1 hR hL e1 λρ1 H1 v x1 R1 r1=>?_;refine hb ρ1 σ H1 h1 ls _ d2 _ R1 (hL.ext hR x1) e2 λρ2 H2 a xs x2 R2 na oa ea r2=>?_;exact⟨_,_,FS R2 (r1.ext R1 x2) e3,JV ea r2 e4,c.1,c.2.1,c.2.2,hQ ρ2 H2 _ (x1.trans R1 x2) R2 (by simp[RD,RI])⟩
 .cases hm
def NI{neg:Bool}{ta tb:TE}{ml mk:MA}(ha:RN K ta ml)(hb:RN K tb mk):RE K (tOp (rEN K neg) ta tb) (ET neg ml mk):=by
 and_intros;obtain⟨⟨d1,h1⟩,e1,hm⟩:=cu hm;obtain⟨⟨d2,h2⟩,e2,hm⟩:=cu hm;obtain⟨is,e4,hm⟩:=cu hm;obtain⟨js,e3,hm⟩:=cu hm;unfold G5 at hm;split at hm
 .next c=>
  cases hm;refine ha ρ σ H hd ls _ d1 h1 hR hL e1 λρ1 H1 a xs x1 R1 na oa ea r1=>?_;refine hb ρ1 σ H1 h1 ls _ d2 _ R1 (hL.ext hR x1) e2 λρ2 H2 b ys x2 R2 nb ob eb r2=>?_;exact⟨_,_,JV (x2.keep a _ ea oa nt) (r1.ext R1 x2) e4,JV eb r2 e3,c.1,c.2.1,c.2.2,hQ ρ2 H2 _ (x1.trans R1 x2) R2 (by simp[RD,RI])⟩
 .cases hm
end
def Yg(K:PySem.W.Frag){X:Cx}(hu:X.A.units+64<cLine)(hK:X.K=K:=by rfl):OpR X (compareOp .Eq) (rEN K false):=Ja K hu hK
def Q4(K:PySem.W.Frag){X:Cx}(hu:X.A.units+64<cLine)(hK:X.K=K:=by rfl):OpR X (compareOp .NotEq) (rEN K true):=JZ K hu hK
section
variable(K:PySem.W.Frag){X:Cx}{a b e:Expr}{ta tb te:TE}{ma mb me:ME}{m mk:MA}{pos:Pos}{op:CmpOp}{neg:Bool}
def Xy(ha:QN K X a ta m)(hb:QE K X b tb mb)(hs:Jp b:=by exact λ_ _=>rfl)(hK:X.K=K:=by rfl):QE K X (.Subscript a b pos) (tOp (Kr K) ta tb) (IA m mb):=⟨Tx ((MD K hK).or (Na K hK)) ha.p hb.p hs,XE ha.r hb.r⟩
def VF(ho:OpR X (compareOp op) (rEN K neg))(ha:QN K X a ta m)(hb:QN K X b tb mk)(hm:behindInMarks op b=false:=by first|exact Gb _|rfl):QE K X (.Compare a [op] [b] pos) (tOp (rEN K neg) ta tb) (ET neg m mk):=⟨NP ho ha.p hb.p hm,NI ha.r hb.r⟩
def Uv(ho:OpR X (compareOp op) (rEN K neg))(ha:QE K X a ta ma)(hb:QN K X b tb m)(hm:behindInMarks op b=false:=by first|exact Gb _|rfl):QT K X (.Compare a [op] [b] pos) (IP (tOp (rEN K neg) ta tb)) (AD (F3 neg ma m)):=⟨JY ho ha.p hb.p hm,Dk (Ui ha.r hb.r)⟩
def Uu(ho:OpR X (compareOp op) (rEN K neg))(ha:QN K X a ta m)(hb:QN K X b tb mk)(hm:behindInMarks op b=false:=by first|exact Gb _|rfl):QT K X (.Compare a [op] [b] pos) (IP (tOp (rEN K neg) ta tb)) (AD (ET neg m mk)):=⟨JY ho ha.p hb.p hm,Dk (NI ha.r hb.r)⟩
end
def Bg(lo:Int):Nat->List V
 |0=>[]
 |n+1=>.int lo::Bg (lo+1) n
def OQ(lo:Int)(n:Nat):(Bg lo n).length=n:=by
 induction n generalizing lo with
 |zero=>rfl
 |succ n ih=>simp[Bg,ih]
def Lg{K:PySem.W.Frag}{ρ:List Addr}{H:Hp}(lo:Int)(n:Nat):RDs K ρ H (Ar lo n) (Bg lo n):=by
 induction n generalizing lo with
 |zero=>simp[Ar,Bg,RDs]
 |succ n ih=>exact .cons (by simp[RD,RI]) (ih _)
def Ig{lo:Int}:∀{n:Nat} {us:List Value},us.length=n->(∀(j:Nat) (v:Value),us[j]?=some v->∃t,v=.int (lo+j*1) t)->Vals (Bg lo n) us
 |0,us,h,_=>by
  have:us=[]:=length_eq_zero_iff.mp h;subst this;exact .nil
 |n+1,[],h,_=>by simp at h
 |n+1,u::us,h,k=>by
  obtain⟨t,e⟩:=k 0 u rfl;refine .cons ⟨t,by rw[e];simp⟩ (Ig (by simpa using h) λj v q=>?_);obtain⟨t',e'⟩:=k (j+1) v (by simpa using q);exact⟨t',by rw[e'];congr 1;push_cast;omega⟩
section
variable{prog:Program}{w:World}{A:Around}{E:Value->Shared->Prop}{s:Shared}
def Mu{Q:List Value->Shared->Prop}{r:Addr}{a b c:Int}{t u v:Tok}{n:Nat}(hh:A.handled=none)(hr:IsRange s.heap r a b c t u v)(hsm:Builtin.Range.small a b c=true)(hn:Builtin.Range.rangeSize a b c=n)(hl:n<=2^24)
 (hQ:∀g tk (acc:Array Value),(∀b o,s.heap.get? b=some o->g.get? b=some o)->ItemsOf (λi v=>∃t,v=.int (a+i*c) t) acc n->Q acc.toList { s with heap:=g,toks:=tk }):
 wpAny (model prog w) A (collect (.ref r)) Q E s:=by
 unfold collect;refine wpAny_bind (wpAny_runValue (codeAny_builtin F.entry_proto_collect ?_));rw[Around.under_plainId F.plain_proto_collect _];show wpAny _ A.in1 (newList [] >>= λl=>again (.builtin "list.__iadd__" ⟨[l,.ref r],[]⟩)) _ _ s;refine wpAny_bind (wpAny_newObj_type (wpAny_pure ⟨plainId_quiet F.plain_list_iadd _,codeAny_builtin F.entry_list_iadd ?_⟩));rw[Around.under_plainId F.plain_list_iadd _];show wpAny _ A.in1 (Builtin.List.listExtendWith (.ref s.heap.objs.size) (.ref r) (.ref s.heap.objs.size)) _ _ _;have e0:(s.heap.push { cls:=.type "list",data:=.seq ([]:List Value).toArray }).get? s.heap.objs.size=some { cls:=.type "list",data:=.seq #[] 0 }:=Heap.get?_push_size _ rfl;have fin:∀g tk (acc:Array Value) c',(∀b o,b≠s.heap.objs.size->(s.heap.push { cls:=.type "list",data:=.seq ([]:List Value).toArray }).get? b=some o->g.get? b=some o)->g.get? s.heap.objs.size=some { cls:=.type "list",dict:=none,data:=.seq acc c',slots:=#[] }->ItemsOf (λi v=>∃t,v=.int (a+i*c) t) acc n ->
  wpAny (model prog w) A (load s.heap.objs.size >>= λo=>match o.data with|Data.seq xs epoch=>pure xs.toList|x=>unsupported "internal:collect") Q E { s with heap:=g,toks:=tk }:=λg tk acc c' kp eS it=>
  wpAny_bind (wpAny_load eS (wpAny_pure (hQ g tk acc (λb o q=>kp b o (ne_of_lt (Heap.lt_size q)) (Heap.get?_push_of_some _ q)) it)))
 refine wpAny_mono (wpAny_extend_range (A:=A) (R:=λr s'=>r=.ok (.ret (.ref s.heap.objs.size))/\∃g tk,s'={ s with heap:=g,toks:=tk }/\wpAny (model prog w) A (load s.heap.objs.size >>= λo=>match o.data with|Data.seq xs epoch=>pure xs.toList|x=>unsupported "internal:collect") Q E s')
  (s:={ s with heap:=s.heap.push { cls:=.type "list",data:=.seq ([]:List Value).toArray } }) hh (Heap.get?_push_of_some _ hr) hsm hn hl s.heap.objs.size (.ref s.heap.objs.size) 0 e0 λg tk acc c' kp eS it=>⟨rfl,g,tk,rfl,fin g tk acc c' kp eS it⟩) (λfn s' h=>?_) (λe s' h=>absurd h.1 (by simp))
 cases fn with
 |done f=>
  obtain⟨e,_,_,_,q⟩:=h;cases e;exact q
 |again c'=>exact⟨h.1,codeAny_mono h.2 λr s'' hr=>by obtain⟨rfl,_,_,_,q⟩:=hr;exact q⟩
end
def NM:List V->Hp->VK->Prop:=λxs H Q=>∃j:Int,xs=[.int j]/\∀p,H p=none->Q (.ref p) (upd H p (.rng 0 j))
def NL:List V->Hp->VK->Prop:=λxs H Q=>∃i j:Int,xs=[.int i,.int j]/\∀p,H p=none->Q (.ref p) (upd H p (.rng i j))
def Li:List V->Hp->VK->Prop:=λxs H Q=>∃a lo hi,xs=[.ref a]/\H a=some (.rng lo hi)/\(-(2^62)<=lo/\lo<2^62/\-(2^62)<=hi/\hi<2^62)/\(hi-lo).toNat<=2^24/\∀p,H p=none->Q (.ref p) (upd H p (.lst (Bg lo (hi-lo).toNat)))
section
variable{X:Cx}
def call_rng1:CallR X (.type "range") NM:=by
 intro pins s σ H xs us Q I r h;obtain⟨j,rfl,q⟩:=h;obtain⟨u,rfl,t,rfl⟩:=C8 r;exact call_range_1 ⟨.ref s.heap.objs.size,_,I.laid (a:=s.heap.objs.size) (o:=.rng 0 j) (λb o e=>Heap.get?_push_of_some _ e) (le_refl _) ⟨_,_,_,Heap.get?_push_size _ rfl⟩,rfl,q _ (I.hok.fresh (le_refl _))⟩
def KH:CallR X (.type "range") NL:=by
 intro pins s σ H xs us Q I r h;obtain⟨i,j,rfl,q⟩:=h;obtain⟨u,v,rfl,⟨t,rfl⟩,⟨t',rfl⟩⟩:=Nu r;exact call_range_2 ⟨.ref s.heap.objs.size,_,I.laid (a:=s.heap.objs.size) (o:=.rng i j) (λb o e=>Heap.get?_push_of_some _ e) (le_refl _) ⟨_,_,_,Heap.get?_push_size _ rfl⟩,rfl,q _ (I.hok.fresh (le_refl _))⟩
def Tj{lo hi:Int}:Builtin.Range.rangeSize lo hi 1=((hi-lo).toNat:Nat):=by rw[rangeSize_one];split<;>omega
def Ix{lo:Int}{n:Nat}{acc:Array Value}(it:ItemsOf (λi v=>∃t,v=.int (lo+i*1) t) acc n):Vals (Bg lo n) acc.toList:=Ig (by simpa using it.1) λj v q=>it.2 j v (by simpa using q)
def P8(hc:X.calm=true):CallR X (.type "list") Li:=by
 intro pins s σ H xs us Q I r h;obtain⟨a,lo,hi,rfl,ha,⟨b1,b2,b3,b4⟩,hz,q⟩:=h;obtain⟨u,rfl,ru⟩:=C8 r;cases ru;obtain⟨t,u,v,hr⟩:∃t u v,s.heap.get? a=some { cls:=.type "range",data:=.fields #[.int lo t,.int hi u,.int 1 v] }:=I.hok a _ ha;refine call_list_range (I.ok.hd hc) hr (small_one b1 b2 b3 b4) Tj hz λg tk acc c' kp e it=>?_;exact⟨.ref s.heap.objs.size,_,I.laid (t':=tk) (o:=.lst _) kp (le_refl _) ⟨by rw[OQ,sizeLine_eq];omega,acc.toList,c',Ix it,by simpa using e⟩,rfl,q _ (I.hok.fresh (le_refl _))⟩
end
section
variable{K:PySem.W.Frag}
open Classical in
def Fr(m:MA):MA:=λls hd=>(m ls hd).bind λp=>match p.1 with
 |[.im (.int j)]=>if Kp j then some (Ar 0 j.toNat,p.2)else none
 |[.im (.int i),.im (.int j)]=>if Tk i j then some (Ar i (j-i).toNat,p.2)else none
 |_=>none
def Ij:List V->Hp->VK->Prop:=λxs H Q=>NM xs H Q∨NL xs H Q
def SB{t:TA}{m:MA}(h:RA K t m):RN K (tCB Li (Ax (tCB Ij t) BG)) (Fr m):=by
 and_intros;obtain⟨⟨d1,h1⟩,e1,hm⟩:=cu hm;dsimp only at hm;refine h ρ σ H hd ls _ d1 h1 hR hL e1 λρ1 H1 v x1 R1 r1=>?_;split at hm
 .next j=>
  split at hm
  .next c=>
   have c:j<2^24/\-(2^62)<=j:=c;cases hm;simp only[RDs,RD,RI]at r1;obtain⟨x,r,rfl,rfl,rfl⟩:=r1;refine .inl ⟨j,rfl,λp hp=>⟨p,0,j,rfl,AL,⟨by decide,by decide,c.2,by omega⟩,by omega,λl hl=>?_⟩⟩;obtain⟨R2,x2⟩:=R1.hid (ho:=.rng 0 j) hp;obtain⟨R3,x3⟩:=R2.hid (ho:=.lst (Bg 0 (j-0).toNat)) hl;refine hQ ρ1 _ l (Bg 0 (j-0).toNat) ((x1.trans R1 x2).trans R2 x3) R3 ((x1.trans R1 x2).none hR hl R2) (R2.out hl) AL ?_;rw[Int.sub_zero];exact Lg 0 _
  .cases hm
 .next i j=>
  split at hm
  .next c=>
   cases hm;simp only[RDs,RD,RI]at r1;obtain⟨x,r,rfl,rfl,y,r2,rfl,rfl,rfl⟩:=r1;refine .inr ⟨i,j,rfl,λp hp=>⟨p,i,j,rfl,AL,⟨c.1.1,c.1.2,c.2.1.1,c.2.1.2⟩,c.2.2,λl hl=>?_⟩⟩;obtain⟨R2,x2⟩:=R1.hid (ho:=.rng i j) hp;obtain⟨R3,x3⟩:=R2.hid (ho:=.lst (Bg i (j-i).toNat)) hl;exact hQ ρ1 _ l (Bg i (j-i).toNat) ((x1.trans R1 x2).trans R2 x3) R3 ((x1.trans R1 x2).none hR hl R2) (R2.out hl) AL (Lg i _)
  .cases hm
 .cases hm
def a0(m:MA):ME:=λls hd=>(Fr m ls hd).bind λp=>some (Ab p.1,p.2)
def FU:∀{xs ys:List Int},xs.Perm ys->xs.Pairwise (·<=·)->ys.Pairwise (·<=·)->xs=ys:=λ{xs ys} p a b=>
 p.eq_of_pairwise (le:=(·<=·)) (λ_ _ _ _ h1 h2=>le_antisymm h1 h2) a b
def B4(xs:List Int):List Int:=xs.mergeSort (λa b=>decide (a<=b))
def Bx(xs:List Int):(B4 xs).Perm xs:=mergeSort_perm ..
def Ci(xs:List Int):(B4 xs).Pairwise (·<=·):=by
 have:=pairwise_mergeSort (le:=λa b:Int=>decide (a<=b)) (by intro a b c h1 h2;simp at *;omega) (by intro a b;simp;omega) xs;exact this.imp (by simp)
def C4(m:MI):MA:=λls hd=>(m ls hd).bind λp=>(Az p.1.1).bind λns=>if ns.length<64 then some ((B4 ns).map λi=>.im (.int i),p.2)else none
def ON{t:TE}{m:MI}(h:RRw K false t m):RN K (tCB (JW K) (Ax t BG)) (C4 m):=by
 and_intros;obtain⟨⟨⟨d1,g1⟩,h1⟩,e1,hm⟩:=cu hm;obtain⟨ns,e2,hm⟩:=cu hm;split at hm
 .next c=>
  cases hm;refine h ρ σ H hd ls _ d1 g1 _ hR hL e1 λρ1 H1 a x1 R1 G1 S1=>?_;obtain⟨xs,q,r⟩:=S1 ρ1 H1 _ .refl R1 G1;have e3:d1=ns.map λi=>.im (.int i):=Cn e2;rw[e3]at r;have:=FR r;subst this;refine⟨a,ns,rfl,q,c,λp ns' hp pm pw=>?_⟩;have:ns'=B4 ns:=FU (pm.trans (Bx ns).symm) pw (Ci ns);subst this;obtain⟨R2,x2⟩:=R1.hid (ho:=.lst ((B4 ns).map V.int)) hp;exact hQ ρ1 _ p _ (x1.trans R1 x2) R2 (x1.none hR hp R1) (R1.out hp) AL Ds
 .cases hm
end
section
variable(K:PySem.W.Frag){X:Cx}{a b e:Expr}{ta tb te:TE}{me:ME}{m:MA}{t:TA}{p p2 pos pos2:Pos}{es:List Expr}
def SY(hm:X.mg "list"=none)(hm2:X.mg "range"=none)(ha:QA K X (a::es) t m)(hc:X.calm=true:=by rfl)(hg:Gl X "list":=by rfl)(hg2:Gl X "range":=by rfl)(he2:starEach (a::es) X.env=(false,eval a X.env)::starEach es X.env:=by rfl)(hpl:(backTo pos2 (starEach es X.env)).any (·.1)=false:=by rfl)
 (he:starEach [.Call (.Name "range" p2) (a::es) [] pos2] X.env=[(false,eval (.Call (.Name "range" p2) (a::es) [] pos2) X.env)]:=by rfl):
 QN K X (.Call (.Name "list" p) [.Call (.Name "range" p2) (a::es) [] pos2] [] pos) (tCB Li (Ax (tCB Ij t) BG)) (Fr m):=
 ⟨DO (P8 hc) hg hm Jm (BH (DO (call_rng1.or KH) hg2 hm2 boot_range ha.p (by decide) (by decide) he2 hpl) By he) (by decide) (by decide) he rfl,SB ha.r⟩
def OX{mi:MI}(hm:X.mg "sorted"=none)(ha:QR K false X e te mi)(hg:Gl X "sorted":=by rfl)(he:starEach [e] X.env=[(false,eval e X.env)]:=by rfl)(hK:X.K=K:=by rfl):QN K X (.Call (.Name "sorted" p) [e] [] pos) (tCB (JW K) (Ax te BG)) (C4 mi):=
 ⟨Eo (Mb K hK) hg hm FA (BH ha.p By he) (by decide) (by decide) he rfl,ON ha.r⟩
end
end L2
namespace L2
structure BltA(mg:PySem.Str->Option PySem.Value):Prop where
 list:mg "list"=none
 tuple:mg "tuple"=none
 len:mg "len"=none
 range:mg "range"=none
 repr:mg "repr"=none
 sum:mg "sum"=none
 min:mg "min"=none
 max:mg "max"=none
 abs:mg "abs"=none
 all:mg "all"=none
 any:mg "any"=none
 sorted:mg "sorted"=none
 zip:mg "zip"=none
 isinstance:mg "isinstance"=none
 int:mg "int"=none
 bool:mg "bool"=none
 str:mg "str"=none
 set:mg "set"=none
 enumerate:mg "enumerate"=none
 reversed:mg "reversed"=none
 dict:mg "dict"=none
end L2
namespace L2
open PySem PySem.Spec PyProof.Rows
section
variable{ls:Ls}{hd:Hd}{a b c:MS}{ma mb mc:ME}{ta tb:MT}{m m1 m2:MA}{n:MG}{ns:MGs}{d e:D}
@[simp] theorem Gq:A8 a b ls hd=(a ls hd).bind λp=>match p.1 with
 |.nx ls1=>b ls1 p.2
 |f=>some (f,p.2):=rfl
@[simp] theorem W4:AS ls hd=some (.nx ls,hd):=rfl
@[simp] theorem bS:Bp ma ls hd=(ma ls hd).bind λp=>some (.nx ls,p.2):=rfl
@[simp] theorem Qi:AN ma ls hd=(ma ls hd).bind λp=>some (.rt p.1,p.2):=rfl
@[simp] theorem bI:a7 ls hd=some (.rt (.im .non),hd):=rfl
@[simp] theorem b7:Yr ls hd=some (.bk ls,hd):=rfl
@[simp] theorem bW:aB ls hd=some (.ct ls,hd):=rfl
@[simp] theorem ZD:Aa ta a b ls hd=(ta ls hd).bind λp=>if p.1=true then a ls p.2 else b ls p.2:=rfl
@[simp] theorem Fd:EI ma n ls hd=(ma ls hd).bind λp=>(n p.1 ls p.2).map λls'=>(.nx ls',p.2):=rfl
@[simp] theorem Ha(i:Nat):AA i d ls hd=some (ls.set i (some d)):=rfl
@[simp] theorem bL(k:Nat):Av k ns d ls hd=(Ae d).bind λds=>if ds.length=k then ns ds ls hd else none:=rfl
@[simp] theorem av(d:D)(ds:List D):AH n ns (d::ds) ls hd=(n d ls hd).bind λls1=>ns ds ls1 hd:=rfl
@[simp] theorem bN:Aw [] ls hd=some ls:=rfl
@[simp] theorem bp(ix:List Nat):T2 ix m ls hd=(m ls hd).bind λp=>if p.1.length=ix.length then some (.nx ((ix.zip p.1).foldl (λl q=>l.set q.1 (some q.2)) ls),p.2)else none:=rfl
@[simp] theorem bK(i j k:Nat):a8 i j k m ls hd=T2 [k,j,i] (λls hd=>(m ls hd).map λp=>(p.1.reverse,p.2)) ls hd:=rfl
@[simp] theorem Fc(i:Nat):A0 i ls hd=match ls[i]? with
 |some (some d)=>some (d,hd)
 |_=>none:=rfl
@[simp] theorem ZF(i:I):mC i ls hd=some (.im i,hd):=rfl
@[simp] theorem U7(f:D->D->Hd->Option (D×Hd)):mOp f ma mb ls hd=(ma ls hd).bind λp=>(mb ls p.2).bind λq=>f p.1 q.1 q.2:=rfl
@[simp] theorem bv:DT ta tb ls hd=(ta ls hd).bind λp=>if p.1=true then tb ls p.2 else some (false,p.2):=rfl
@[simp] theorem cN:mOr ta tb ls hd=(ta ls hd).bind λp=>if p.1=true then some (true,p.2)else tb ls p.2:=rfl
@[simp] theorem br:CC ta ls hd=(ta ls hd).bind λp=>some (!p.1,p.2):=rfl
@[simp] theorem Z5:BX ma ls hd=(ma ls hd).bind λp=>(EG p.2 p.1).map (·,p.2):=rfl
@[simp] theorem Ng:AD ma ls hd=(ma ls hd).bind λp=>match p.1 with
 |.im (.bl b)=>some (b,p.2)
 |_=>none:=rfl
@[simp] theorem cO:mIf ta ma mb ls hd=(ta ls hd).bind λp=>if p.1=true then ma ls p.2 else mb ls p.2:=rfl
@[simp] theorem bX:EU ma mb ls hd=(AD ma ls hd).bind λp=>if p.1=true then mb ls p.2 else some (.im (.bl false),p.2):=rfl
@[simp] theorem bq:I0 ma mb ls hd=(AD ma ls hd).bind λp=>if p.1=true then some (.im (.bl true),p.2)else mb ls p.2:=rfl
@[simp] theorem bM:Fs ma ls hd=(AD ma ls hd).bind λp=>some (.im (.bl (!p.1)),p.2):=rfl
@[simp] theorem Qj:A4 ls hd=some ([],hd):=rfl
@[simp] theorem W7:A2 ma m ls hd=(ma ls hd).bind λp=>(m ls p.2).bind λq=>some (p.1::q.1,q.2):=rfl
open Classical in
@[simp] theorem bh:As m ls hd=(m ls hd).bind λp=>if Bn p.1.length then some (Ab p.1,p.2)else none:=rfl
open Classical in
@[simp] theorem Z8:CY m ls hd=(m ls hd).bind λp=>if Bn p.1.length then some (p.1,p.2)else none:=rfl
@[simp] theorem Qk:B5 m ls hd=(m ls hd).bind λp=>some (.mu p.2.length,p.2++[.lst p.1]):=rfl
@[simp] theorem Z7:Ft ma ls hd=(ma ls hd).bind λp=>match p.1 with
 |.im (.int i)=>some (.im (.int (-i)),p.2)
 |_=>none:=rfl
@[simp] theorem bt(neg:Bool):B0 neg ma ls hd=(ma ls hd).bind λp=>some (.im (.bl (match p.1 with
 |.im .non=>!neg
 | _=>neg)),p.2):=rfl
@[simp] theorem cP(g:Int->Int->Option I)(i j:Int):fI g (.im (.int i)) (.im (.int j)) hd=(g i j).map (.im ·,hd):=rfl
@[simp] theorem W6(f g:D->D->Hd->Option (D×Hd)):G4 f g d e hd=match f d e hd with
 |some z=>some z
 |none=>g d e hd:=rfl
@[simp] theorem bu(neg:Bool)(i j:Int):FL neg (.im (.int i)) (.im (.int j)) hd=some (.im (.bl (if neg then !decide (i=j)else decide (i=j))),hd):=by simp[FL,scI,LS]
@[simp] theorem ZE(neg:Bool)(i j:Str):FL neg (.im (.str i)) (.im (.str j)) hd=some (.im (.bl (if neg then !decide (i=j)else decide (i=j))),hd):=by simp[FL,scI,LS]
@[simp] theorem U8(i:Int):gIx d (.im (.int i)) hd=(B3 hd d).bind λds=>(atI ds i).map (·,hd):=rfl
@[simp] theorem bV:CI d e hd=(Ef hd d).bind λkvs=>(Dr e).bind λk=>(Cg kvs k).map (·,hd):=rfl
@[simp] theorem aK(f:List D->Hd->Option (D×Hd)):mCB f m ls hd=(m ls hd).bind λp=>f p.1 p.2:=rfl
@[simp] theorem U9(tp:Bool)(g:List D->Option D):f1 tp g [d] hd=((if tp then B3 hd d else BE hd d)).bind λds=>(g ds).map (·,hd):=rfl
@[simp] theorem Ql(g:List D->Option D):BQ g m ls hd=(m ls hd).bind λp=>(g p.1).map (·,p.2):=rfl
@[simp] theorem aJ(f:D->List D->Hd->Option (D×Hd)):mMt f ma m ls hd=(ma ls hd).bind λp=>match BE p.2 p.1 with
 |some _=>(m ls p.2).bind λq=>f p.1 q.1 q.2
 |none=>none:=rfl
@[simp] theorem bP(i j:Int):EW [.im (.int i),.im (.int j)] hd=some (.im (.int (if j>i then j else i)),hd):=rfl
@[simp] theorem bO(i j:Int):aH [.im (.int i),.im (.int j)] hd=some (.im (.int (if j<i then j else i)),hd):=rfl
@[simp] theorem bw(i:Int):ap [.im (.int i)] hd=some (.im (.int (if i<0 then -i else i)),hd):=rfl
@[simp] theorem Z9:IA m ma ls hd=(m ls hd).bind λp=>(ma ls p.2).bind λq=>match q.1 with
 |.im (.int i)=>(atI p.1 i).map (·,q.2)
 |_=>none:=rfl
@[simp] theorem J7:Ak ma ls hd=(ma ls hd).bind λp=>(Ae p.1).map λds=>((ds,[]),p.2):=rfl
@[simp] theorem ZC:EH m ls hd=(m ls hd).map λp=>((p.1,[]),p.2):=rfl
@[simp] theorem ZB:CZ ma ls hd=(ma ls hd).bind λp=>match p.1 with
 |.mu n=>match p.2[n]? with
  |some (.lst ds)=>some ((ds,[(n,ds)]),p.2)
  |_=>none
 |.ro ns=>some ((ns.map λn=>.im (.int n),[]),p.2)
 |_=>none:=rfl
open Classical in
@[simp] theorem ZA:Er m ls hd=(m ls hd).bind λp=>match p.1 with
 |[.im (.int j)]=>if JS j then some ((Ar 0 j.toNat,[]),p.2)else none
 |_=>none:=rfl
open Classical in
@[simp] theorem bR:aA m ls hd=(m ls hd).bind λp=>match p.1 with
 |[.im (.int i),.im (.int j)]=>if Wy i j then some ((Ar i (j-i).toNat,[]),p.2)else none
 |_=>none:=rfl
@[simp] theorem Qm(mi:MI):BI mi n a ls hd=(mi ls hd).bind λp=>Aq n a p.1.2 p.1.1 ls p.2:=rfl
open Classical in
@[simp] theorem Nh(k:Nat)(ix:List Nat)(mi:MI):Ao k ix mi n ta ma ls hd=(mi ls hd).bind λp=>if Bn p.1.1.length then Ap n ta ma p.1.2 p.1.1 (E4 k ix ls) p.2 else none:=rfl
@[simp] theorem bg:Bi ls hd=some (true,hd):=rfl
@[simp] theorem ay(F:List D->Hd->Option (D×Hd)):EB F m ls hd=(m ls hd).bind λp=>F p.1 p.2:=rfl
@[simp] theorem aU:HQ ls hd=some (none,hd):=rfl
@[simp] theorem bJ:Ku ma ls hd=(ma ls hd).bind λp=>match p.1 with
 |.im (.int i)=>some (some i,p.2)
 |_=>none:=rfl
@[simp] theorem bQ:a9 ma ls hd=(ma ls hd).bind λp=>(B3 p.2 p.1).map (·,p.2):=rfl
@[simp] theorem aw:Gh m ls hd=m ls hd:=rfl
@[simp] theorem bo(ml mh:MO1):M3 ma ml mh ls hd=(ma ls hd).bind λp=>(ml ls p.2).bind λl=>(mh ls l.2).bind λh=>(BE h.2 p.1).bind λds=>some (Gz ds l.1 h.1,h.2):=rfl
@[simp] theorem bn(ml mh:MO1):ak ma ml mh ls hd=(ma ls hd).bind λp=>(ml ls p.2).bind λl=>(mh ls l.2).bind λh=>(Ae p.1).bind λds=>if ¬ (HT.sIx ds.length 0 l.1=0/\HT.sIx ds.length ds.length h.1=ds.length)then some (Ab (Gz ds l.1 h.1),h.2)else none:=rfl
@[simp] theorem bH:a0 m ls hd=(Fr m ls hd).bind λp=>some (Ab p.1,p.2):=rfl
open Classical in
@[simp] theorem Z6:Fr m ls hd=(m ls hd).bind λp=>match p.1 with
 |[.im (.int j)]=>if Kp j then some (Ar 0 j.toNat,p.2)else none
 |[.im (.int i),.im (.int j)]=>if Tk i j then some (Ar i (j-i).toNat,p.2)else none
 |_=>none:=rfl
@[simp] theorem aS(mi:MI):C4 mi ls hd=(mi ls hd).bind λp=>(Az p.1.1).bind λns=>if ns.length<64 then some ((B4 ns).map λi=>.im (.int i),p.2)else none:=rfl
@[simp] theorem bU(ms:List (ME×ME)):Kv ms ls hd=(EA ms ls hd).bind λp=>if p.1.length<=15 then some (.mu p.2.length,p.2++[.dic (FY [] p.1)])else none:=rfl
@[simp] theorem aT:EA [] ls hd=some ([],hd):=rfl
@[simp] theorem au(r:List (ME×ME)):EA ((ma,mb)::r) ls hd=(ma ls hd).bind λp=>(mb ls p.2).bind λq=>(EA r ls q.2).bind λz=>(Dr p.1).map λk=>((k,q.1)::z.1,z.2):=rfl
open Classical in
@[simp] theorem bT:F4 ma mb mc ls hd=(mc ls hd).bind λp=>(ma ls p.2).bind λq=>(mb ls q.2).bind λr=>(Dr r.1).bind λk=>match q.1 with
 |.mu n=>match r.2[n]? with
  |some (.dic kvs)=>if F7 kvs.length then some (.nx ls,r.2.set n (.dic (DS kvs k p.1)))else none
  |_=>none
 |_=>none:=rfl
@[simp] theorem W5:ES ma mb mc ls hd=(mc ls hd).bind λp=>(ma ls p.2).bind λq=>(mb ls q.2).bind λr=>match q.1,r.1 with
 |.mu n,.im (.int i)=>match r.2[n]? with
  |some (.lst ds)=>(ixN ds.length i).map λj=>(.nx ls,r.2.set n (.lst (ds.set j p.1)))
  |_=>none
 |_,_=>none:=rfl
@[simp] theorem LK(is:List I):Ae (.im (.tup is))=some (is.map .im):=rfl
@[simp] theorem c9(ds:List D):Ae (.tm ds)=some ds:=rfl
@[simp] theorem cB(k:Nat):Ae (.mu k)=none:=rfl
@[simp] theorem cA(k:List Int):Ae (.ro k)=none:=rfl
@[simp] theorem BP(is:List I):B3 hd (.im (.tup is))=some (is.map .im):=rfl
@[simp] theorem cE(ds:List D):B3 hd (.tm ds)=some ds:=rfl
@[simp] theorem cG(k:Nat):B3 hd (.mu k)=BE hd (.mu k):=rfl
@[simp] theorem cF(k:List Int):B3 hd (.ro k)=some (k.map λn=>.im (.int n)):=rfl
@[simp] theorem cK(k:Nat):BE hd (.mu k)=match hd[k]? with
 |some (.lst ds)=>some ds
 |_=>none:=rfl
@[simp] theorem cJ(k:List Int):BE hd (.ro k)=some (k.map λn=>.im (.int n)):=rfl
@[simp] theorem cQ(k:Nat):Ef hd (.mu k)=match hd[k]? with
 |some (.dic ds)=>some ds
 |_=>none:=rfl
@[simp] theorem cM(i:Int):Dr (.im (.int i))=some (.inl i):=rfl
@[simp] theorem cL(i:Str):Dr (.im (.str i))=some (.inr i):=rfl
@[simp] theorem c8:BZ []=some []:=rfl
@[simp] theorem cS(i:I)(r:List D):BZ (.im i::r)=(BZ r).map (i::·):=rfl
@[simp] theorem be:Az []=some []:=rfl
@[simp] theorem bf(i:Int)(r:List D):Az (.im (.int i)::r)=(Az r).map (i::·):=rfl
@[simp] theorem c7:CK []=some []:=rfl
@[simp] theorem cR(i:Bool)(r:List D):CK (.im (.bl i)::r)=(CK r).map (i::·):=rfl
@[simp] theorem Bz(is:List I):Ab (is.map .im)=.im (.tup is):=by simp[Ab]
@[simp] theorem QC:Ab []=.im (.tup []):=rfl
@[simp] theorem NT(i:I):Ab [.im i]=.im (.tup [i]):=rfl
@[simp] theorem NS(i j:I):Ab [.im i,.im j]=.im (.tup [i,j]):=rfl
@[simp] theorem bF(i j k:I):Ab [.im i,.im j,.im k]=.im (.tup [i,j,k]):=rfl
@[simp] theorem bE(i j k l:I):Ab [.im i,.im j,.im k,.im l]=.im (.tup [i,j,k,l]):=rfl
@[simp] theorem c5(w:Nat)(i:I):clD w (.im i)=true:=by simp[clD]
@[simp] theorem bx(w n:Nat):clD w (.mu n)=decide (n<w):=by simp[clD]
@[simp] theorem b9(w:Nat):BB w []=true:=by simp[BB]
@[simp] theorem Qw(w:Nat)(d:D)(ds:List D):BB w (d::ds)=(clD w d&&BB w ds):=by simp[BB]
@[simp] theorem TY{α:Type}(x:α)(r:List α):atI (x::r) 0=some x:=Dv (j:=0) rfl
@[simp] theorem DM{α:Type}(x y:α)(r:List α):atI (x::y::r) 1=some y:=Dv (j:=1) rfl
@[simp] theorem Ca{α:Type}(x y z:α)(r:List α):atI (x::y::z::r) 2=some z:=Dv (j:=2) rfl
def Jo{α:Type}{xs:List α}{i:Int}{k:Nat}{x:α}(hi:i=k)(h:xs[k]?=some x):atI xs i=some x:=by subst hi;exact Dv h
@[simp] theorem CP:Bn 0:=Af (by decide)
@[simp] theorem Fb:Bn 1:=Af (by decide)
@[simp] theorem MN:Bn 2:=Af (by decide)
@[simp] theorem ED:Bn 3:=Af (by decide)
@[simp] theorem Qg:Bn 4:=Af (by decide)
@[simp] theorem bG:F7 4:=Cq (by decide)
open Classical in
@[simp] theorem ZG(k:Nat)(x:D):BF (.mu k) [x] hd=match hd[k]? with
 |some (.lst ds)=>if F7 ds.length then some (.im .non,hd.set k (.lst (ds++[x])))else none
 |_=>none:=rfl
def F8{F:List D->Hd->Option (D×Hd)}{ds:List D}{hd1 h2:Hd}{i:I}(h1:m ls hd=some (ds,hd1))(hc:BB 0 ds=true)(hF:F ds []=some (.im i,h2)):A9 0 F m ls hd=some (.im i,hd1):=by
 simp[A9,h1,hc,hF,fin]
def Me{w:Nat}{F:List D->Hd->Option (D×Hd)}{ds:List D}{pre pre' rest g:Hd}{i:I}(hw:pre.length=w)(hw':pre'.length=w)(h1:m ls hd=some (ds,pre++rest))(hc:BB w ds=true)(hp:pre.all (clO w)=true)(hp':pre'.all (clO w)=true)(hF:F ds pre=some (.im i,pre'++g)):A9 w F m ls hd=some (.im i,pre'++rest):=by
 subst hw;have e1:(pre++rest).take pre.length=pre:=by simp
 have e2:(pre'++g).take pre.length=pre':=by rw[<- hw'];simp
 simp only[A9,h1,bind_some,e1,hc,hp,hF,fin,e2,hp'];simp
end
def IB{n:MG}{b:MS}{g:Gd}{ls:Ls}{hd:Hd}:Aq n b g [] ls hd=some (.nx ls,hd):=by unfold Aq;rfl
def Gk{n:MG}{b:MS}{g:Gd}{d:D}{r:List D}{ls ls1 ls2:Ls}{hd hd2:Hd}(h1:n d ls hd=some ls1)(h2:b ls1 hd=some (.nx ls2,hd2))(h3:GOk hd2 g):Aq n b g (d::r) ls hd=Aq n b g r ls2 hd2:=by
 conv=>lhs;unfold Aq
 simp[h1,h2,h3]
def T4{n:MG}{b:MS}{g:Gd}{d v:D}{r:List D}{ls ls1:Ls}{hd hd2:Hd}(h1:n d ls hd=some ls1)(h2:b ls1 hd=some (.rt v,hd2)):Aq n b g (d::r) ls hd=some (.rt v,hd2):=by
 conv=>lhs;unfold Aq
 simp[h1,h2]
open Classical in
def mIn(k:Nat)(n:MG)(c:MT)(m:ME)(g:Gd):List D->Ls->Hd->Option (Ls×Hd)
 |[],ls,hd=>some (ls,hd)
 |d::r,ls,hd=>(n d ls hd).bind λls1=>(c ls1 hd).bind λp=>if p.1=true then(m ls1 p.2).bind λq=>(BF (.mu k) [q.1] q.2).bind λz=>if GOk z.2 g then mIn k n c m g r ls1 z.2 else none else if GOk p.2 g then mIn k n c m g r ls1 p.2 else none
open Classical in
def Oj(k:Nat)(n:MG)(c:MT)(mi:MI)(n2:MG)(c2:MT)(m:ME)(g:Gd):List D->Ls->Hd->Option Hd
 |[],ls,hd=>some hd
 |d::r,ls,hd=>(n d ls hd).bind λls1=>(c ls1 hd).bind λp=>if p.1=true then(mi ls1 p.2).bind λq=>(mIn k n2 c2 m q.1.2 q.1.1 ls1 q.2).bind λz=>if GOk z.2 g then Oj k n c mi n2 c2 m g r z.1 z.2 else none else if GOk p.2 g then Oj k n c mi n2 c2 m g r ls1 p.2 else none
def Yq(j:Nat)(ix:List Nat)(mi:MI)(n:MG)(c:MT)(mi2:MI)(n2:MG)(c2:MT)(m:ME):ME:=λls hd=>(mi ls hd).bind λp=>(Oj p.2.length n c mi2 n2 c2 m p.1.2 p.1.1 (E4 j ix ls) (p.2++[.lst []])).map λh=>(.mu p.2.length,h)
open Classical in
def Gi(ma mb:ME):MA:=λls hd=>(ma ls hd).bind λp=>(mb ls p.2).bind λq=>match p.1,q.1 with
 |.mu i,.mu j=>match q.2[i]?,q.2[j]? with
  |some (.lst xs),some (.lst ys)=>if Bn (xs.length+ys.length)then some (xs++ys,q.2)else none
  |_,_=>none
 |_,_=>none
def X2{K:PySem.W.Frag}{ta tb:TE}{ma mb:ME}(ha:RE K ta ma)(hb:RE K tb mb):RN K (tOp SQ ta tb) (Gi ma mb):=by
 and_intros;obtain⟨⟨d1,h1⟩,e1,hm⟩:=cu hm;obtain⟨⟨d2,h2⟩,e2,hm⟩:=cu hm;dsimp only at hm;split at hm
 .next i j=>
  split at hm
  .next xs ys q1 q2=>
   split at hm
   .next c=>
    cases hm;refine ha ρ σ H hd ls _ _ h1 hR hL e1 λρ1 H1 v x1 R1 r1=>?_;refine hb ρ1 σ H1 h1 ls _ _ _ R1 (hL.ext hR x1) e2 λρ2 H2 u x2 R2 r2=>?_;have r1':=r1.ext R1 x2;simp only[RD]at r1' r2;obtain⟨a,ka,rfl⟩:=r1';obtain⟨b,kb,rfl⟩:=r2;obtain⟨vs,f1,f2⟩:=R2.lst ka q1;obtain⟨us,f3,f4⟩:=R2.lst kb q2;refine⟨a,b,vs,us,rfl,rfl,f1,f3,by rw[f2.len,f4.len];exact c,λp hp=>?_⟩;obtain⟨R3,x3⟩:=R2.hid (ho:=.lst (vs++us)) hp;have x12:=x1.trans R1 x2;exact hQ ρ2 _ p _ (x12.trans R2 x3) R3 (x12.none hR hp R2) (R2.out hp) AL ((f2.app f4).ext R2 x3)
   .cases hm
  .cases hm
 .cases hm
def Xg(K:PySem.W.Frag){X:Cx}{a b:Expr}{pos:Pos}{ta tb:TE}{ma mb:ME}(ha:QE K X a ta ma)(hb:QE K X b tb mb):QN K X (.BinOp a .Add b pos) (tOp SQ ta tb) (Gi ma mb):=⟨Kt Yi ha.p hb.p,X2 ha.r hb.r⟩
@[simp] theorem ax(j:Nat)(ix:List Nat)(mi mi2:MI)(n n2:MG)(c c2:MT)(m:ME)(ls:Ls)(hd:Hd):Yq j ix mi n c mi2 n2 c2 m ls hd=(mi ls hd).bind λp=>(Oj p.2.length n c mi2 n2 c2 m p.1.2 p.1.1 (E4 j ix ls) (p.2++[.lst []])).map λh=>(.mu p.2.length,h):=rfl
end L2
namespace L2
open PySem PySem.Spec PyProof.Rows PySem.W
section
variable(r:Nat->Int)(n:Nat)
def PWp{α:Type}:KasT α->(α->Prop)->Prop
 |.ret a,Q=>Q a
 |.ask i j k,Q=>i<n/\j<n/\PWp (k (decide (r i<r j))) Q
def kv(p:Array Nat)(i:Nat):Int:=r (p.getD i 0)
def STo(p:Array Nat)(m:Nat):Prop:=∀i j,i<=j->j<m->kv r p i<=kv r p j
def DTo(p:Array Nat)(m:Nat):Prop:=∀i j,i<=j->j<m->kv r p j<=kv r p i
def EqL(p:Array Nat)(m q:Nat):Prop:=∀k,m-(q+1)<=k->k<m->kv r p k=kv r p (m-1)
def PAr(p:Array Nat):Prop:=p.Perm (List.range n).toArray
end
section
variable{r:Nat->Int}{n:Nat}
def PWp.bind{α β:Type}{f:α->KasT β}{Q:β->Prop}:∀{t:KasT α},PWp r n t (λa=>PWp r n (f a) Q)->PWp r n (t.bind f) Q
 |.ret _,h=>h
 |.ask i j k,h=>⟨h.1,h.2.1,PWp.bind h.2.2⟩
def PWp.mono{α:Type}{Q Q':α->Prop}:∀{t:KasT α},PWp r n t Q->(∀a,Q a->Q' a)->PWp r n t Q'
 |.ret _,h,q=>q _ h
 |.ask i j k,h,q=>⟨h.1,h.2.1,PWp.mono h.2.2 q⟩
def PWp.wp{α:Type}{cmp:Nat->Nat->(Bool->Shared->Prop)->Shared->Prop}{P:Shared->Prop}{Q:α->Shared->Prop}(hc:∀i j C s,i<n->j<n->P s->(∀s',P s'->C (decide (r i<r j)) s')->cmp i j C s):∀{t:KasT α} {s:Shared},PWp r n t (λa=>∀s,P s->Q a s)->P s->t.kasWp cmp Q s
 |.ret _,s,h,p=>h s p
 |.ask i j k,s,h,p=>hc i j _ s h.1 h.2.1 p λs' p'=>PWp.wp hc h.2.2 p'
def PAr.size{p:Array Nat}(h:PAr n p):p.size=n:=by have:=h.size_eq;simpa using this
def PAr.lt{p:Array Nat}(h:PAr n p){i:Nat}(hi:i<n):p.getD i 0<n:=by
 have hs:=h.size;have hi':i<p.size:=by omega
 have:p[i]∈(List.range n).toArray:=h.mem_iff.mp (Array.getElem_mem hi');have e:p.getD i 0=p[i]:=by simp[Array.getD,hi']
 rw[e];simpa using this
def Iw{p:Array Nat}{i j:Nat}(hj:j<=p.size)(k:Nat):kv r (kas_rev p i j) k=if i<=k/\k<j then kv r p (i+j-1-k)else kv r p k:=by
 unfold kv kas_rev;simp only[Array.getD_eq_getD_getElem?];rw[getElem?_mirror_all hj];split<;>rfl
def PAr.rev{p:Array Nat}(h:PAr n p)(i j:Nat):PAr n (kas_rev p i j):=(mirror_perm _ _ _ _).trans h
def NY{p:Array Nat}{m q:Nat}(hj:m<=p.size)(hq:q+1<=m)(h:EqL r p m q)(k:Nat):kv r (kas_rev p (m-(q+1)) m) k=kv r p k:=by
 rw[Iw hj];split
 .next c=>rw[h _ (by omega) (by omega),h k c.1 c.2]
 .rfl
def Mf{p:Array Nat}(pa:PAr n p):∀(f m:Nat),1<=m->m+f<=n->STo r p m->PWp r n (kas_asc p f m) λm'=>m<=m'/\m'<=m+f/\STo r p m'/\(m'<m+f->kv r p m'<kv r p (m'-1))
 |0,m,h1,hn,hs=>⟨le_refl _,le_refl _,hs,λh=>by omega⟩
 |f+1,m,h1,hn,hs=>by
  refine⟨pa.lt (by omega),pa.lt (by omega),?_⟩;by_cases c:r (p.getD m 0)<r (p.getD (m-1) 0)
  .rw[decide_eq_true c];exact⟨le_refl _,by omega,hs,λ_=>c⟩
  .rw[decide_eq_false c];refine(Mf pa f (m+1) (by omega) (by omega) ?_).mono λm' h=>⟨by omega,by omega,h.2.2.1,λz=>h.2.2.2 (by omega)⟩
   intro i j hij hj;by_cases e:j<m
   .exact hs i j hij e
   .have:j=m:=by omega
    subst this;by_cases e2:i=j
    .subst e2;exact Int.le_refl _
    .have:=hs i (j-1) (by omega) (by omega);have:kv r p (j-1)<=kv r p j:=by unfold kv;omega
     omega
def IF{p:Array Nat}{m:Nat}(h1:1<=m)(h:DTo r p m)(c:kv r p m<=kv r p (m-1)):DTo r p (m+1):=by
 intro i j hij hj;by_cases e:j<m
 .exact h i j hij e
 .have:j=m:=by omega
  subst this;by_cases e2:i=j
  .subst e2;exact Int.le_refl _
  .have:=h i (j-1) (by omega) (by omega);omega
def Hb:∀(f:Nat) (p:Array Nat) (m q:Nat),PAr n p->1<=m->q+1<=m->m+f<=n->DTo r p m->EqL r p m q ->
 PWp r n (kas_desc f p m q) λz=>PAr n z.1/\m<=z.2.1/\z.2.1<=m+f/\DTo r z.1 z.2.1/\EqL r z.1 z.2.1 z.2.2/\z.2.2+1<=z.2.1
 |0,p,m,q,pa,h1,hq,hn,hd,he=>⟨pa,le_refl _,le_refl _,hd,he,hq⟩
 |f+1,p,m,q,pa,h1,hq,hn,hd,he=>by
  refine⟨pa.lt (by omega),pa.lt (by omega),?_⟩;have sz:=pa.size;by_cases c:r (p.getD m 0)<r (p.getD (m-1) 0)
  .rw[decide_eq_true c];have c':kv r p m<=kv r p (m-1):=by unfold kv;omega
   dsimp only;rw[if_pos rfl];by_cases hq0:q>0
   .rw[if_pos hq0];have sm:=NY (r:=r) (p:=p) (m:=m) (q:=q) (by omega) hq he;refine(Hb f _ (m+1) 0 (pa.rev _ _) (by omega) (by omega) (by omega) ?_ ?_).mono λz h=>⟨h.1,by omega,by omega,h.2.2.2⟩
    .have:=IF h1 hd c';intro i j a b;rw[sm,sm];exact this i j a b
    .intro k a b;have:k=m:=by omega
     subst this;rfl
   .rw[if_neg hq0];refine(Hb f p (m+1) 0 pa (by omega) (by omega) (by omega) (IF h1 hd c') ?_).mono λz h=>⟨h.1,by omega,by omega,h.2.2.2⟩
    intro k a b;have:k=m:=by omega
    subst this;rfl
  .rw[decide_eq_false c];dsimp only;rw[if_neg Bool.false_ne_true];refine⟨pa.lt (by omega),pa.lt (by omega),?_⟩;by_cases d:r (p.getD (m-1) 0)<r (p.getD m 0)
   .rw[decide_eq_true d];exact⟨pa,le_refl _,by show m<=m+(f+1);omega,hd,he,hq⟩
   .rw[decide_eq_false d];dsimp only;rw[if_neg Bool.false_ne_true];have e:kv r p m=kv r p (m-1):=by unfold kv;omega
    refine(Hb f p (m+1) (q+1) pa (by omega) (by omega) (by omega) (IF h1 hd (by omega)) ?_).mono λz h=>⟨h.1,by omega,by omega,h.2.2.2⟩
    intro k a b;by_cases e2:k=m
    .subst e2;rfl
    .have:=he k (by omega) (by omega);have e3:m+1-1=m:=rfl;rw[e3];omega
def Run(z:Nat×Array Nat)(r:Nat->Int)(n:Nat):Prop:=PAr n z.2/\1<=z.1/\z.1<=n/\STo r z.2 z.1
def LL{p:Array Nat}{m:Nat}(pa:PAr n p)(h1:1<=m)(hn:m<=n)(hd:DTo r p m):PWp r n (kas_tail3 m n p) λz=>Run z r n:=by
 have sz:=pa.size;have st:STo r (kas_rev p 0 m) m:=by
  intro i j a b;rw[Iw (by omega),Iw (by omega),if_pos ⟨by omega,by omega⟩,if_pos ⟨by omega,by omega⟩];exact hd _ _ (by omega) (by omega)
 refine PWp.bind ((Mf (pa.rev 0 m) (n-m) m h1 (by omega) st).mono λm' h=>?_);exact⟨pa.rev 0 m,by show 1<=m';omega,by show m'<=n;omega,h.2.2.1⟩
def Hk{p:Array Nat}{m:Nat}(pa:PAr n p)(hn:m+1<=n)(hd:DTo r p (m+1)):PWp r n (kas_descPart m n p) λz=>Run z r n:=by
 refine PWp.bind ((Hb (n-(m+1)) p (m+1) 0 pa (by omega) (by omega) (by omega) hd ?_).mono λz h=>?_)
 .intro k a b;have:k=m:=by omega
  subst this;rfl
 .obtain⟨a,b,c,d,e,g⟩:=h;have sz:=a.size;by_cases hq:z.2.2>0
  .rw[if_pos hq];have sm:=NY (r:=r) (p:=z.1) (m:=z.2.1) (q:=z.2.2) (by omega) g e;exact LL (a.rev _ _) (by omega) (by omega) λi j x y=>by rw[sm,sm];exact d i j x y
  .rw[if_neg hq];exact LL a (by omega) (by omega) d
def TQ(h1:1<=n):PWp r n (kas_count n (List.toArray (List.range n))) λz=>Run z r n:=by
 have pa:PAr n (List.range n).toArray:=.refl _;have sz:=pa.size;refine PWp.bind ((Mf pa (n-1) 1 (by omega) (by omega) λi j a b=>?_).mono λm h=>?_)
 .have:i=j:=by omega
  subst this;exact Int.le_refl _
 .obtain⟨a,b,c,d⟩:=h;by_cases e:(m==n)=true
  .rw[if_pos e];have:m=n:=by simpa using e
   exact⟨pa,by show 1<=m;omega,by show m<=n;omega,c⟩
  .rw[if_neg e];have hne:m≠n:=by simpa using e
   have dd:=d (by omega);by_cases h2:m>1
   .rw[if_pos h2];refine⟨pa.lt (by omega),pa.lt (by omega),?_⟩;by_cases g:r ((List.range n).toArray.getD 0 0)<r ((List.range n).toArray.getD (m-1) 0)
    .rw[decide_eq_true g];exact⟨pa,by show 1<=m;omega,by show m<=n;omega,c⟩
    .rw[decide_eq_false g];dsimp only;rw[if_neg Bool.false_ne_true];have g':kv r (List.range n).toArray (m-1)<=kv r (List.range n).toArray 0:=by unfold kv;omega
     have eq:∀k,k<m->kv r (List.range n).toArray k=kv r (List.range n).toArray 0:=λk hk=>by
      have x1:=c 0 k (by omega) hk;have x2:=c k (m-1) (by omega) (by omega);omega
     have rv:∀k,kv r (kas_rev (List.range n).toArray 0 m) k=kv r (List.range n).toArray k:=λk=>by
      rw[Iw (by omega)];split
      .next z=>rw[eq _ (by omega),eq k z.2]
      .rfl
     refine Hk (pa.rev 0 m) (by omega) λi j x y=>?_;rw[rv,rv];by_cases z:j<m
     .rw[eq i (by omega),eq j z];exact Int.le_refl _
     .have:j=m:=by omega
      subst this;by_cases z2:i=j
      .subst z2;exact Int.le_refl _
      .rw[eq i (by omega)];have:=eq (j-1) (by omega);omega
   .rw[if_neg h2];have:m=1:=by omega
    subst this;refine Hk pa (by omega) λi j x y=>?_;by_cases z:i=j
    .subst z;exact Int.le_refl _
    .have:i=0:=by omega
     have:j=1:=by omega
     subst i j;have:kv r (List.range n).toArray 1<kv r (List.range n).toArray 0:=dd;omega
def Hw{p:Array Nat}{k:Nat}(pa:PAr n p)(hk:k<n)(hs:STo r p k):∀(f l q:Nat),l<=q->q<=k->q-l<=f->(∀i,i<l->kv r p i<=kv r p k)->(∀i,q<=i->i<k->kv r p k<kv r p i) ->
 PWp r n (kas_place p k f l q) λm=>m<=k/\(∀i,i<m->kv r p i<=kv r p k)/\∀i,m<=i->i<k->kv r p k<kv r p i
 |0,l,q,a,b,c,d,e=>⟨by omega,d,λi x y=>e i (by omega) y⟩
 |f+1,l,q,a,b,c,d,e=>by
  unfold kas_place;by_cases h:l>=q
  .rw[if_pos h];exact⟨by omega,d,λi x y=>e i (by omega) y⟩
  .rw[if_neg h];refine⟨pa.lt (by omega),pa.lt (by omega),?_⟩;by_cases g:r (p.getD k 0)<r (p.getD ((l+q)/2) 0)
   .rw[decide_eq_true g];dsimp only;rw[if_pos rfl];have g':kv r p k<kv r p ((l+q)/2):=g;refine Hw pa hk hs f l ((l+q)/2) (by omega) (by omega) (by omega) d λi x y=>?_;have:=hs ((l+q)/2) i x y;omega
   .rw[decide_eq_false g];dsimp only;rw[if_neg Bool.false_ne_true];have g':kv r p ((l+q)/2)<=kv r p k:=by unfold kv;omega
    refine Hw pa hk hs f ((l+q)/2+1) q (by omega) (by omega) (by omega) (λi x=>?_) e;have:=hs i ((l+q)/2) (by omega) (by omega);omega
def K5{p:Array Nat}{k d:Nat}(hk:k<p.size)(hd:d<=k)(i:Nat):kv r (bubble p k d) i=if i=k-d then kv r p k else if k-d<i/\i<=k then kv r p (i-1)else kv r p i:=by
 unfold kv;simp only[Array.getD_eq_getD_getElem?];rw[getElem?_bubble hk d hd];split
 .rfl
 .split<;>rfl
def R8:∀(f:Nat) (p:Array Nat) (k:Nat),PAr n p->k+f=n->STo r p k->PWp r n (kas_bin f p k) λz=>PAr n z/\STo r z n
 | 0,p,k,pa,e,hs=>⟨pa,by
  have:k=n:=by omega
  subst this;exact hs⟩
 |f+1,p,k,pa,e,hs=>by
  have sz:=pa.size;refine PWp.bind ((Hw pa (by omega) hs k 0 k (by omega) (by omega) (by omega) (λi h=>by omega) (λi a b=>by omega)).mono λm h=>?_);obtain⟨a,b,c⟩:=h;refine R8 f _ (k+1) ((bubble_perm _ _ _).trans pa) (by omega) λi j x y=>?_;rw[K5 (by omega) (by omega),K5 (by omega) (by omega)];have ek:k-(k-m)=m:=by omega
  rw[ek]
  repeat' split
  .exact Int.le_refl _
  .exact Int.le_of_lt (c _ (by omega) (by omega))
  .omega
  .exact b _ (by omega)
  .exact hs _ _ (by omega) (by omega)
  .omega
  .exact b _ (by omega)
  .exact hs _ _ (by omega) (by omega)
  .exact hs _ _ (by omega) (by omega)
def N8(h1:1<=n):PWp r n (kas_sort n) λp=>PAr n p/\STo r p n:=by
 refine PWp.bind ((TQ h1).mono λz h=>?_);obtain⟨a,b,c,d⟩:=h;by_cases e:z.1<n
 .rw[if_pos e];have:max z.1 1=z.1:=by omega
  rw[this];exact R8 _ _ _ a (by omega) d
 .rw[if_neg e];have:z.1=n:=by omega
  exact⟨a,this ▸ d⟩
end
def PairAt(h:Heap)(v:Value)(p:Int×Int):Prop:=∃(x:Addr) (o:Obj) (t u:Tok) (k:Nat),v=.ref x/\h.get? x=some o/\o.cls=.type "tuple"/\o.data=.seq #[.int p.1 t,.int p.2 u] k
def Ac(p:Int×Int):Int:=p.1*4000000000+p.2
def pok(p:Int×Int):Prop:=-1000000000<=p.1/\p.1<=1000000000/\-1000000000<=p.2/\p.2<=1000000000
section
variable{prog:Program}{w:World}{A:Around}{E:Value->Shared->Prop}{s:Shared}
def NW{x y:Value}{p q:Int×Int}{C:Bool->Shared->Prop}(hx:PairAt s.heap x p)(hy:PairAt s.heap y q)(op:pok p)(oq:pok q)(h:C (decide (Ac p<Ac q)) s):
 wpAny (model prog w) A (keyLt' (tuples' true) x y) C E s:=by
 obtain⟨a,o,t,u,k,rfl,ho,hc,hd⟩:=hx;obtain⟨a2,o2,t2,u2,k2,rfl,ho2,hc2,hd2⟩:=hy;obtain⟨p1,p2⟩:=p;obtain⟨q1,q2⟩:=q;unfold pok at op oq;unfold Ac at h;dsimp only at op oq h;refine kat_lt ho hd ho2 hd2 ?_;refine kat_cons (wpAny_eqBool_int ?_);by_cases e1:p1=q1
 .have b1:(p1==q1)=true:=by simp[e1]
  rw[b1];refine kat_yes (kat_cons (wpAny_eqBool_int ?_));by_cases e2:p2=q2
  .have b2:(p2==q2)=true:=by simp[e2]
   rw[b2];refine kat_yes (kat_nil ?_);have:decide (p1*4000000000+p2<q1*4000000000+q2)=false:=decide_eq_false (by omega);rw[this]at h;exact h
  .have b2:(p2==q2)=false:=by simp[e2]
   rw[b2];refine kat_no (kat_one _ _ (lt_int ?_));have:decide (p1*4000000000+p2<q1*4000000000+q2)=decide (p2<q2):=decide_eq_decide.mpr (by omega);rw[this]at h;exact h
 .have b1:(p1==q1)=false:=by simp[e1]
  rw[b1];refine kat_no (oneLt_int ?_);have:decide (p1*4000000000+p2<q1*4000000000+q2)=decide (p1<q1):=decide_eq_decide.mpr (by omega);rw[this]at h;exact h
def JI{h:Heap}:∀{vs:List Value} {ps:List (Int×Int)},vs.length=ps.length->(∀(i:Nat) (v:Value) (p:Int×Int),vs[i]?=some v->ps[i]?=some p->PairAt h v p)->∃fs,KatTups h vs fs/\fs.length=vs.length/\∀f∈fs,∃i t,f=.int i t
 |[],[],_,_=>⟨[],.nil,rfl,λ_ z=>by cases z⟩
 |v::vs,p::ps,hl,hp=>by
  obtain⟨fs,a,b,c⟩:=JI (vs:=vs) (ps:=ps) (by simpa using hl) λi v q e1 e2=>hp (i+1) v q (by simpa using e1) (by simpa using e2);obtain⟨x,o,t,u,k,rfl,ho,hc,hd⟩:=hp 0 v p rfl rfl;exact⟨.int p.1 t::fs,.cons ho hc hd rfl a,by simp[b],λf hf=>by
   rcases mem_cons.mp hf with rfl|hf
   .exact⟨_,_,rfl⟩
   .exact c f hf⟩
def Eg(vs:List Value)(ps:List (Int×Int))(out:List Value):Prop:=∃zs:List (Value×(Int×Int)),zs.Perm (vs.zip ps)/\(zs.map λz=>Ac z.2).Pairwise (·<=·)/\out=zs.map (·.1)
def PZ{vs:List Value}{ps:List (Int×Int)}(hl:vs.length=ps.length){p:Array Nat}(pa:PAr vs.length p)(hs:STo (λi=>Ac (ps.getD i (0,0))) p vs.length):Eg vs ps (p.toList.map λi=>vs.getD i Value.none):=by
 have sz:=pa.size;refine⟨p.toList.map λi=>(vs.getD i Value.none,ps.getD i (0,0)),?_,?_,by rw[map_map];rfl⟩
 .have e:vs.zip ps=(List.range vs.length).map λi=>(vs.getD i Value.none,ps.getD i (0,0)):=by
   refine ext_getElem? λi=>?_;by_cases hi:i<vs.length
   .have hi2:i<ps.length:=by omega
    rw[(List.getElem?_zip_eq_some (z:=(vs[i],ps[i]))).mpr ⟨by simp[hi],by simp[hi2]⟩];simp[hi,hi2]
   .rw[List.getElem?_eq_none (by simp;omega),List.getElem?_eq_none (by simp;omega)]
  rw[e];have:=Array.perm_iff_toList_perm.mp pa;simpa using this.map _
 .rw[map_map,List.pairwise_iff_getElem];intro i j hi hj hij;simp only[length_map,Array.length_toList]at hi hj;have:=hs i j (by omega) (by omega);unfold kv at this;simpa [Array.getD,hi,hj]using this
def OA{a:Addr}{vs:List Value}{ps:List (Int×Int)}{n:Nat}{P:PySem.Fin->Shared->Prop}(ho:s.heap.get? a=some (seqObj "list" vs.toArray n))(hl:vs.length=ps.length)(h64:vs.length<64)(hok:∀p∈ps,pok p)
 (hp:∀(i:Nat) (v:Value) (p:Int×Int),vs[i]?=some v->ps[i]?=some p->PairAt (s.heap.update a (Obj.mapSeq λ_=>#[])) v p)
 (h:∀out:List Value,Eg vs ps out->P (.done (.ret .none)) { s with heap:=sortedHeap s.heap a vs out.toArray }):
 wpAny (model prog w) A (Builtin.«list.sort» ⟨[.ref a],[]⟩) P E s:=by
 have ha:=Heap.lt_size ho;have line:vs.length<=sizeLine:=by rw[sizeLine_eq];omega
 obtain⟨e1,ho1⟩:∃e1,(s.heap.update a (Obj.mapSeq λ_=>#[])).get? a=some (seqObj "list" #[] e1):=⟨_,get?_update_seq ho _⟩
 rw[list_sort_plain];refine wpAny_bind (listItems_at ho rfl (wpAny_bind (listUpdate_at ho rfl (wpAny_bind (seqEpoch_at ho1 rfl (wpAny_bind (wpAny_newTuple (wpAny_bind (wpAny_newList (wpAny_holding ?_) (zero_le _))) line)))) (by rw[size_toArray];exact line) (zero_le _))));have grow:∀b o,(s.heap.update a (Obj.mapSeq λ_=>#[])).get? b=some o->(((s.heap.update a (Obj.mapSeq λ_=>#[])).push (seqObj "tuple" vs.toArray 0)).push (seqObj "list" #[] 0)).get? b=some o:=λb o e=>Heap.get?_push_of_some _ (Heap.get?_push_of_some _ e);have ho6:=grow _ _ ho1;generalize h6:((s.heap.update a (Obj.mapSeq λ_=>#[])).push (seqObj "tuple" vs.toArray 0)).push (seqObj "list" #[] 0)=hp6 at *;have done:∀out:List Value,Eg vs ps out->P (.done (.ret .none)) { s with heap:=hp6.update a (Obj.mapSeq λ_=>out.toArray) }:=λout z=>by
  have:=h out z;unfold sortedHeap at this;rw[h6]at this;exact this
 show wpAny (model prog w) A _ P E { s with heap:=hp6 };dsimp only;have pairs6:∀(i:Nat) (v:Value) (p:Int×Int),vs[i]?=some v->ps[i]?=some p->PairAt hp6 v p:=λi v p x y=>by
  obtain⟨x',o,t,u,k,e,q,c,d⟩:=hp i v p x y;exact⟨x',o,t,u,k,e,grow _ _ q,c,d⟩
 by_cases h2:vs.toArray.size<2
 .rw[if_pos h2,if_pos h2];refine wpAny_bind (wpAny_pure ?_);rw[StateT.run_pure];refine wpAny_bind (wpAny_pure ?_);dsimp only;have hout:(arrOf (SortSt.mk' general' (vs.toArray.zip vs.toArray) #[] 7 none)).map (·.2)=vs.toArray:=by
   show(vs.toArray.zip vs.toArray).map (·.2)=vs.toArray;apply Array.toList_inj.mp;simp only[Array.toList_map,Array.toList_zip];exact map_snd_zip (le_refl _)
  rw[hout];refine wpAny_bind (seqEpoch_at ho6 rfl (wpAny_bind (listUpdate_at ho6 rfl ?_ (zero_le _) (by rw[size_toArray];omega))));simp only[bne_self_eq_false,Bool.false_eq_true,if_false];refine wpAny_pure (done vs ⟨vs.zip ps,.refl _,?_,?_⟩)
  .have hz:(vs.zip ps).length<2:=by simp at h2 ⊢;omega
   cases hh:vs.zip ps with
   |nil=>exact .nil
   |cons z r=>
    cases r with
    |nil=>exact List.pairwise_singleton _ _
    |cons y t=>rw[hh]at hz;exact absurd hz (by simp)
  .rw[List.map_fst_zip (by omega)]
 .rw[if_neg h2,if_neg h2];have h2':2<=vs.length:=by simp at h2;omega
  obtain⟨fs,t1,t2,t3⟩:=JI hl pairs6;have tT:∀f∈fs,Looks (model prog w) hp6 (typeOf f) (Value.type "int"):=λf hf=>by
   obtain⟨i,t,rfl⟩:=t3 f hf;exact .of_pure rfl
  refine wpAny_bind (kat_kind (s:={ s with heap:=hp6 }) t1 (by omega) tT rfl ?_);have est:SortSt.mk' (tuples' true) (vs.toArray.zip vs.toArray) #[] 7 none=kas_st (tuples' true) (pairsOf vs) (List.toArray (List.range vs.length)):=by
   unfold kas_st;rw[<- pairsOf_size vs,kas_range];rfl
  have ask:(kas_sort vs.length).kasWp (kas_cmp prog w A (tuples' true) (pairsOf vs)) (λp s'=>s'={ s with heap:=hp6 }/\Eg vs ps (p.toList.map λi=>vs.getD i Value.none)) { s with heap:=hp6 }:=by
   rw[<- kas_ask_eq];refine PWp.wp (n:=vs.length) (r:=λi=>Ac (ps.getD i (0,0))) (P:=λs'=>s'={ s with heap:=hp6 }) (λi j C s' hi hj e hC=>?_) ((N8 (by omega)).mono λp z s' e=>⟨e,PZ hl z.1 z.2⟩) rfl;subst e;have pi:ps[i]?=some (ps.getD i (0,0)):=by simp[show i<ps.length by omega]
   have pj:ps[j]?=some (ps.getD j (0,0)):=by simp[show j<ps.length by omega]
   have vi:vs[i]?=some (vs.getD i Value.none):=by simp[hi]
   have vj:vs[j]?=some (vs.getD j Value.none):=by simp[hj]
   exact NW (s:={ s with heap:=hp6 }) (pairs6 i _ _ vi pi) (pairs6 j _ _ vj pj) (hok _ (mem_of_getElem? pi)) (hok _ (mem_of_getElem? pj)) (hC _ rfl)
  have run:=kas_runs (E:=E) (Q:=λ_ st' s'=>∃p:Array Nat,p.size=vs.length/\arrOf st'=p.map (kas_item (pairsOf vs))/\failedOf st'=none/\s'={ s with heap:=hp6 }/\Eg vs ps (p.toList.map λi=>vs.getD i Value.none)) h2' h64 (λp st' s' x1 x2 x3 x4=>⟨p,x1,x2,x3,x4⟩) ask;rw[<- est]at run;refine wpAny_bind (wpAny_mono run ?_ λ_ _ e=>e);rintro⟨⟨⟩,st'⟩ s' ⟨p,hsz,har,hf,rfl,so⟩;dsimp only;have hout:(arrOf st').map (·.2)=(p.toList.map λi=>vs.getD i Value.none).toArray:=by
   rw[har];apply Array.toList_inj.mp;simp only[Array.toList_map,map_map];exact map_congr_left λi _=>congrArg Prod.snd (kas_item_eq vs i)
  rw[hout];refine wpAny_bind (seqEpoch_at ho6 rfl (wpAny_bind (listUpdate_at ho6 rfl ?_ (zero_le _) (by simp[hsz];omega))));rw[hf];simp only[bne_self_eq_false,Bool.false_eq_true,if_false];exact wpAny_pure (done _ so)
end
def PairAt.keep{h h':Heap}{v:Value}{p:Int×Int}(k:∀b o,h.get? b=some o->h'.get? b=some o)(q:PairAt h v p):PairAt h' v p:=by
 obtain⟨x,o,t,u,n,e,ho,c,d⟩:=q;exact⟨x,o,t,u,n,e,k _ _ ho,c,d⟩
section
variable{prog:Program}{w:World}{A:Around}{E:Value->Shared->Prop}{s:Shared}
def LO{l:Addr}{vs:List Value}{ps:List (Int×Int)}{Q:Value->Shared->Prop}(hl:s.heap.IsList l vs.toArray)(hlen:vs.length=ps.length)(h64:vs.length<64)(hok:∀p∈ps,pok p)
 (hp:∀(i:Nat) (v:Value) (p:Int×Int),vs[i]?=some v->ps[i]?=some p->PairAt s.heap v p)
 (h:∀out:List Value,Eg vs ps out->Q (.ref (s.heap.objs.size+1)) { s with heap:=sortedAll s.heap vs out.toArray }):
 wpAny (model prog w) A (call (.builtin "sorted") [.ref l]) Q E s:=by
 have line:vs.length<=sizeLine:=by rw[sizeLine_eq];omega
 refine Calls.call_function_entry kind_sorted plain_sorted entry_sorted (args_sorted1 _) ?_;unfold Builtin.«sorted»;refine wpAny_bind (m:=checkCount "sorted" 1 1 _) (wpAny_pure (wpAny_bind (collect_list hl (wpAny_bind (wpAny_newList ?_ line)) line)));have sz:((s.heap.push (seqObj "list" #[] 0)).update s.heap.objs.size (Obj.mapSeq (·++vs.toArray))).objs.size=s.heap.objs.size+1:=by rw[Heap.size_update,size_push']
 have at1:(((s.heap.push (seqObj "list" #[] 0)).update s.heap.objs.size (Obj.mapSeq (·++vs.toArray))).push (seqObj "list" vs.toArray 0)).get? (s.heap.objs.size+1)=some (seqObj "list" vs.toArray 0):=by
  have:=Heap.get?_push_size ((s.heap.push (seqObj "list" #[] 0)).update s.heap.objs.size (Obj.mapSeq (·++vs.toArray))) (o:=seqObj "list" vs.toArray 0) rfl
  rwa [sz]at this
 have old:∀b o,s.heap.get? b=some o->((((s.heap.push (seqObj "list" #[] 0)).update s.heap.objs.size (Obj.mapSeq (·++vs.toArray))).push (seqObj "list" vs.toArray 0)).update (s.heap.objs.size+1) (Obj.mapSeq λ_=>#[])).get? b=some o:=λb o e=>by
  have lt:=Heap.lt_size e;rw[Heap.get?_update_ne _ _ _ _ (ne_of_lt (lt_succ_of_lt lt)),Heap.get?_push_ne _ _ _ (by rw[sz];exact ne_of_lt (lt_succ_of_lt lt)),Heap.get?_update_ne _ _ _ _ (ne_of_lt lt),Heap.get?_push_ne _ _ _ (ne_of_lt lt)];exact e
 show wpAny _ _ _ _ _ { s with heap:=((s.heap.push (seqObj "list" #[] 0)).update s.heap.objs.size (Obj.mapSeq (·++vs.toArray))).push (seqObj "list" vs.toArray 0) };rw[sz];refine wpAny_bind (wpAny_holding (wpAny_call_entry slot_list_sort ⟨_,at1,rfl⟩ entry_list_sort (OA at1 hlen h64 hok (λi v p a b=>(hp i v p a b).keep old) λout z=>⟨_,rfl,?_⟩) (args_list_sort _)));exact wpAny_pure ⟨_,rfl,h out z⟩
end
section
variable(K:PySem.W.Frag){X:Cx}
def Hv:List V->Hp->VK->Prop:=λxs H Q=>∃(a:Addr) (us:List V) (ps:List (Int×Int)),xs=[.ref a]/\SqL K H a us/\us.length=ps.length/\us.length<64/\(∀q∈ps,pok q)/\
 (∀(i:Nat) (u:V) (q:Int×Int),us[i]?=some u->ps[i]?=some q->∃x,u=.ref x/\SqT K H x [.int q.1,.int q.2])/\
 ∀(p:Addr) (zs:List (V×(Int×Int))),H p=none->zs.Perm (us.zip ps)->(zs.map λz=>Ac z.2).Pairwise (·<=·)->Q (.ref p) (upd H p (.lst (zs.map (·.1))))
def Fm:Value->V
 |.ref x=>.ref x
 |_=>.non
def Ho:∀{us:List V} {its:List Value} {i:Nat} {u:V},Vals us its->us[i]?=some u->∃v,its[i]?=some v/\RelV u v
 |_,_,_,_,.nil,h=>by simp at h
 |_::_,_::_,0,_,.cons r _,h=>by
  simp at h;subst h;exact⟨_,rfl,r⟩
 |_::_,_::_,i+1,_,.cons _ t,h=>Ho (i:=i) t (by simpa using h)
def Ma(hK:X.K=K:=by rfl):CallR X (.builtin "sorted") (Hv K):=by
 subst hK;intro pins s σ H xs us0 Q I r h;obtain⟨a,us,ps,rfl,hq,hlen,h64,hok,hpr,q⟩:=h;obtain⟨u,rfl,ru⟩:=C8 r;cases ru;obtain⟨its,rv,p,hz⟩:=I.list hq;have hl2:us.length=its.length:=rv.length;have point:∀(i:Nat) (v:Value) (q:Int×Int),its[i]?=some v->ps[i]?=some q->(∃x,us[i]?=some (.ref x)/\v=.ref x)/\PairAt s.heap v q:=by
  intro i v q e1 e2;have hi:i<us.length:=by rw[hl2];exact(List.getElem?_eq_some_iff.mp e1).1
  have eu:us[i]?=some us[i]:=by simp[hi]
  obtain⟨x,ex,sq⟩:=hpr i _ q eu e2;obtain⟨v',ev,rel⟩:=Ho rv eu;rw[e1]at ev;cases ev;rw[ex]at rel eu;have rel:v=Value.ref x:=rel;subst rel;refine⟨⟨x,eu,rfl⟩,?_⟩;obtain⟨jts,rj,⟨o,ho,hc,n,hd⟩,_⟩:=I.tuple sq;cases rj with
  |cons r1 t1=>
   cases t1 with
   |cons r2 t2=>
    cases t2;obtain⟨t,rfl⟩:=r1;obtain⟨t',rfl⟩:=r2;exact⟨x,o,t,t',n,rfl,ho,hc,hd⟩
 refine LO (ps:=ps) p.isList (by omega) (by omega) hok (λi v q a b=>(point i v q a b).2) λout z=>?_;obtain⟨zs,pm,pw,rfl⟩:=z;obtain⟨e,he⟩:=sortedAll_at s.heap its (zs.map (·.1)).toArray;have mz:∀z∈zs,∃x,z.1=.ref x:=λz hz=>by
  have:=pm.mem_iff.mp hz;obtain⟨i,hi⟩:=mem_iff_getElem?.mp this;obtain⟨e1,e2⟩:=List.getElem?_zip_eq_some.mp hi;obtain⟨⟨x,_,ex⟩,_⟩:=point i _ _ e1 e2;exact⟨x,ex⟩
 have vz:∀{zs:List (Value×(Int×Int))},(∀z∈zs,∃x,z.1=.ref x)->Vals (zs.map λz=>Fm z.1) (zs.map (·.1)):=by
  intro zs
  induction zs with
  |nil=>intro _;exact .nil
  |cons z r ih=>
   intro h;obtain⟨x,ex⟩:=h z mem_cons_self;refine .cons ?_ (ih λy hy=>h y (mem_cons_of_mem _ hy));show RelV (Fm z.1) z.1;rw[ex];rfl
 have pm2:(zs.map λz=>(Fm z.1,z.2)).Perm (us.zip ps):=by
  have:=pm.map λz:Value×(Int×Int)=>(Fm z.1,z.2)
  have e:((its.zip ps).map λz:Value×(Int×Int)=>(Fm z.1,z.2))=us.zip ps:=by
   refine ext_getElem? λi=>?_;by_cases hi:i<us.length
   .have h1:i<its.length:=by omega
    have h2:i<ps.length:=by omega
    have e1:its[i]?=some its[i]:=by simp[h1]
    have e2:ps[i]?=some ps[i]:=by simp[h2]
    obtain⟨⟨x,ex,ev⟩,_⟩:=point i _ _ e1 e2;rw[List.getElem?_map,(List.getElem?_zip_eq_some (z:=(its[i],ps[i]))).mpr ⟨e1,e2⟩,(List.getElem?_zip_eq_some (z:=(V.ref x,ps[i]))).mpr ⟨ex,e2⟩,map_some,ev];rfl
   .rw[List.getElem?_eq_none (by simp;omega),List.getElem?_eq_none (by simp;omega)]
  rwa [e]at this
 have pw2:((zs.map λz=>(Fm z.1,z.2)).map λz:V×(Int×Int)=>Ac z.2).Pairwise (·<=·):=by rw[map_map];exact pw
 have fin:=q (s.heap.objs.size+1) _ (I.hok.fresh (le_succ _)) pm2 pw2;have em:(zs.map λz=>(Fm z.1,z.2)).map (·.1)=zs.map λz=>Fm z.1:=by rw[map_map];rfl
 rw[em]at fin;have zl:zs.length<64:=by rw[pm.length_eq];simp;omega
 refine⟨.ref (s.heap.objs.size+1),_,I.laid (a:=s.heap.objs.size+1) (o:=.lst (zs.map λz=>Fm z.1)) (t':=s.toks) (λb o hb=>sortedAll_old hb) (le_succ _) ⟨?_,_,e,vz mz,he⟩,rfl,fin⟩;rw[length_map];exact le_of_lt (GR (by omega))
end
def B1(p:Int×Int):D:=.im (.tup [.int p.1,.int p.2])
def D6:List D->Option (List (Int×Int))
 |[]=>some []
 |.im (.tup [.int a,.int b])::r=>(D6 r).map ((a,b)::·)
 |_=>none
def GZ:∀{ds:List D} {ps:List (Int×Int)},D6 ds=some ps->ds=ps.map B1:=by
 intro ds
 induction ds with
 |nil=>intro ps h;simp[D6]at h;subst h;rfl
 |cons d r ih=>
  intro ps h;unfold D6 at h;split at h
  .next e=>cases e
  .next a b r' e=>
   cases e;obtain⟨qs,e1,rfl⟩:=cv h;rw[ih e1];rfl
  .cases h
@[simp] theorem Il(ps:List (Int×Int)):D6 (ps.map B1)=some ps:=by
 induction ps with
 |nil=>rfl
 |cons p r ih=>simp[D6,B1]at ih ⊢;exact ih
def C9(ps:List (Int×Int)):List (Int×Int):=ps.mergeSort λa b=>decide (Ac a<=Ac b)
def IU(ps:List (Int×Int)):(C9 ps).Perm ps:=mergeSort_perm ..
def LQ(ps:List (Int×Int)):(C9 ps).Pairwise λa b=>Ac a<=Ac b:=by
 have:=pairwise_mergeSort (le:=λa b:Int×Int=>decide (Ac a<=Ac b)) (by intro a b c h1 h2;simp at *;omega) (by intro a b;simp;omega) ps;exact this.imp (by simp)
def Sm{p q:Int×Int}(a:pok p)(b:pok q)(h:Ac p=Ac q):p=q:=by
 unfold pok at a b;unfold Ac at h;exact Prod.ext (by omega) (by omega)
open Classical in
def DK(m:MI):MA:=λls hd=>(m ls hd).bind λp=>(D6 p.1.1).bind λps=>if ps.length<64/\∀q∈ps,pok q then some ((C9 ps).map B1,p.2)else none
section
variable{K:PySem.W.Frag}{ρ:List Addr}{H:Hp}{hd:Hd}
def NJ{p:Int×Int}{v:V}(h:RD K ρ H (B1 p) v):∃x,v=.ref x/\SqT K H x [.int p.1,.int p.2]:=by
 simp only[B1,RD,RI,RIs]at h;obtain⟨a,xs,rfl,q,x,r,rfl,rfl,y,r2,rfl,rfl,rfl⟩:=h;exact⟨a,rfl,q⟩
def OM{t:TE}{m:MI}(h:RRw K false t m):RN K (tCB (Hv K) (Ax t BG)) (DK m):=by
 and_intros;obtain⟨⟨⟨d1,g1⟩,h1⟩,e1,hm⟩:=cu hm;obtain⟨ps,e2,hm⟩:=cu hm;split at hm
 .next c=>
  cases hm;refine h ρ σ H hd ls _ d1 g1 _ hR hL e1 λρ1 H1 a x1 R1 G1 S1=>?_;obtain⟨xs,q,r⟩:=S1 ρ1 H1 _ .refl R1 G1;have e2:D6 d1=some ps:=e2;rw[GZ e2]at r;have hl:xs.length=ps.length:=by simpa using r.len
  have each:∀(i:Nat) (u:V) (q:Int×Int),xs[i]?=some u->ps[i]?=some q->RD K ρ1 H1 (B1 q) u:=λi u q a b=>by
   obtain⟨x,e,z⟩:=r.get (i:=i) (d:=B1 q) (by simp[b]);rw[a]at e;cases e;exact z
  refine⟨a,xs,ps,rfl,q,hl,by rw[hl];exact c.1,c.2,λi u q a b=>NJ (each i u q a b),λp zs hp pm pw=>?_⟩;have es:zs.map (·.2)=C9 ps:=by
   have pp:(zs.map (·.2)).Perm ps:=by
    have:=pm.map (λz:V×(Int×Int)=>z.2)
    rwa [map_snd_zip (by omega)]at this
   refine(pp.trans (IU ps).symm).eq_of_pairwise (le:=λa b=>Ac a<=Ac b) (λx y hx hy l1 l2=>Sm (c.2 _ (pp.mem_iff.mp hx)) (c.2 _ ((IU ps).mem_iff.mp hy)) (le_antisymm l1 l2)) ?_ (LQ ps);rw[pairwise_map]at pw ⊢;exact pw
  obtain⟨R2,x2⟩:=R1.hid (ho:=.lst (zs.map (·.1))) hp;have all:∀z∈zs,RD K ρ1 H1 (B1 z.2) z.1:=λz hz=>by
   obtain⟨i,hi⟩:=mem_iff_getElem?.mp (pm.mem_iff.mp hz);obtain⟨a1,a2⟩:=List.getElem?_zip_eq_some.mp hi;exact each i _ _ a1 a2
  have rd:∀{zs:List (V×(Int×Int))},(∀z∈zs,RD K ρ1 H1 (B1 z.2) z.1)->RDs K ρ1 H1 ((zs.map (·.2)).map B1) (zs.map (·.1)):=by
   intro zs
   induction zs with
   |nil=>intro _;exact .nil
   |cons z r ih=>intro h;exact .cons (h z mem_cons_self) (ih λy hy=>h y (mem_cons_of_mem _ hy))
  have rz:=rd all;rw[es]at rz;exact hQ ρ1 _ p _ (x1.trans R1 x2) R2 (x1.none hR hp R1) (R1.out hp) AL (rz.ext R1 x2)
 .cases hm
open Classical in
def Z4:D->List D->Hd->Option (D×Hd)
 |.mu n,[.im (.int i)],hd=>match hd[n]? with
  |some (.lst ds)=>if JS i then(ixN ds.length i).bind λk=>(ds[k]?).map λy=>(y,hd.set n (.lst (ds.eraseIdx k)))else none
  |_=>none
 |_,_,_=>none
end
section
variable(K:PySem.W.Frag){X:Cx}{e:Expr}{te:TE}{p pos:Pos}
def OW{mi:MI}(hm:X.mg "sorted"=none)(ha:QR K false X e te mi)(hg:Gl X "sorted":=by rfl)(he:starEach [e] X.env=[(false,eval e X.env)]:=by rfl)(hK:X.K=K:=by rfl):QN K X (.Call (.Name "sorted" p) [e] [] pos) (tCB (Hv K) (Ax te BG)) (DK mi):=
 ⟨Eo (Ma K hK) hg hm FA (BH ha.p By he) (by decide) (by decide) he rfl,OM ha.r⟩
end
section
variable{ls:Ls}{hd:Hd}
open Classical in
@[simp] theorem ar(k:Nat)(i:Int):Z4 (.mu k) [.im (.int i)] hd=match hd[k]? with
 |some (.lst ds)=>if JS i then(ixN ds.length i).bind λj=>(ds[j]?).map λy=>(y,hd.set k (.lst (ds.eraseIdx j)))else none
 |_=>none:=rfl
open Classical in
@[simp] theorem aI(mi:MI):DK mi ls hd=(mi ls hd).bind λp=>(D6 p.1.1).bind λps=>if ps.length<64/\∀q∈ps,pok q then some ((C9 ps).map B1,p.2)else none:=rfl
end
end L2
namespace L2
open PySem PySem.Spec PyProof.Rows
def WP{α:Type}(o:Option (α×Hd))(Q:α->Hd->Prop):Prop:=∃z h,o=some (z,h)/\Q z h
abbrev WS(m:MS)(ls:Ls)(hd:Hd)(Q:Fl->Hd->Prop):Prop:=WP (m ls hd) Q
abbrev WE(m:ME)(ls:Ls)(hd:Hd)(Q:D->Hd->Prop):Prop:=WP (m ls hd) Q
abbrev WT(m:MT)(ls:Ls)(hd:Hd)(Q:Bool->Hd->Prop):Prop:=WP (m ls hd) Q
abbrev WA(m:MA)(ls:Ls)(hd:Hd)(Q:List D->Hd->Prop):Prop:=WP (m ls hd) Q
abbrev WI(m:MI)(ls:Ls)(hd:Hd)(Q:List D×Gd->Hd->Prop):Prop:=WP (m ls hd) Q
abbrev WF(F:List D->Hd->Option (D×Hd))(ds:List D)(hd:Hd)(Q:D->Hd->Prop):Prop:=WP (F ds hd) Q
section
variable{α β:Type}{o:Option (α×Hd)}{Q:α->Hd->Prop}{R:β->Hd->Prop}{ls:Ls}{hd:Hd}{d e:D}
def WP.some{z:α}{h:Hd}(q:Q z h):WP (some (z,h)) Q:=⟨z,h,rfl,q⟩
def WP.mono{Q':α->Hd->Prop}(h:WP o Q)(k:∀z h,Q z h->Q' z h):WP o Q':=let ⟨z,x,e,q⟩:=h;⟨z,x,e,k z x q⟩
def WP.bind{f:α×Hd->Option (β×Hd)}(h:WP o λz x=>WP (f (z,x)) R):WP (o.bind f) R:=by
 obtain⟨z,x,e,q⟩:=h;rw[e];exact q
def WP.eq{z:α}{h:Hd}(e:o=Option.some (z,h))(q:Q z h):WP o Q:=⟨z,h,e,q⟩
end
section
variable{ls:Ls}{hd:Hd}{a b:MS}{ma mb mc:ME}{ta tb:MT}{m m1 m2:MA}{n:MG}{ns:MGs}{mi:MI}{d e:D}{i j:Nat}{QS:Fl->Hd->Prop}{QE:D->Hd->Prop}{QT:Bool->Hd->Prop}{QA:List D->Hd->Prop}{QO:Option Int->Hd->Prop}{QI:List D×Gd->Hd->Prop}
def O0(b:MS)(Q:Fl->Hd->Prop):Fl->Hd->Prop
 |.nx l,h=>WS b l h Q
 |f,h=>Q f h
def AC(h:WS a ls hd (O0 b QS)):WS (A8 a b) ls hd QS:=by
 obtain⟨f,x,e,q⟩:=h;show WP (A8 a b ls hd) QS;rw[Gq,e];cases f<;>first|exact q|exact⟨_,_,rfl,q⟩
def A5{l:Ls}{h:Hd}(q:WS b l h QS):O0 b QS (.nx l) h:=q
def Rc{h:Hd}(q:QS (.rt d) h):O0 b QS (.rt d) h:=q
def AU(h:QS (.nx ls) hd):WS AS ls hd QS:=⟨_,_,rfl,h⟩
def AZ(h:WE ma ls hd λd x=>QS (.rt d) x):WS (AN ma) ls hd QS:=WP.bind (h.mono λ_ _ q=>WP.some q)
def AQ(h:WE ma ls hd λd x=>QS (.nx (ls.set i (some d))) x):WS (AM i ma) ls hd QS:=by
 obtain⟨d,x,e,q⟩:=h;exact⟨_,_,by simp only[Fd,e,bind_some,Ha,map_some],q⟩
def IK(h:WE ma ls hd λd x=>∃l,n d ls x=some l/\QS (.nx l) x):WS (EI ma n) ls hd QS:=by
 obtain⟨d,x,e,l,e2,q⟩:=h;exact⟨_,_,by simp only[Fd,e,bind_some,e2,map_some],q⟩
def C2(h:WE ma ls hd λ_ x=>QS (.nx ls) x):WS (Bp ma) ls hd QS:=WP.bind (h.mono λ_ _ q=>WP.some q)
def ZN(h:WT ta ls hd λc x=>if c=true then WS a ls x QS else WS b ls x QS):WS (Aa ta a b) ls hd QS:=by
 refine WP.bind (h.mono λc x q=>?_);dsimp only;cases c<;>simpa using q
def Ad(h:WT ta ls hd λc x=>(c=true->WS a ls x QS)/\(c=false->WS b ls x QS)):WS (Aa ta a b) ls hd QS:=
 ZN (h.mono λc x q=>by cases c<;>simp_all)
def WL(n:MG)(b:MS)(g:Gd)(ds:List D)(ls:Ls)(hd:Hd)(Q:Fl->Hd->Prop):Prop:=WP (Aq n b g ds ls hd) Q
def BN(h:WI mi ls hd λp x=>WL n b p.2 p.1 ls x QS):WS (BI mi n b) ls hd QS:=WP.bind (h.mono λ_ _ q=>q)
def ZR(g:Gd)(P:Ls->Hd->Prop)(Q:Fl->Hd->Prop):Fl->Hd->Prop
 |.nx l,h=>GOk h g/\P l h
 |.ct l,h=>GOk h g/\P l h
 |.bk l,h=>Q (.nx l) h
 |.rt d,h=>Q (.rt d) h
def B8{g:Gd}(P:List D->Ls->Hd->Prop):∀{ds:List D} {ls:Ls} {hd:Hd},P ds ls hd ->
 (∀d r ls hd,P (d::r) ls hd->∃ls1,n d ls hd=some ls1/\WS b ls1 hd (ZR g (P r) QS))->(∀ls hd,P [] ls hd->QS (.nx ls) hd)->WL n b g ds ls hd QS
 |[],ls,hd,h,_,z=>⟨_,_,by unfold Aq;rfl,z _ _ h⟩
 |d::r,ls,hd,h,k,z=>by
  obtain⟨ls1,e1,f,x,e2,q⟩:=k d r ls hd h;unfold WL;unfold Aq;rw[e1,bind_some,e2,bind_some];cases f with
  |nx l=>exact(show GOk x g/\P r l x from q).1 |> λg1=>by dsimp only;rw[if_pos g1];exact B8 P q.2 k z
  |ct l=>exact(show GOk x g/\P r l x from q).1 |> λg1=>by dsimp only;rw[if_pos g1];exact B8 P q.2 k z
  |bk l=>exact⟨_,_,rfl,q⟩
  |rt l=>exact⟨_,_,rfl,q⟩
def A1(h:ls[i]?=some (some d))(q:QE d hd):WE (A0 i) ls hd QE:=⟨d,hd,by rw[Fc,h],q⟩
def AG{i:I}(q:QE (.im i) hd):WE (mC i) ls hd QE:=⟨_,_,rfl,q⟩
def A6{f:D->D->Hd->Option (D×Hd)}(h:WE ma ls hd λd x=>WE mb ls x λe y=>WP (f d e y) QE):WE (mOp f ma mb) ls hd QE:=WP.bind (h.mono λ_ _ q=>WP.bind (q.mono λ_ _ q=>q))
def Tf(h:WT ta ls hd λc x=>if c=true then WE ma ls x QE else WE mb ls x QE):WE (mIf ta ma mb) ls hd QE:=by
 refine WP.bind (h.mono λc x q=>?_);dsimp only;cases c<;>simpa using q
def LF(h:WT ta ls hd λc x=>(c=true->WE ma ls x QE)/\(c=false->WE mb ls x QE)):WE (mIf ta ma mb) ls hd QE:=
 Tf (h.mono λc x q=>by cases c<;>simp_all)
def B2(h:WA m ls hd λds x=>Bn ds.length/\QE (Ab ds) x):WE (As m) ls hd QE:=WP.bind (h.mono λds x q=>by dsimp only;rw[if_pos q.1];exact WP.some q.2)
def BO(h:WA m ls hd λds x=>QE (.mu x.length) (x++[.lst ds])):WE (B5 m) ls hd QE:=WP.bind (h.mono λ_ _ q=>WP.some q)
def CN{g:List D->Option D}(h:WA m ls hd λds x=>∃d,g ds=some d/\QE d x):WE (BQ g m) ls hd QE:=by
 obtain⟨ds,x,e,d,e2,q⟩:=h;exact⟨d,x,by simp only[Ql,e,bind_some,e2,map_some],q⟩
def PN(h:WA m ls hd λds x=>WE ma ls x λe y=>∃i d,e=.im (.int i)/\atI ds i=some d/\QE d y):WE (IA m ma) ls hd QE:=by
 obtain⟨ds,x,e,d,y,e2,i,z,rfl,e4,q⟩:=h;exact⟨z,y,by simp only[Z9,e,bind_some,e2,e4,map_some],q⟩
def Bo{f:List D->Hd->Option (D×Hd)}(h:WA m ls hd λds x=>WP (f ds x) QE):WE (mCB f m) ls hd QE:=WP.bind (h.mono λ_ _ q=>q)
def HH{f:D->List D->Hd->Option (D×Hd)}(h:WE ma ls hd λd x=>(∃l,BE x d=some l)/\WA m ls x λds y=>WP (f d ds y) QE):WE (mMt f ma m) ls hd QE:=by
 obtain⟨d,x,e,⟨l,hl⟩,q⟩:=h;unfold WE;rw[aJ,e,bind_some];dsimp only;rw[hl];exact WP.bind (q.mono λ_ _ q=>q)
def LG{F:List D->Hd->Option (D×Hd)}(h:WA m ls hd λds x=>WF F ds x QE):WE (EB F m) ls hd QE:=WP.bind (h.mono λ_ _ q=>q)
def IL(h:WE ma ls hd λd x=>∃i,d=.im (.int i)/\QE (.im (.int (-i))) x):WE (Ft ma) ls hd QE:=by
 obtain⟨d,x,e,i,rfl,q⟩:=h;exact⟨_,x,by simp only[Z7,e,bind_some],q⟩
def HI(h:WT (AD ma) ls hd λc x=>if c=true then WE mb ls x QE else QE (.im (.bl false)) x):WE (EU ma mb) ls hd QE:=by
 refine WP.bind (h.mono λc x q=>?_);dsimp only;cases c
 .exact WP.some (by simpa using q)
 .simpa using q
def PM(h:WT (AD ma) ls hd λc x=>if c=true then QE (.im (.bl true)) x else WE mb ls x QE):WE (I0 ma mb) ls hd QE:=by
 refine WP.bind (h.mono λc x q=>?_);dsimp only;cases c
 .simpa using q
 .exact WP.some (by simpa using q)
def N4(h:WT (AD ma) ls hd λc x=>QE (.im (.bl (!c))) x):WE (Fs ma) ls hd QE:=WP.bind (h.mono λ_ _ q=>WP.some q)
def AJ(h:WE ma ls hd λd x=>∃b,d=.im (.bl b)/\QT b x):WT (AD ma) ls hd QT:=by
 obtain⟨d,x,e,b,rfl,q⟩:=h;exact⟨b,x,by simp only[Ng,e,bind_some],q⟩
def B6(h:WE ma ls hd λd x=>∃b,EG x d=some b/\QT b x):WT (BX ma) ls hd QT:=by
 obtain⟨d,x,e,b,e2,q⟩:=h;exact⟨b,x,by simp only[Z5,e,bind_some,e2,map_some],q⟩
def Bb(h:WT ta ls hd λc x=>QT (!c) x):WT (CC ta) ls hd QT:=WP.bind (h.mono λ_ _ q=>WP.some q)
def FO(h:WT ta ls hd λc x=>if c=true then WT tb ls x QT else QT false x):WT (DT ta tb) ls hd QT:=by
 refine WP.bind (h.mono λc x q=>?_);dsimp only;cases c
 .exact WP.some (by simpa using q)
 .simpa using q
def C0(h:WT ta ls hd λc x=>if c=true then QT true x else WT tb ls x QT):WT (mOr ta tb) ls hd QT:=by
 refine WP.bind (h.mono λc x q=>?_);dsimp only;cases c
 .simpa using q
 .exact WP.some (by simpa using q)
def D4(h:QT true hd):WT Bi ls hd QT:=⟨_,_,rfl,h⟩
def A7(h:QA [] hd):WA A4 ls hd QA:=⟨_,_,rfl,h⟩
def A3(h:WE ma ls hd λd x=>WA m ls x λds y=>QA (d::ds) y):WA (A2 ma m) ls hd QA:=WP.bind (h.mono λ_ _ q=>WP.bind (q.mono λ_ _ q=>WP.some q))
def Cf(h:WA m ls hd λds x=>Bn ds.length/\QA ds x):WA (CY m) ls hd QA:=WP.bind (h.mono λds x q=>by dsimp only;rw[if_pos q.1];exact WP.some q.2)
def N5{k:Int}(e:m ls hd=some ([.im (.int k)],hd))(hk:Kp k)(q:QA (Ar 0 k.toNat) hd):WA (Fr m) ls hd QA:=⟨_,_,by simp only[Z6,e,bind_some,hk,if_true],q⟩
def Nt(h:WA m ls hd λds x=>∃k,ds=[.im (.int k)]/\JS k/\QI (Ar 0 k.toNat,[]) x):WI (Er m) ls hd QI:=by
 obtain⟨ds,x,e,k,rfl,c,q⟩:=h;exact⟨_,x,by simp only[ZA,e,bind_some,c,if_true],q⟩
def Bq(h:WE ma ls hd λd x=>∃ds,Ae d=some ds/\QI (ds,[]) x):WI (Ak ma) ls hd QI:=by
 obtain⟨d,x,e,ds,e2,q⟩:=h;exact⟨_,x,by simp only[J7,e,bind_some,e2,map_some],q⟩
def aW(h:WA m ls hd λds x=>QI (ds,[]) x):WI (EH m) ls hd QI:=by
 obtain⟨ds,x,e,q⟩:=h;exact⟨_,x,by simp only[ZC,e,map_some],q⟩
def FF(h:WE ma ls hd λd x=>∃k ds,d=.mu k/\x[k]?=some (.lst ds)/\QI (ds,[(k,ds)]) x):WI (CZ ma) ls hd QI:=by
 obtain⟨d,x,e,k,ds,rfl,e2,q⟩:=h;exact⟨_,x,by simp only[ZB,e,bind_some,e2],q⟩
def BC{k:Nat}{ix:List Nat}(h:WI mi ls hd λp x=>Bn p.1.length/\WP (Ap n ta ma p.2 p.1 (E4 k ix ls) x) QA):WA (Ao k ix mi n ta ma) ls hd QA:=WP.bind (h.mono λp x q=>by dsimp only;rw[if_pos q.1];exact q.2)
def LH{g:Gd}(P:List D->List D->Ls->Hd->Prop):∀{ds es:List D} {ls:Ls} {hd:Hd},P ds es ls hd ->
 (∀d r es ls hd,P (d::r) es ls hd->∃ls1,n d ls hd=some ls1/\WT ta ls1 hd λc x=>if c=true then WE ma ls1 x λz y=>GOk y g/\P r (es++[z]) ls1 y else GOk x g/\P r es ls1 x) ->
 WP (Ap n ta ma g ds ls hd) λzs x=>∃ls',P [] (es++zs) ls' x
 |[],es,ls,hd,h,k=>⟨_,_,by unfold Ap;rfl,ls,by simpa using h⟩
 |d::r,es,ls,hd,h,k=>by
  obtain⟨ls1,e1,c,x,e2,q⟩:=k d r es ls hd h;unfold Ap;rw[e1,bind_some,e2,bind_some];cases c with
  |true=>
   rw[if_pos rfl]at q ⊢;obtain⟨z,y,e3,g3,p3⟩:=q;obtain⟨zs,y2,e4,ls',p4⟩:=LH P p3 k;rw[e3,bind_some];dsimp only;rw[if_pos g3,e4];exact⟨z::zs,y2,rfl,ls',by simpa using p4⟩
  |false=>
   rw[if_neg Bool.false_ne_true]at q ⊢;dsimp only;rw[if_pos q.1];exact LH P q.2 k
def B7{i j:Int}(q:QE (.im (.int (i+j))) hd):WP (AY (.im (.int i)) (.im (.int j)) hd) QE:=⟨_,_,by simp,q⟩
def Cd{i j:Int}(q:QE (.im (.int (i-j))) hd):WP (BM (.im (.int i)) (.im (.int j)) hd) QE:=⟨_,_,by simp,q⟩
def WU{i j:Int}(c:Dw i j)(q:QE (.im (.int (i*j))) hd):WP (Du (.im (.int i)) (.im (.int j)) hd) QE:=⟨_,_,by simp[c],q⟩
def UH{i j:Int}(c:J9 j)(q:QE (.im (.int (i/j))) hd):WP (Fy (.im (.int i)) (.im (.int j)) hd) QE:=⟨_,_,by simp[c],q⟩
def Kj{i j:Int}(q:QE (.im (.bl (decide (i<j)))) hd):WP (gLt (.im (.int i)) (.im (.int j)) hd) QE:=⟨_,_,by simp,q⟩
def Kk{i j:Int}(q:QE (.im (.bl (decide (i<=j)))) hd):WP (gLe (.im (.int i)) (.im (.int j)) hd) QE:=⟨_,_,by simp,q⟩
def HF{i j:Int}(q:QE (.im (.bl (decide (j<i)))) hd):WP (gGt (.im (.int i)) (.im (.int j)) hd) QE:=⟨_,_,by simp,q⟩
def ZO{i j:Int}(q:QE (.im (.bl (decide (j<=i)))) hd):WP (gGe (.im (.int i)) (.im (.int j)) hd) QE:=⟨_,_,by simp,q⟩
def E5{i j:Int}(q:QE (.im (.bl (decide (i=j)))) hd):WP (gEq (.im (.int i)) (.im (.int j)) hd) QE:=⟨_,_,by simp,q⟩
def DQ{i j:Int}(q:QE (.im (.bl (!decide (i=j)))) hd):WP (gNe (.im (.int i)) (.im (.int j)) hd) QE:=⟨_,_,by simp,q⟩
def WQ{i j:Str}(q:QE (.im (.bl (!decide (i=j)))) hd):WP (gNe (.im (.str i)) (.im (.str j)) hd) QE:=⟨_,_,by simp,q⟩
def AI{i:Int}{ds:List D}(e1:B3 hd d=some ds)(e2:atI ds i=some e)(q:QE e hd):WP (gIx d (.im (.int i)) hd) QE:=⟨_,_,by rw[U8,e1,bind_some,e2];rfl,q⟩
def UG{i j:Int}(q:QE (.im (.int (max i j))) hd):WP (EW [.im (.int i),.im (.int j)] hd) QE:=⟨_,_,rfl,by have:(if j>i then j else i)=max i j:=(by split<;>omega);rw[this];exact q⟩
def Bv{tp:Bool}{g:List D->Option D}{ds:List D}{z:D}(e1:(if tp then B3 hd d else BE hd d)=some ds)(e2:g ds=some z)(q:QE z hd):WP (f1 tp g [d] hd) QE:=⟨_,_,by rw[U9,e1,bind_some,e2];rfl,q⟩
def FP{k:Nat}{x:D}{ds:List D}(e1:hd[k]?=some (.lst ds))(c:F7 ds.length)(q:QE (.im .non) (hd.set k (.lst (ds++[x])))):WP (BF (.mu k) [x] hd) QE:=⟨_,_,by rw[ZG,e1];simp only[c,if_true],q⟩
def UF(h:WE mc ls hd λp x=>WE ma ls x λq y=>WE mb ls y λr z=>∃w i j ds,q=.mu w/\r=.im (.int i)/\z[w]?=some (.lst ds)/\ixN ds.length i=some j/\QS (.nx ls) (z.set w (.lst (ds.set j p)))):WS (ES ma mb mc) ls hd QS:=by
 obtain⟨p,x,e1,q,y,e2,r,z,e3,w,i,j,ds,rfl,rfl,e5,c,qq⟩:=h;exact⟨_,_,by simp only[W5,e1,bind_some,e2,e3,e5,c,map_some],qq⟩
def Am{k n:Nat}{m:MS}{ds:List D}{Q:D->Hd->Prop}(hl:ds.length=k)(h:WS m (ds.map some++List.replicate (n-k) none) hd λf x=>match f with
 |.rt d=>Q d x
 |.nx _=>Q (.im .non) x
 | _=>False):WF (mkF k n m) ds hd Q:=by
 obtain⟨f,x,e,q⟩:=h;unfold WF mkF;rw[if_pos hl,e];cases f with
 |nx l=>exact⟨_,_,rfl,q⟩
 |rt l=>exact⟨_,_,rfl,q⟩
 |bk l=>exact q.elim
 |ct l=>exact q.elim
def AK{F:List D->Hd->Option (D×Hd)}(h:WA m ls hd λds x=>BB 0 ds=true/\WF F ds [] λd _=>∃i,d=.im i/\QE (.im i) x):WE (A9 0 F m) ls hd QE:=by
 obtain⟨ds,x,e,c,d,y,e2,i,rfl,q⟩:=h;exact⟨_,_,F8 e c e2,q⟩
end
structure Tap(T:Nat->MO->MO->Prop)(P:List D->Hd->Option (D×Hd)):Prop where
 cl:∀{k:Nat} {a b:MO},T k a b->clO 2 a=true/\clO 2 b=true
 le:∀{j k:Nat} {a b:MO},T k a b->j<=k->T j a b
 pick:∀{k:Nat} {a b:MO} {many:Int},T (k+1) a b->0<many->many<1073741824->∃r a' b',0<=r/\r<many/\P [.mu 1,.im (.int many)] [a,b]=some (.im (.int r),[a',b'])/\T k a' b'
section
variable{T:Nat->MO->MO->Prop}{P:List D->Hd->Option (D×Hd)}{a b:MO}{rest:Hd}{ls:Ls}{m:MA}{QE:D->Hd->Prop}{n c:Nat}
def Tap.draw(t:Tap T P)(hT:T (n+1) a b){many:Int}{hd:Hd}(e:m ls hd=some ([.mu 1,.im (.int many)],a::b::rest))(h0:0<many)(h1:many<1073741824)
 (k:∀r a' b',T n a' b'->0<=r->r<many->QE (.im (.int r)) (a'::b'::rest)):WE (A9 2 P m) ls hd QE:=by
 obtain⟨r,a',b',p1,p2,e2,hT'⟩:=t.pick hT h0 h1;refine⟨_,_,Me (w:=2) (ds:=[.mu 1,.im (.int many)]) (pre:=[a,b]) (pre':=[a',b']) (rest:=rest) (g:=[]) rfl rfl e (by simp) ?_ ?_ (by simpa using e2),k r a' b' hT' p1 p2⟩
 .simp[t.cl hT]
 .simp[t.cl hT']
end
section
variable{K:PySem.W.Frag}{ρ ρ':List Addr}{H H':Hp}{hd hd':Hd}
def HJ(w:Nat)(ls:Ls):Ls:=ls.map λo=>match o with
 |some d=>if clD w d=true then some d else none
 |none=>none
def Fj(w:Nat):Fl->Option Fl
 |.nx ls=>some (.nx (HJ w ls))
 |.bk ls=>some (.bk (HJ w ls))
 |.ct ls=>some (.ct (HJ w ls))
 |.rt d=>if clD w d=true then some (.rt d)else none
def Iq(w:Nat)(m:MS):MS:=λls hd=>if hd.length<=w then(m ls hd).bind λp=>if(p.2.take w).all (clO w)=true then(Fj w p.1).map λf=>(f,p.2.take w)else none else none
def RL.trim{ls:Ls}{σ:St}(h:RL K ρ H ls σ)(w:Nat):RL K (ρ.take w) H (HJ w ls) σ:=by
 refine⟨by simp[HJ,h.len],λi d e=>?_⟩;unfold HJ at e;rw[List.getElem?_map]at e;cases q:ls[i]? with
 |none=>rw[q]at e;cases e
 |some o=>
  rw[q]at e;cases o with
  |none=>simp at e
  |some z=>
   simp only[map_some,Option.some.injEq]at e;split at e
   .next c=>
    cases e;obtain⟨v,e1,e2⟩:=h.ob i _ q;exact⟨v,e1,e2.take w c⟩
   .cases e
def Ext.trim(x:Ext ρ H ρ' H'){w:Nat}(h:ρ.length<=w):Ext ρ H (ρ'.take w) H':=by
 obtain⟨r,rfl,fr⟩:=x.pre;refine⟨⟨r.take (w-ρ.length),?_,λb hb=>fr b (List.mem_of_mem_take hb)⟩,x.keep,x.tab⟩;rw[List.take_append,take_of_length_le h]
def UV{t:TS}{m:MS}(w:Nat)(h:RS K t m):RS K t (Iq w m):=by
 intro ρ σ H hd ls E f hd' hR hL hm hQ;unfold Iq at hm;split at hm
 .next hw=>
  obtain⟨⟨f1,h1⟩,e1,hm⟩:=cu hm;dsimp only at hm;split at hm
  .next c=>
   obtain⟨f2,e2,e3⟩:=cv hm;cases e3;refine h ρ σ H hd ls E f1 h1 hR hL e1 λρ1 H1 x1 R1=>?_;have q:=hQ (ρ1.take w) H1 (x1.trim (by rw[hR.len];exact hw)) (R1.take w c);cases f1 with
   |nx l=>simp only[Fj,Option.some.injEq]at e2;subst e2;exact λσ' L=>q σ' (L.trim w)
   |bk l=>simp only[Fj,Option.some.injEq]at e2;subst e2;exact λσ' L=>q σ' (L.trim w)
   |ct l=>simp only[Fj,Option.some.injEq]at e2;subst e2;exact λσ' L=>q σ' (L.trim w)
   |rt d=>
    simp only[Fj]at e2;split at e2
    .next c2=>cases e2;exact λv r=>q v (r.take w c2)
    .cases e2
  .cases hm
 .cases hm
def UE{w:Nat}{m:MS}{ls:Ls}{Q:Fl->Hd->Prop}(hw:hd.length<=w)(h:WS m ls hd λf x=>(x.take w).all (clO w)=true/\∃f',Fj w f=some f'/\Q f' (x.take w)):WS (Iq w m) ls hd Q:=by
 obtain⟨f,x,e,c,f',e2,q⟩:=h;exact⟨f',x.take w,by unfold Iq;rw[if_pos hw,e,bind_some];dsimp only;rw[if_pos c,e2];rfl,q⟩
def Gg(m:MS):MS:=λls hd=>Iq hd.length m ls hd
def S8{t:TS}{m:MS}(h:RS K t m):RS K t (Gg m):=λρ σ H hd ls E f hd' hR hL hm hQ=>UV hd.length h ρ σ H hd ls E f hd' hR hL hm hQ
def Pv(K:PySem.W.Frag){X:Cx}{st:List Stmt}{t:TS}{m:MS}(h:QSs K X st t m):QSs K X st t (Gg m):=⟨h.p,S8 h.r⟩
def RU{m:MS}{ls:Ls}{Q:Fl->Hd->Prop}(h:WS m ls hd λf x=>(x.take hd.length).all (clO hd.length)=true/\∃f',Fj hd.length f=some f'/\Q f' (x.take hd.length)):WS (Gg m) ls hd Q:=UE (le_refl _) h
end
mutual
def MX{v w:Nat}(h:v<=w):∀{d:D},clD v d=true->clD w d=true
 |.im i,_=>by simp
 |.mu n,c=>by simp at c ⊢;omega
 |.tm ds,c=>by rw[clD]at c ⊢;exact HB h c
 |.ro ns,_=>by rw[clD]
def HB{v w:Nat}(h:v<=w):∀{ds:List D},BB v ds=true->BB w ds=true
 |[],_=>by simp
 |d::ds,c=>by
  simp only[Qw,Bool.and_eq_true]at c ⊢;exact⟨MX h c.1,HB h c.2⟩
end
def KF{v w:Nat}(h:v<=w):∀{ds:List (Key×D)},FN v ds=true->FN w ds=true
 |[],_=>by simp[FN]
 |d::ds,c=>by
  simp only[FN,Bool.and_eq_true]at c ⊢;exact⟨MX h c.1,KF h c.2⟩
def TV{v w:Nat}(h:v<=w){o:MO}(c:clO v o=true):clO w o=true:=by
 cases o with
 |lst ds=>exact HB h c
 |dic ds=>exact KF h c
section
variable{T:Nat->MO->MO->Prop}{P:List D->Hd->Option (D×Hd)}{a b:MO}{rest:Hd}{ls:Ls}{m:MA}{QE:D->Hd->Prop}
def Tap.callX(t:Tap T P){n c:Nat}(hT:T (n+c) a b)(ex:Hd){w:Nat}{F:List D->Hd->Option (D×Hd)}{as:List D}{hd:Hd}{R:I->Prop}(e:m ls hd=some (.mu 1::as,a::b::(ex++rest)))(hw:w=ex.length+2)(ha:BB w as=true)(hx:ex.all (clO w)=true)
 (hF:∀a b,T (n+c) a b->WF F (.mu 1::as) (a::b::ex) λd x=>∃i a' b' g,d=.im i/\R i/\T n a' b'/\x=a'::b'::(ex++g))
 (k:∀i a' b',T n a' b'->R i->QE (.im i) (a'::b'::(ex++rest))):WE (A9 w F m) ls hd QE:=by
 subst hw;have hcl:∀o,clO 2 o=true->clO (ex.length+2) o=true:=λo h=>TV (by omega) h;obtain⟨d,x,e2,i,a',b',g,rfl,hR,hT',rfl⟩:=hF a b hT;refine⟨_,_,Me (w:=ex.length+2) (ds:=.mu 1::as) (pre:=a::b::ex) (pre':=a'::b'::ex) (rest:=rest) (g:=g) rfl rfl e (by simp[ha]) ?_ ?_ e2,k i a' b' hT' hR⟩
 .simp[hcl _ (t.cl hT).1,hcl _ (t.cl hT).2];simpa using hx
 .simp[hcl _ (t.cl hT').1,hcl _ (t.cl hT').2];simpa using hx
def Tap.call(t:Tap T P){n c:Nat}(hT:T (n+c) a b){F:List D->Hd->Option (D×Hd)}{as:List D}{hd:Hd}{R:I->Prop}(e:m ls hd=some (.mu 1::as,a::b::rest))(ha:BB 2 as=true)
 (hF:∀a b,T (n+c) a b->WF F (.mu 1::as) [a,b] λd x=>∃i a' b' g,d=.im i/\R i/\T n a' b'/\x=a'::b'::g)
 (k:∀i a' b',T n a' b'->R i->QE (.im i) (a'::b'::rest)):WE (A9 2 F m) ls hd QE:=
 t.callX hT [] (w:=2) e rfl ha rfl hF k
end
end L2
namespace Bd
open PySem L2
@[reducible] def ci:MS:=(A8 (AM 2 (mC (.int 0)))
 (A8 (BI (Ak (A0 0)) (Av 2 (AH (AA 3) (AH (AA 4) Aw)))
  (A8 (Aa (AD (mOp gGt (A0 3) (A0 1)))
  (AN (A0 2))
  AS)
 (AM 2 (A0 4))))
 (AN (A0 2))))
def cb:List D->Hd->Option (D×Hd):=mkF 2 5 ci
@[reducible] def cj:MS:=(A8 (AM 2 (mOp gIx (A0 0) (mC (.int 0))))
 (A8 (Aa (AD (mOp gEq (A0 2) (mC (.str "steps"))))
  (AN (A9 0 cb (A2 (mOp gIx (A0 0) (mC (.int 1))) (A2 (A0 1) A4))))
  AS)
 (A8 (Aa (AD (mOp gEq (A0 2) (mC (.str "ends"))))
  (AN (mOp Du (mOp gIx (A0 0) (mC (.int 1))) (A0 1)))
  AS)
 (A8 (AM 3 (mOp BM (A0 1) (mOp gIx (A0 0) (mC (.int 1)))))
 (A8 (Aa (AD (mOp gEq (A0 2) (mC (.str "late"))))
  (AN (A0 3))
  AS)
 (A8 (Aa (AD (mOp gLe (A0 3) (mC (.int 0))))
  (AN (mC (.int 0)))
  AS)
 (A8 (Aa (AD (mOp gEq (A0 2) (mC (.str "tardy"))))
  (AN (mOp Du (mOp gIx (A0 0) (mC (.int 2))) (A0 3)))
  AS)
 (AN (mOp gIx (A0 0) (mC (.int 2)))))))))))
def Rw:List D->Hd->Option (D×Hd):=mkF 2 4 cj
@[reducible] def cf:MS:=(AN (BQ B9 (Ao 2 [] (Fq (Ak (A0 0)) (Ak (A0 1))) (Av 2 (AH (AA 0) (AH (AA 1) Aw))) Bi (A9 0 Rw (A2 (mOp gIx (A0 0) (mC (.int 2))) (A2 (A0 1) A4))))))
def ce:List D->Hd->Option (D×Hd):=mkF 2 2 cf
@[reducible] def ck:MS:=(A8 (AM 3 (A9 0 ce (A2 (A0 0) (A2 (A0 1) A4))))
 (A8 (Aa (AD (mOp gEq (A0 2) (mC (.str "greatest"))))
  (AN (mCB (f1 true FJ) (A2 (A0 3) A4)))
  AS)
 (AN (mCB (f1 true DU) (A2 (A0 3) A4)))))
def F_worth:List D->Hd->Option (D×Hd):=mkF 3 4 ck
@[reducible] def cr:MS:=(A8 (AM 2 (B5 (CY A4)))
 (A8 (AM 3 (mC (.int 0)))
 (A8 (BI (Ak (A0 1)) (AA 4)
  (A8 (EI (mOp gIx (A0 0) (A0 4)) (Av 3 (AH (AA 5) (AH (AA 6) (AH (AA 7) Aw)))))
 (A8 (AM 8 (mCB EW (A2 (A0 6) (A2 (A0 3) A4))))
 (A8 (AM 3 (mOp AY (A0 8) (A0 5)))
 (Bp (mMt BF (A0 2) (A2 (As (A2 (A0 4) (A2 (A0 8) (A2 (A0 3) A4)))) A4)))))))
 (AN (mCB (f1 true B9) (A2 (A0 2) A4))))))
def cm:List D->Hd->Option (D×Hd):=mkF 2 9 cr
@[reducible] def cg:MS:=(A8 (AM 2 (B5 (Ao 1 [] (Ak (A0 0)) (AA 0) Bi (mC (.int 0)))))
 (A8 (BI (Ak (A0 1)) (Av 3 (AH (AA 3) (AH (AA 4) (AH (AA 5) Aw))))
  (ES (A0 2) (A0 3) (A0 5)))
 (AN (mCB (f1 true B9) (A2 (A0 2) A4)))))
def F_ends_of:List D->Hd->Option (D×Hd):=mkF 2 6 cg
structure Tp where
 cells:List Int
 nx:Int
 lf:Int
 tn:Int
def Kl(t:Tp):List (Key×D):=[(.inr "cells",.mu 0),(.inr "next",.im (.int t.nx)),(.inr "left",.im (.int t.lf)),(.inr "turn",.im (.int t.tn))]
def tp(t:Tp):Hd:=[.lst (t.cells.map λi=>.im (.int i)),.dic (Kl t)]
@[simp] theorem bY(t:Tp):(tp t).length=2:=rfl
@[simp] theorem cX(t:Tp)(r:Hd):(tp t++r)[0]?=some (.lst (t.cells.map λi=>.im (.int i))):=rfl
@[simp] theorem cW(t:Tp)(r:Hd):(tp t++r)[1]?=some (.dic (Kl t)):=rfl
@[simp] theorem tp0(t:Tp):(tp t)[0]?=some (.lst (t.cells.map λi=>.im (.int i))):=rfl
@[simp] theorem tp1(t:Tp):(tp t)[1]?=some (.dic (Kl t)):=rfl
section
variable(t:Tp)(v:Int)
@[simp] theorem bZ:(Kl t).length=4:=rfl
end
def Do:∀ns:List Int,I.pys (ns.map I.int)=ns.map PyData.int
 |[]=>by simp[I.pys]
 |n::ns=>by simp[I.pys,I.py,Do ns]
def DZ(ns:List Int):BZ (ns.map λi=>D.im (.int i))=some (ns.map I.int):=by
 have:(ns.map λi=>D.im (.int i))=(ns.map I.int).map D.im:=by rw[map_map];rfl
 rw[this];exact RJ _
def W9(ns:List Int):PyData.eqv (.list (ns.map PyData.int)) (.list [])=decide (ns=[]):=by
 cases ns<;>simp[PyData.eqv,PyData.eqvAll]
def IC(ns:List Int):(PyData.list (ns.map PyData.int)).canLay0=true:=by simp[PyData.canLay0,Hm]
def Fg(ns:List Int)(hd:Hd)(neg:Bool):G5 neg (.list (ns.map PyData.int)) (.list []) hd=some (.im (.bl (if neg then !decide (ns=[])else decide (ns=[]))),hd):=by
 unfold G5;rw[if_pos,W9];refine⟨IC ns,by simp[PyData.canLay0,PyData.canLayAll0],?_⟩;have:(PyData.list []).depth<=1:=by simp[PyData.depth,PyData.depthAll]
 omega
def ER{x:Int}(m:Int)(h:0<m):0<=x%m/\x%m<m:=⟨Int.emod_nonneg _ (by omega),Int.emod_lt_of_pos _ h⟩
def ZI(hd:Hd)(neg:Bool):G5 neg (.list []) (.list []) hd=some (.im (.bl (if neg then false else true)),hd):=by
 have:=Fg [] hd neg;simpa using this
def aM{xs:List Int}(h:xs≠[])(n:Int):∃c,atI (xs.map λi=>D.im (.int i)) (n%(xs.length:Int))=some (.im (.int c)):=by
 have hl:0<xs.length:=D0 h;obtain⟨a,b⟩:=ER (x:=n) (xs.length:Int) (by omega);obtain⟨k,hk⟩:=Int.eq_ofNat_of_zero_le a;have hk':k<xs.length:=by omega
 exact⟨xs[k],Jo hk (by simp[hk'])⟩
def po1:OY 10 18:=by unfold OY;decide
inductive Cost where
 |late (d:Int)|tardy (d w:Int)|miss (d w:Int)|ends (w:Int)|steps (rows:List (Int×Int))
def rowI(r:Int×Int):I:=.tup [.int r.1,.int r.2]
def Cb:Cost->I
 |.late d=>.tup [.str "late",.int d]
 |.tardy d w=>.tup [.str "tardy",.int d,.int w]
 |.miss d w=>.tup [.str "miss",.int d,.int w]
 |.ends w=>.tup [.str "ends",.int w]
 |.steps rows=>.tup [.str "steps",.tup (rows.map rowI)]
def Dj(t:Int):List (Int×Int)->Int->Int
 |[],told=>told
 |(b,a)::r,told=>if t<b then told else Dj t r a
def Cost.at:Cost->Int->Int
 |.late d,t=>t-d
 |.tardy d w,t=>if t-d<=0 then 0 else w*(t-d)
 |.miss d w,t=>if t-d<=0 then 0 else w
 |.ends w,t=>w*t
 |.steps rows,t=>Dj t rows 0
def Cost.wok:Cost->Prop
 |.tardy _ w=>0<=w/\w<=1000000
 |.miss _ w=>0<=w/\w<=1000000
 |.ends w=>0<=w/\w<=1000000
 |_=>True
def n1:¬ (("late":Str)="steps"):=by decide +kernel
def n2:¬ (("tardy":Str)="steps"):=by decide +kernel
def n3:¬ (("miss":Str)="steps"):=by decide +kernel
def n4:¬ (("ends":Str)="steps"):=by decide +kernel
def n5:¬ (("late":Str)="ends"):=by decide +kernel
def n6:¬ (("tardy":Str)="ends"):=by decide +kernel
def n7:¬ (("miss":Str)="ends"):=by decide +kernel
def n8:¬ (("tardy":Str)="late"):=by decide +kernel
def n9:¬ (("miss":Str)="late"):=by decide +kernel
def n10:¬ (("miss":Str)="tardy"):=by decide +kernel
def IS(t:Int)(z:D)(hd:Hd):∀(rows:List (Int×Int)) (told:Int) (x y:Option D),∃fl x' y',Aq (Av 2 (AH (AA 3) (AH (AA 4) Aw))) (A8 (Aa (AD (mOp gGt (A0 3) (A0 1))) (AN (A0 2)) AS) (AM 2 (A0 4))) [] ((rows.map rowI).map .im)
 [some z,some (.im (.int t)),some (.im (.int told)),x,y] hd=some (fl,hd)/\(fl=.rt (.im (.int (Dj t rows told)))∨fl=.nx [some z,some (.im (.int t)),some (.im (.int (Dj t rows told))),x',y'])
 |[],told,x,y=>⟨_,x,y,IB,.inr rfl⟩
 |(b,a)::rows,told,x,y=>by
   by_cases h:t<b
   .refine⟨_,x,y,T4 (ls1:=[some z,some (.im (.int t)),some (.im (.int told)),some (.im (.int b)),some (.im (.int a))]) (by simp[rowI]) (v:=.im (.int told)) (hd2:=hd) ?_,.inl ?_⟩
    .simp[h]
    .simp[Dj,h]
   .obtain⟨fl,x',y',e,q⟩:=IS t z hd rows a (some (.im (.int b))) (some (.im (.int a)));refine⟨fl,x',y',?_,?_⟩
    .rw[<- e];refine Gk (ls1:=[some z,some (.im (.int t)),some (.im (.int told)),some (.im (.int b)),some (.im (.int a))]) (by simp[rowI]) ?_ (AR _);simp[h]
    .simpa [Dj,h]using q
def Ml(rows:List (Int×Int))(t:Int):cb [.im (.tup (rows.map rowI)),.im (.int t)] []=some (.im (.int (Dj t rows 0)),[]):=by
 obtain⟨fl,x',y',e,q⟩:=IS t (.im (.tup (rows.map rowI))) [] rows 0 none none;rcases q with rfl|rfl
 .simp[cb,mkF]at e ⊢;simp[e]
 .simp[cb,mkF]at e ⊢;simp[e]
def P6(c:Cost)(t:Int)(h:c.wok):Rw [.im (Cb c),.im (.int t)] []=some (.im (.int (c.at t)),[]):=by
 cases c with
 |late d=>simp[Rw,mkF,Cb,n1,n5,Cost.at]
 |tardy d w=>
  have b1:∀j,Dw w j:=λj=>DP (by obtain⟨a,b⟩:=h;omega) (by obtain⟨a,b⟩:=h;omega);by_cases q:t-d<=0
  .simp[Rw,mkF,Cb,n2,n6,n8,Cost.at,q]
  .simp[Rw,mkF,Cb,n2,n6,n8,Cost.at,q,b1]
 |miss d w=>
  by_cases q:t-d<=0
  .simp[Rw,mkF,Cb,n3,n7,n9,Cost.at,q]
  .simp[Rw,mkF,Cb,n3,n7,n9,n10,Cost.at,q]
 |ends w=>
  have b1:∀j,Dw w j:=λj=>DP (by obtain⟨a,b⟩:=h;omega) (by obtain⟨a,b⟩:=h;omega);simp[Rw,mkF,Cb,n4,Cost.at,b1]
 |steps rows=>
  have:=F8 (m:=A2 (mOp gIx (A0 0) (mC (.int 1))) (A2 (A0 1) A4)) (ls:=[some (.im (Cb (.steps rows))),some (.im (.int t)),some (.im (.str "steps")),none]) (hd:=[]) (hd1:=[]) (F:=cb) (ds:=[.im (.tup (rows.map rowI)),.im (.int t)]) (by simp[Cb]) (by simp) (Ml rows t);simp[Cb]at this;simp[Rw,mkF,Cb,Cost.at,this]
@[simp high] theorem cV(t:Tp)(x:MO)(r:Hd):(tp t++(x::r))[2]?=some x:=rfl
@[simp high] theorem cU(t:Tp)(x y:MO)(r:Hd):(tp t++(x::y::r))[3]?=some y:=rfl
@[simp high] theorem cT(t:Tp)(x y z:MO)(r:Hd):(tp t++(x::y::z::r))[4]?=some z:=rfl
@[simp high] theorem cD(t:Tp)(x y:MO)(r:Hd):(tp t++(x::r)).set 2 y=tp t++(y::r):=rfl
@[simp high] theorem cC(t:Tp)(x y z:MO)(r:Hd):(tp t++(x::y::r)).set 3 z=tp t++(x::z::r):=rfl
def Cs(w:Nat)(ns:List Int):BB w (ns.map λi=>D.im (.int i))=true:=by induction ns<;>simp_all [BB,clD]
structure Wk where
 len:Int
 com:Int
 cost:Cost
def Cw(w:Wk):I:=.tup [.int w.len,.int w.com,Cb w.cost]
abbrev Ce(ws:List Wk):I:=.tup (ws.map Cw)
end Bd
namespace L2
def MV{α:Type}{n:MG}{c:MT}{m:ME}{g:Gd}{hd:Hd}(hg:GOk hd g)(f:α->D)(k:α->Option D):∀{xs:List α} {ls:Ls} (P:Ls->Prop),P ls ->
 (∀x∈xs,∀ls,P ls->∃ls1,n (f x) ls hd=some ls1/\P ls1/\((k x=none/\c ls1 hd=some (false,hd))∨∃z,k x=some z/\c ls1 hd=some (true,hd)/\m ls1 hd=some (z,hd)))->Ap n c m g (xs.map f) ls hd=some (xs.filterMap k,hd)
 |[],ls,P,h,_=>by unfold Ap;rfl
 |x::r,ls,P,h,q=>by
  obtain⟨ls1,e1,p1,q1⟩:=q x mem_cons_self ls h;have ih:=MV hg f k (xs:=r) (ls:=ls1) P p1 λd hd ls hp=>q d (mem_cons_of_mem _ hd) ls hp;rw[map_cons];unfold Ap;rcases q1 with⟨kn,c1⟩|⟨z,kz,c1,m1⟩
  .simp[e1,c1,hg,ih,kn]
  .simp[e1,c1,m1,hg,ih,kz]
def MW{α:Type}{n:MG}{m:ME}{g:Gd}{hd:Hd}(hg:GOk hd g)(f:α->D)(k:α->D){xs:List α}{ls:Ls}(P:Ls->Prop)(h:P ls)
 (q:∀x∈xs,∀ls,P ls->∃ls1,n (f x) ls hd=some ls1/\P ls1/\m ls1 hd=some (k x,hd)):Ap n Bi m g (xs.map f) ls hd=some (xs.map k,hd):=by
 have:=MV (c:=Bi) hg f (λx=>some (k x)) (xs:=xs) P h λx hx ls hp=>by
  obtain⟨ls1,e1,p1,e2⟩:=q x hx ls hp;exact⟨ls1,e1,p1,.inr ⟨_,rfl,rfl,e2⟩⟩
 rw[this];simp
end L2
namespace Bd
open PySem L2
abbrev DV(es:List Int):I:=.tup (es.map I.int)
def EF(ws:List Wk)(es:List Int):List Int:=List.zipWith (λw e=>w.cost.at e) ws es
def PJ(ws:List Wk)(es:List Int):List.zipWith (λx y=>Ab [x,y]) ((ws.map Cw).map D.im) ((es.map I.int).map D.im)=(List.zip ws es).map λp=>D.im (.tup [Cw p.1,.int p.2]):=by
 induction ws generalizing es with
 |nil=>simp
 |cons w ws ih=>
  cases es with
  |nil=>simp
  |cons e es=>simp only[map_cons,List.zipWith_cons_cons,List.zip_cons_cons,NS,ih]
def P5(ws:List Wk)(es:List Int):(List.zip ws es).map (λp=>p.1.cost.at p.2)=EF ws es:=by
 unfold EF;rw[List.zip_eq_zipWith,List.map_zipWith]
def Nf(ns:List Int):(ns.map λi=>D.im (.int i))=(ns.map I.int).map D.im:=by rw[map_map];rfl
def Io(ns:List Int):Ab (ns.map λi=>D.im (.int i))=.im (DV ns):=by rw[Nf];exact Bz _
def N1(ws:List Wk)(es:List Int)(h:∀w∈ws,w.cost.wok)(hl:ws.length<=1000):ce [.im (Ce ws),.im (DV es)] []=some (.im (DV (EF ws es)),[]):=by
 have hz:Bn (List.zip ws es).length:=Af (by simp;omega);have hc:=MW (hd:=[]) (n:=Av 2 (AH (AA 0) (AH (AA 1) Aw))) (m:=A9 0 Rw (A2 (mOp gIx (A0 0) (mC (.int 2))) (A2 (A0 1) A4))) (AR []) (λp:Wk×Int=>D.im (.tup [Cw p.1,.int p.2])) (λp=>.im (.int (p.1.cost.at p.2))) (xs:=List.zip ws es) (ls:=[none,none]) (λls=>ls.length=2) rfl λp hp ls hls=>by
  match ls,hls with
  |[a,b],_=>
   refine⟨[some (.im (Cw p.1)),some (.im (.int p.2))],by simp,rfl,?_⟩;exact F8 (ds:=[.im (Cb p.1.cost),.im (.int p.2)]) (by simp[Cw]) (by simp) (P6 p.1.cost p.2 (h p.1 (of_mem_zip hp).1))
 have hi:List.map (λp:Wk×Int=>D.im (.int (p.1.cost.at p.2))) (List.zip ws es)=(EF ws es).map λi=>D.im (.int i):=by rw[<- P5,map_map];rfl
 have gk:GOk [] []:=AR [];simp only[ce,mkF,cf,Qi,Ql,Nh,Fq,J7,Fc,map_cons,map_nil,length_cons,length_nil,cons_append,nil_append,List.replicate,Nat.reduceAdd,Nat.reduceSub,if_true,List.getElem?_cons_zero,List.getElem?_cons_succ,bind_some,LK,map_some,gk,PJ,length_map,hz,E4,append_nil];rw[hc,hi];simp[B9,Io]
def aE:¬ (("sum":Str)="greatest"):=by decide +kernel
def PL(ws:List Wk)(es:List Int)(h:∀w∈ws,w.cost.wok)(hl:ws.length<=1000):F_worth [.im (Ce ws),.im (DV es),.im (.str "sum")] []=some (.im (.int (EF ws es).sum),[]):=by
 have e:=F8 (m:=A2 (A0 0) (A2 (A0 1) A4)) (ls:=[some (.im (Ce ws)),some (.im (DV es)),some (.im (.str "sum")),none]) (hd:=[]) (F:=ce) (ds:=[.im (Ce ws),.im (DV es)]) (hd1:=[]) (by simp) (by simp) (N1 ws es h hl);have k:(Az ((EF ws es).map I.int |>.map D.im))=some (EF ws es):=by rw[<- Nf];exact QY _
 simp only[F_worth,mkF,ck,Gq,Fd,map_cons,map_nil,length_cons,length_nil,cons_append,nil_append,List.replicate,Nat.reduceAdd,Nat.reduceSub,if_true];rw[e];simp only[bind_some,Ha,map_some,set_cons_succ,set_cons_zero,ZD,Ng,U7,Fc,List.getElem?_cons_zero,List.getElem?_cons_succ,ZF,W6,ZE,if_true,aE,decide_false,W4,Qi,aK,W7,Qj,U9,BP,DU,k,if_false,Bool.false_eq_true]
def Bh(p:Nat×Int×Int):I:=.tup [.int p.1,.int p.2.1,.int p.2.2]
def DJ(ws:List Wk):List Nat->Int->List (Nat×Int×Int)
 |[],_=>[]
 |k::r,e=>match ws[k]? with
  |some w=>(k,(if e>w.com then e else w.com),(if e>w.com then e else w.com)+w.len)::DJ ws r ((if e>w.com then e else w.com)+w.len)
  |none=>[]
abbrev Cy(ks:List Nat):I:=.tup (ks.map λk:Nat=>.int k)
def Sz{α:Type}(ws:List α):ws.map (λ_=>D.im (.int 0))=(List.replicate ws.length 0).map λi=>D.im (.int i):=by induction ws<;>simp_all [replicate_succ]
abbrev ND:MS:=(A8 (EI (mOp gIx (A0 0) (A0 4)) (Av 3 (AH (AA 5) (AH (AA 6) (AH (AA 7) Aw)))))
 (A8 (AM 8 (mCB EW (A2 (A0 6) (A2 (A0 3) A4))))
 (A8 (AM 3 (mOp AY (A0 8) (A0 5)))
 (Bp (mMt BF (A0 2) (A2 (As (A2 (A0 4) (A2 (A0 8) (A2 (A0 3) A4)))) A4))))))
def LY(ws:List Wk)(o:D):∀(ks:List Nat) (e:Int) (ps:List (Nat×Int×Int)) (a b c d f:Option D),(∀k∈ks,k<ws.length)->ps.length+ks.length<=1000->∃e' a' b' c' d' f',Aq (AA 4) ND [] (ks.map λk:Nat=>.im (.int k))
 [some (.im (Ce ws)),some o,some (.mu 0),some (.im (.int e)),a,b,c,d,f] [.lst (ps.map λp=>.im (Bh p))]=some (.nx [some (.im (Ce ws)),some o,some (.mu 0),e',a',b',c',d',f'],[.lst ((ps++DJ ws ks e).map λp=>.im (Bh p))])
 |[],e,ps,a,b,c,d,f,_,_=>⟨_,a,b,c,d,f,by simp[DJ,IB];rfl⟩
 |k::ks,e,ps,a,b,c,d,f,h,hl=>by
  have hk:=h k mem_cons_self;have hw:ws[k]?=some ws[k]:=by simp[hk]
  generalize ws[k]=w at hw;obtain⟨e',a',b',c',d',f',q⟩:=LY ws o ks ((if e>w.com then e else w.com)+w.len) (ps++[(k,(if e>w.com then e else w.com),(if e>w.com then e else w.com)+w.len)]) (some (.im (.int k))) (some (.im (.int w.len))) (some (.im (.int w.com))) (some (.im (Cb w.cost))) (some (.im (.int (if e>w.com then e else w.com)))) (λk hk=>h k (mem_cons_of_mem _ hk)) (by simp at hl ⊢;omega);refine⟨e',a',b',c',d',f',?_⟩;have hp:F7 ps.length:=Cq (by simp at hl;omega);have at1:atI ((ws.map Cw).map D.im) (k:Int)=some (.im (Cw w)):=Jo rfl (by simp[hw]);rw[show DJ ws (k::ks) e=(k,(if e>w.com then e else w.com),(if e>w.com then e else w.com)+w.len)::DJ ws ks ((if e>w.com then e else w.com)+w.len) by rw[DJ,hw]];rw[append_assoc]at q;rw[List.singleton_append]at q;rw[<- q,map_cons];refine Gk (ls1:=[some (.im (Ce ws)),some o,some (.mu 0),some (.im (.int e)),some (.im (.int k)),b,c,d,f]) rfl ?_ (AR _);simp only[ND,Gq,Fd,U7,Fc,List.getElem?_cons_zero,List.getElem?_cons_succ,bind_some,U8,BP,at1,map_some];simp[Cw,hp,Bh]
def Wp(ws:List Wk)(ks:List Nat)(h:∀k∈ks,k<ws.length)(hl:ks.length<=1000):∃g,cm [.im (Ce ws),.im (Cy ks)] []=some (.im (.tup ((DJ ws ks 0).map Bh)),g):=by
 obtain⟨e',a',b',c',d',f',q⟩:=LY ws (.im (Cy ks)) ks 0 [] none none none none none h (by simpa using hl);have tt:∀ps:List (Nat×Int×Int),Ab (ps.map λp=>D.im (Bh p))=.im (.tup (ps.map Bh)):=λps=>by
  have:(ps.map λp=>D.im (Bh p))=(ps.map Bh).map D.im:=by rw[map_map];rfl
  rw[this];exact Bz _
 have kk:(ks.map λk:Nat=>I.int k).map D.im=ks.map λk:Nat=>D.im (.int k):=by rw[map_map];rfl
 simp only[map_nil,nil_append]at q;refine⟨[.lst ((DJ ws ks 0).map λp=>.im (Bh p))],?_⟩;simp only[cm,mkF,cr,Gq,Fd,Qk,Z8,Qj,ZF,Qm,J7,Fc,map_cons,map_nil,length_cons,length_nil,cons_append,nil_append,List.replicate,Nat.reduceAdd,Nat.reduceSub,if_true,bind_some,CP,Ha,map_some,set_cons_succ,set_cons_zero,List.getElem?_cons_zero,List.getElem?_cons_succ,LK,kk];rw[q];simp[B9,tt]
def EX(es:List Int):List (Nat×Int×Int)->List Int
 |[]=>es
 |p::r=>EX (es.set p.1 p.2.2) r
def KD(w o:D):∀(ps:List (Nat×Int×Int)) (es:List Int) (a b c:Option D),(∀p∈ps,p.1<es.length)->∃a' b' c',Aq (Av 3 (AH (AA 3) (AH (AA 4) (AH (AA 5) Aw)))) (ES (A0 2) (A0 3) (A0 5)) [] (ps.map λp=>.im (Bh p))
 [some w,some o,some (.mu 0),a,b,c] [.lst (es.map λi=>.im (.int i))]=some (.nx [some w,some o,some (.mu 0),a',b',c'],[.lst ((EX es ps).map λi=>.im (.int i))])
 |[],es,a,b,c,_=>⟨a,b,c,IB⟩
 |(k,x,y)::ps,es,a,b,c,h=>by
   obtain⟨a',b',c',q⟩:=KD w o ps (es.set k y) (some (.im (.int k))) (some (.im (.int x))) (some (.im (.int y))) (λp hp=>by simpa using h p (mem_cons_of_mem _ hp));refine⟨a',b',c',?_⟩;have hk:k<es.length:=h _ mem_cons_self;have ix:ixN es.length (k:Int)=some k:=by unfold ixN;rw[if_pos (by omega),if_pos (by omega)];simp
   rw[show EX es ((k,x,y)::ps)=EX (es.set k y) ps from rfl,<- q,map_cons];refine Gk (ls1:=[some w,some o,some (.mu 0),some (.im (.int k)),some (.im (.int x)),some (.im (.int y))]) (by simp[Bh]) ?_ (AR _);simp[ix]
def Oy(ws:List Wk)(ps:List (Nat×Int×Int))(h:∀p∈ps,p.1<ws.length)(hl:ws.length<=1000):∃g,F_ends_of [.im (Ce ws),.im (.tup (ps.map Bh))] []=some (.im (DV (EX (List.replicate ws.length 0) ps)),g):=by
 obtain⟨a',b',c',q⟩:=KD (.im (Ce ws)) (.im (.tup (ps.map Bh))) ps (List.replicate ws.length 0) none none none (λp hp=>by simpa using h p hp);have hz:Bn ws.length:=Af (by omega);have hc:=MW (hd:=[]) (n:=AA 0) (m:=mC (.int 0)) (AR []) (λw:Wk=>D.im (Cw w)) (λ_=>.im (.int 0)) (xs:=ws) (ls:=[none]) (λls=>ls.length=1) rfl λw hw ls hls=>by
  match ls,hls with
  |[a],_=>exact⟨[some (.im (Cw w))],rfl,rfl,rfl⟩
 have hr:=Sz ws;have w1:(ws.map Cw).map D.im=ws.map λw=>D.im (Cw w):=by rw[map_map];rfl
 have p1:(ps.map Bh).map D.im=ps.map λp=>D.im (Bh p):=by rw[map_map];rfl
 rw[hr]at hc;refine⟨[.lst ((EX (List.replicate ws.length 0) ps).map λi=>.im (.int i))],?_⟩;simp only[F_ends_of,mkF,cg,Gq,Fd,Qk,Nh,J7,Fc,Qm,map_cons,map_nil,length_cons,length_nil,cons_append,nil_append,List.replicate,Nat.reduceAdd,Nat.reduceSub,if_true,List.getElem?_cons_zero,List.getElem?_cons_succ,bind_some,LK,map_some,w1,p1,length_map,hz,E4,append_nil,hc,Ha,set_cons_succ,set_cons_zero];rw[q];simp[B9,Io]
def TN(ns:List Int)(lo hi:Option Int):∃cs:List Int,Gz (ns.map λn=>.im (.int n)) lo hi=cs.map λn=>.im (.int n):=⟨(ns.drop _).take _,by unfold Gz;rw[List.map_take,List.map_drop]⟩
abbrev Ge(ks:List Nat):List D:=ks.map λk:Nat=>D.im (.int (k:Int))
def EQ(n:Nat):Ar 0 n=Ge (List.range n):=by
 refine ext_getElem? λi=>?_;by_cases h:i<n
 .rw[Ii h];simp[h]
 .rw[List.getElem?_eq_none (by simp;omega),List.getElem?_eq_none (by simp;omega)]
abbrev intD(xs:List Int):List D:=xs.map λx=>D.im (.int x)
def Qf(xs:List Int):Cp (intD xs)=some (xs.map V.int):=by
 induction xs with
 |nil=>rfl
 |cons x r ih=>simp[Cp,F6]at ih ⊢;exact ih
def T9(x:Int)(xs:List Int):inV (.int x) (xs.map V.int)=decide (x∈xs):=by
 unfold inV
 induction xs with
 |nil=>simp
 |cons y r ih=>
  simp only[map_cons,any_cons,ih,mem_cons];have:eqV (V.int y) (V.int x)=decide (x=y):=by
   unfold eqV;by_cases h:x=y
   .subst h;simp
   .have h':¬ y=x:=λz=>h z.symm;simp[h,h']
  rw[this,Bool.decide_or]
def in_ints{hd:Hd}{d:D}{xs:List Int}(x:Int)(neg:Bool)(h:B3 hd d=some (intD xs)):gIn neg (.im (.int x)) d hd=some (.im (.bl (if neg then !decide (x∈xs)else decide (x∈xs))),hd):=by
 simp only[gIn,F6,bind_some,h,Qf,map_some,T9]
def g1(hd:Hd)(x y:MO):(hd++[x,y])[hd.length+1]?=some y:=by simp
def t1(hd:Hd)(x y z:MO):(hd++[x,y]).set (hd.length+1) z=hd++[x,z]:=by simp
end Bd
namespace L2
open PySem PySem.Spec PyProof.Rows
section
variable{ls:Ls}{hd:Hd}{QE:D->Hd->Prop}{QI:List D×Gd->Hd->Prop}{ma:ME}{n:MG}{ta:MT}{mi:MI}{m:MA}
def PK{d:D}{xs:List Int}{x:Int}{neg:Bool}(e1:B3 hd d=some (Bd.intD xs))(q:QE (.im (.bl (if neg then !decide (x∈xs)else decide (x∈xs)))) hd):WP (gIn neg (.im (.int x)) d hd) QE:=WP.eq (Bd.in_ints x neg e1) q
def ZP{g:Gd}{QA:List D->Hd->Prop}(P:List D->List D->Ls->Hd->Prop){ds:List D}{ls:Ls}{hd:Hd}(h:P ds [] ls hd)
 (k:∀d r es ls hd,P (d::r) es ls hd->∃ls1,n d ls hd=some ls1/\WT ta ls1 hd λc x=>if c=true then WE ma ls1 x λz y=>GOk y g/\P r (es++[z]) ls1 y else GOk x g/\P r es ls1 x)
 (z:∀es ls hd,P [] es ls hd->QA es hd):WP (Ap n ta ma g ds ls hd) QA:=
 (LH P h k).mono λzs x ⟨ls',q⟩=>z zs ls' x (by simpa using q)
def Bc{α:Type}{g:Gd}{QA:List D->Hd->Prop}(inj:α->D)(f:α->Option D)(L:D->Ls->Prop)(l0:Ls){xs:List α}{hd:Hd}(hg:GOk hd g)
 (k:∀x∈xs,∀ls,ls=l0∨(∃d,L d ls)->∃ls1,n (inj x) ls hd=some ls1/\L (inj x) ls1/\WT ta ls1 hd λc y=>y=hd/\if c=true then ∃z,f x=some z/\WE ma ls1 hd λe y=>y=hd/\e=z else f x=none)
 (q:QA (xs.filterMap f) hd):WP (Ap n ta ma g (xs.map inj) l0 hd) QA:=by
 have go:∀(xs':List α) (ls:Ls),(∀x∈xs',x∈xs)->(ls=l0∨∃d,L d ls)->Ap n ta ma g (xs'.map inj) ls hd=some (xs'.filterMap f,hd):=by
  intro xs'
  induction xs' with
  |nil=>intro ls _ _;unfold Ap;rfl
  |cons x r ih=>
   intro ls hs hl;obtain⟨ls1,e1,L1,c,y,e2,rfl,q⟩:=k x (hs x mem_cons_self) ls hl;have ih:=ih ls1 (λz hz=>hs z (mem_cons_of_mem _ hz)) (.inr ⟨_,L1⟩);rw[map_cons];unfold Ap;rw[e1,bind_some,e2,bind_some];cases c with
   |true=>
    rw[if_pos rfl]at q;obtain⟨z,ez,e,y,e3,rfl,rfl⟩:=q;rw[if_pos rfl,e3,bind_some];dsimp only;rw[if_pos hg,ih,filterMap_cons,ez];rfl
   |false=>
    rw[if_neg Bool.false_ne_true]at q;rw[if_neg Bool.false_ne_true];dsimp only;rw[if_pos hg,ih,filterMap_cons,q]
 exact⟨_,_,go xs l0 (λ_ h=>h) (.inl rfl),q⟩
end
section
variable{K:PySem.W.Frag}{ρ ρ':List Addr}{H H':Hp}{hd hd':Hd}
def cZ(neg:Bool)(ma:ME)(ml:MA):ME:=λls hd=>(ma ls hd).bind λp=>(ml ls p.2).bind λq=>match p.1 with
 |.im i=>(F6 i).bind λx=>(Cp q.1).map λxs=>(.im (.bl (if neg then !inV x xs else inV x xs)),q.2)
 |_=>none
open Classical in
def Je(ml:MA)(mb:ME):MA:=λls hd=>(ml ls hd).bind λp=>(mb ls p.2).bind λq=>match q.1 with
 |.im (.int k)=>if(0<=k/\k<=1000)/\Bn (p.1.length*k.toNat)then some ((List.replicate k.toNat p.1).flatten,q.2)else none
 |_=>none
def RDs.rep{ds:List D}{xs:List V}(r:RDs K ρ H ds xs):∀n,RDs K ρ H (List.replicate n ds).flatten (List.replicate n xs).flatten
 |0=>by simp[RDs]
 |n+1=>by
  simp only[replicate_succ,flatten_cons];exact r.app (r.rep n)
def X0{ta tb:TE}{ml:MA}{mb:ME}(ha:RN K ta ml)(hb:RE K tb mb):RN K (tOp SK ta tb) (Je ml mb):=by
 and_intros;obtain⟨⟨d1,h1⟩,e1,hm⟩:=cu hm;obtain⟨⟨d2,h2⟩,e2,hm⟩:=cu hm;dsimp only at hm;split at hm
 .next k=>
  split at hm
  .next c=>
   cases hm;refine ha ρ σ H hd ls _ d1 h1 hR hL e1 λρ1 H1 a xs x1 R1 na oa ea r1=>?_;refine hb ρ1 σ H1 h1 ls _ _ _ R1 (hL.ext hR x1) e2 λρ2 H2 v2 x2 R2 r2=>?_;simp only[RD,RI]at r2;subst r2;have ea2:=x2.keep a _ ea oa nt;refine⟨a,k,xs,rfl,rfl,ea2,by omega,by omega,by rw[r1.len];exact c.2,λp hp=>?_⟩;obtain⟨R3,x3⟩:=R2.hid (ho:=.lst (List.replicate k.toNat xs).flatten) hp;have x12:=x1.trans R1 x2;exact hQ ρ2 _ p _ (x12.trans R2 x3) R3 (x12.none hR hp R2) (R2.out hp) AL (((r1.ext R1 x2).rep k.toNat).ext R2 x3)
  .cases hm
 .cases hm
def Xe(K:PySem.W.Frag){X:Cx}{a b:Expr}{ta tb:TE}{ml:MA}{mb:ME}{pos:Pos}(ha:QN K X a ta ml)(hb:QE K X b tb mb):QN K X (.BinOp a .Mult b pos) (tOp SK ta tb) (Je ml mb):=⟨Kt YY ha.p hb.p,X0 ha.r hb.r⟩
end
abbrev blD(bs:List Bool):List D:=bs.map λb=>D.im (.bl b)
inductive Ty where
 |int|bool|str|tuple|list
 deriving DecidableEq
def Ty.nm:Ty->String
 |.int=>"int" | .bool=>"bool" | .str=>"str" | .tuple=>"tuple" | .list=>"list"
def IsT(K:PySem.W.Frag)(T:Ty)(H:Hp)(v:V)(b:Bool):Prop:=
 (v=.non/\b=false)∨(∃x,v=.bl x/\b=decide (T=.int∨T=.bool))∨(∃i,v=.int i/\b=decide (T=.int))∨(∃x,v=.str x/\b=decide (T=.str)) ∨
 (∃a xs,v=.ref a/\SqL K H a xs/\b=decide (T=.list))∨∃a xs,v=.ref a/\SqT K H a xs/\b=decide (T=.tuple)
section
variable{X:Cx}{pins:List (Addr×Obj)}{σ:St}{H:Hp}{s:Shared}{A:Around}{E:Value->Shared->Prop}{Q:Value->Shared->Prop}
def Yz{T:Ty}{v:V}{u:Value}{b:Bool}(I:Inv X pins σ H s)(r:RelV v u)(h:IsT X.K T H v b)(q:∀tk,Q (.bool b) { s with toks:=tk }):wpAny (model X.prog X.w) A (call (.builtin "isinstance") [u,.type T.nm]) Q E s:=by
 have q0:=q s.toks;have q1:=q (s.toks+1);rcases h with⟨rfl,rfl⟩|⟨x,rfl,rfl⟩|⟨i,rfl,rfl⟩|⟨x,rfl,rfl⟩|⟨a,xs,rfl,hl,rfl⟩|⟨a,xs,rfl,ht,rfl⟩
 .cases(show u=Value.none from r);cases T
  .exact IsiPair.NoneType_int q1
  .exact IsiPair.NoneType_bool q1
  .exact IsiPair.NoneType_str q1
  .exact IsiPair.NoneType_tuple q1
  .exact IsiPair.NoneType_list q1
 .cases(show u=Value.bool x from r);cases T
  .first|exact IsiPair.bool_int q0|exact IsiPair.bool_int q1
  .first|exact IsiPair.bool_bool q0|exact IsiPair.bool_bool q1
  .exact IsiPair.bool_str q1
  .exact IsiPair.bool_tuple q1
  .exact IsiPair.bool_list q1
 .obtain⟨t,rfl⟩:=(show ∃t,u=Value.int i t from r)
  cases T
  .exact IsiPair.int_int q0
  .exact IsiPair.int_bool q1
  .exact IsiPair.int_str q1
  .exact IsiPair.int_tuple q1
  .exact IsiPair.int_list q1
 .obtain⟨t,rfl⟩:=(show ∃t,u=Value.str x t from r)
  cases T
  .exact IsiPair.str_int q1
  .exact IsiPair.str_bool q1
  .exact IsiPair.str_str q0
  .exact IsiPair.str_tuple q1
  .exact IsiPair.str_list q1
 .cases(show u=Value.ref a from r);obtain⟨its,_,⟨o,n,e,c,_,_⟩,_⟩:=I.list hl;cases T
  .exact IsiPair.list_int e c q1
  .exact IsiPair.list_bool e c q1
  .exact IsiPair.list_str e c q1
  .exact IsiPair.list_tuple e c q1
  .exact IsiPair.list_list e c q0
 .cases(show u=Value.ref a from r);obtain⟨its,_,⟨o,e,c,_⟩,_⟩:=I.tuple ht;cases T
  .exact IsiPair.tuple_int e c q1
  .exact IsiPair.tuple_bool e c q1
  .exact IsiPair.tuple_str e c q1
  .exact IsiPair.tuple_tuple e c q0
  .exact IsiPair.tuple_list e c q1
end
def Ro(K:PySem.W.Frag)(T:Ty)(te:TE):TE:=λσ H Q=>te σ H λv H1=>∃b,IsT K T H1 v b/\Q (.bl b) H1
def YS(K:PySem.W.Frag){X:Cx}(T:Ty){e:Expr}{te:TE}{x:Str}{p px pos:Pos}(hm:X.mg "isinstance"=none)(hmT:X.mg x=none)(hvT:bootBuiltins x=some (.type T.nm))(he:PE X e te)
 (hv:bootBuiltins "isinstance"=some (.builtin "isinstance")) (hK:X.K=K) (hg:Gl X "isinstance") (hgT:Gl X x) (hnT:x≠"__name__") (hdT:(x==("__debug__":Str))=false)
 (hs:starEach [e,.Name x px] X.env=[(false,eval e X.env),(false,eval (.Name x px) X.env)]) (hs2:starEach [.Name x px] X.env=[(false,eval (.Name x px) X.env)]):PE X (.Call (.Name "isinstance" p) [e,.Name x px] [] pos) (Ro K T te):=by
 subst hK;intro pins s σ H Q I h;refine wpAny_Call_Name_kw (C7 I hg hm hv ?_);have go:wpAny (model X.prog X.w) X.A (spliced (backTo pos (starEach [e,.Name x px] X.env))) (λvs s₁=>wpAny (model X.prog X.w) X.A (call (.builtin "isinstance") vs) (EP X pins σ Q) X.xe s₁) X.xe s:=by
  rw[hs];show wpAny _ _ (spliced ((false,eval e X.env)::backTo pos [(false,eval (.Name x px) X.env)])) _ _ s;refine Calls.spliced_cons (thn (he pins s σ H _ I h) λu s1 ⟨v,H1,I1,r1,b,ib,q1⟩=>?_);show wpAny _ _ (spliced ((false,eval (.Name x px) X.env)::backTo pos [])) _ _ s1;refine Calls.spliced_cons (C7 I1 hgT hmT hvT ?_ hnT hdT);refine Calls.spliced_nil ?_;exact Yz I1 r1 ib λtk=>⟨.bl b,H1,I1.tok _,rfl,q1⟩
 exact PyProof.Rows.callWith_builtin1 go (by rw[hs,hs2]) (by rw[hs2];rfl)
section
variable{K:PySem.W.Frag}{ρ ρ':List Addr}{H H':Hp}{hd hd':Hd}
def isD(T:Ty)(hd:Hd):D->Option Bool
 |.im .non=>some false
 |.im (.bl _)=>some (decide (T=.int∨T=.bool))
 |.im (.int _)=>some (decide (T=.int))
 |.im (.str _)=>some (decide (T=.str))
 |.im (.tup _)=>some (decide (T=.tuple))
 |.tm _=>some (decide (T=.tuple))
 |.ro _=>some (decide (T=.list))
 |.mu n=>match hd[n]? with
  |some (.lst _)=>some (decide (T=.list))
  |_=>none
def Z0{T:Ty}{d:D}{v:V}{b:Bool}(hR:RH K ρ H hd)(h:RD K ρ H d v)(e:isD T hd d=some b):IsT K T H v b:=by
 cases d with
 |im i=>
  cases i with
  |non=>simp only[RD,RI]at h;subst h;simp only[isD,Option.some.injEq]at e;exact .inl ⟨rfl,e.symm⟩
  |bl c=>simp only[RD,RI]at h;subst h;simp only[isD,Option.some.injEq]at e;exact .inr (.inl ⟨c,rfl,e.symm⟩)
  |int c=>simp only[RD,RI]at h;subst h;simp only[isD,Option.some.injEq]at e;exact .inr (.inr (.inl ⟨c,rfl,e.symm⟩))
  |str c=>simp only[RD,RI]at h;subst h;simp only[isD,Option.some.injEq]at e;exact .inr (.inr (.inr (.inl ⟨c,rfl,e.symm⟩)))
  |tup is=>
   obtain⟨a,xs,rfl,q,r⟩:=h.tup (ds:=is.map .im) rfl;simp only[isD,Option.some.injEq]at e;exact .inr (.inr (.inr (.inr (.inr ⟨a,xs,rfl,q,e.symm⟩))))
 |tm ds=>
  obtain⟨a,xs,rfl,q,r⟩:=h.tup (ds:=ds) rfl;simp only[isD,Option.some.injEq]at e;exact .inr (.inr (.inr (.inr (.inr ⟨a,xs,rfl,q,e.symm⟩))))
 |ro ns=>
  obtain⟨a,xs,rfl,q,r⟩:=h.lst hR (hd:=hd) (ds:=ns.map λn=>.im (.int n)) rfl;simp only[isD,Option.some.injEq]at e;exact .inr (.inr (.inr (.inr (.inl ⟨a,xs,rfl,q,e.symm⟩))))
 |mu n=>
  simp only[isD]at e;split at e
  .next q=>
   cases e;simp only[RD]at h;obtain⟨a,hn,rfl⟩:=h;obtain⟨xs,e1,e2⟩:=hR.lst hn q;exact .inr (.inr (.inr (.inr (.inl ⟨a,xs,rfl,SqL.of e1,rfl⟩))))
  .cases e
def C5(T:Ty)(ma:ME):ME:=λls hd=>(ma ls hd).bind λp=>(isD T p.2 p.1).map λb=>(.im (.bl b),p.2)
def XF{T:Ty}{te:TE}{me:ME}(h:RE K te me):RE K (Ro K T te) (C5 T me):=by
 and_intros;obtain⟨⟨d1,h1⟩,e1,hm⟩:=cu hm;obtain⟨b,e2,e3⟩:=cv hm;cases e3;exact h ρ σ H hd ls _ d1 _ hR hL e1 λρ1 H1 v x1 R1 r1=>⟨b,Z0 R1 r1 e2,hQ ρ1 H1 _ x1 R1 (by simp[RD,RI])⟩
def JE:∀T:Ty,bootBuiltins T.nm=some (.type T.nm)
 |.int=>by decide +kernel
 |.bool=>by decide +kernel
 |.str=>by decide +kernel
 |.tuple=>by decide +kernel
 |.list=>by decide +kernel
def Lk(K:PySem.W.Frag){X:Cx}(T:Ty){e:Expr}{te:TE}{me:ME}{x:Str}{p px pos:Pos}(hm:X.mg "isinstance"=none)(hmT:X.mg x=none)(he:QE K X e te me)(hx:bootBuiltins x=some (.type T.nm):=by first|exact JE .int|exact JE .bool|exact JE .str|exact JE .tuple|exact JE .list)(hK:X.K=K:=by rfl)(hg:Gl X "isinstance":=by rfl)(hgT:Gl X x:=by rfl)
 (hnT:x≠"__name__":=by decide) (hdT:(x==("__debug__":Str))=false:=by decide)
 (hs:starEach [e,.Name x px] X.env=[(false,eval e X.env),(false,eval (.Name x px) X.env)]:=by rfl) (hs2:starEach [.Name x px] X.env=[(false,eval (.Name x px) X.env)]:=by rfl):QE K X (.Call (.Name "isinstance" p) [e,.Name x px] [] pos) (Ro K T te) (C5 T me):=
 ⟨YS K T hm hmT hx he.p Kh hK hg hgT hnT hdT hs hs2,XF he.r⟩
def RDs.ints:∀{ns:List Int} {xs:List V},RDs K ρ H (ns.map λx=>D.im (.int x)) xs->xs=ns.map V.int
 |[],xs,h=>by simpa only[RDs,map_nil]using h
 |n::ns,xs,h=>by
  simp only[map_cons,RDs,RD,RI]at h;obtain⟨x,r,rfl,rfl,t⟩:=h;rw[RDs.ints t];rfl
end
section
variable{ls:Ls}{hd:Hd}{ma mo mi me:ME}{QE:D->Hd->Prop}{QS:Fl->Hd->Prop}
def CM{T:Ty}(h:WE ma ls hd λd x=>∃b,isD T x d=some b/\QE (.im (.bl b)) x):WE (C5 T ma) ls hd QE:=by
 obtain⟨d,x,e,b,e2,q⟩:=h;exact⟨_,_,by simp only[C5,e,bind_some,e2,map_some],q⟩
end
def Rp(neg b:Bool)(ta:TE):TE:=λσ H Q=>ta σ H λx H1=>∃c,x=.bl c/\Q (.bl (if neg then !decide (c=b)else decide (c=b))) H1
section
variable{X:Cx}{a:Expr}{ta:TE}
def T8{M:Model}{A:Around}{E:Value->Shared->Prop}{s:Shared}{Q:Value->Shared->Prop}(c b:Bool)(h:Q (.bool (!decide (c=b))) s):wpAny M A (compareOp .IsNot (.bool c) (.bool b)) Q E s:=by
 cases c<;>cases b<;>exact wpAny_pure h
def Vh{b:Bool}{j pos'}(ha:PE X a ta):PC X .IsNot a (.Constant (.bool b) j pos') (Rp true b ta):=by
 intro pins s σ H Q I h;refine thn (ha pins s σ H _ I h) λv s1 ⟨x,H1,I1,r1,c,ex,q1⟩=>?_;subst ex;cases(show v=Value.bool c from r1);exact Constant_bool (T8 c b ⟨.bl _,H1,I1,rfl,q1⟩)
end
def Jf(neg b:Bool)(ma:ME):ME:=λls hd=>(ma ls hd).bind λp=>match p.1 with
 |.im (.bl c)=>some (.im (.bl (if neg then !decide (c=b)else decide (c=b))),p.2)
 |_=>none
def XG{K:PySem.W.Frag}{neg b:Bool}{ta:TE}{ma:ME}(h:RE K ta ma):RE K (Rp neg b ta) (Jf neg b ma):=by
 and_intros;obtain⟨⟨d1,h1⟩,e1,hm⟩:=cu hm;dsimp only at hm;split at hm
 .cases hm;exact h ρ σ H hd ls _ _ _ hR hL e1 λρ1 H1 v x1 R1 r1=>⟨_,by simpa only[RD,RI]using r1,hQ ρ1 H1 _ x1 R1 (by simp[RD,RI])⟩
 .cases hm
section
variable(K:PySem.W.Frag){X:Cx}{a:Expr}{ta:TE}{ma:ME}{b:Bool}{j:_}{pos pos':Pos}
def Ut{j}(ha:QE K X a ta ma):QT K X (.Compare a [.IsNot] [.Constant (.bool b) j pos'] pos) (tB (Rp true b ta)) (AD (Jf true b ma)):=⟨Ll (Vh ha.p),S7 (XG ha.r)⟩
end
def WX{neg b:Bool}{ma:ME}{ls:Ls}{hd:Hd}{QE:D->Hd->Prop}(h:WE ma ls hd λd x=>∃c,d=.im (.bl c)/\QE (.im (.bl (if neg then !decide (c=b)else decide (c=b)))) x):WE (Jf neg b ma) ls hd QE:=by
 obtain⟨d,x,e,c,rfl,q⟩:=h;exact⟨_,_,by simp only[Jf,e,bind_some],q⟩
structure EAt(h:Heap)(e it l:Addr)(i:Nat):Prop where
 e:∃old,IsEnum h e it i old
 r:h.IsListIter it l i
def Ite(K:PySem.W.Frag)(a:Addr):It:=
 ⟨λi H=>∃xs x,SqL K H a xs/\xs[i]?=some x,
  λi H x H'=>∃p v,H p=none/\H'=upd H p (.tup [.int (i:Int),v])/\x=.ref p/\∀xs,SqL K H a xs->xs[i]?=some v,
  λi H=>∃xs,SqL K H a xs/\xs.length<=i⟩
def PV{P:Program}{w:World}{K:PySem.W.Frag}{elts:List Expr}{kk:Nat}{tpos:Pos}{e it l:Addr}(ne:e≠it):Turn P w K (.Tuple elts kk tpos) (Ite K l) [e,it] e (λi h=>EAt h e it l i) where
 mem:=by simp
 obj:=λi h st c hc=>by
  obtain⟨⟨old,he⟩,hr⟩:=st;simp only[mem_cons,not_mem_nil,or_false]at hc;rcases hc with rfl|rfl
  .exact⟨_,he,λv z=>by cases(show Data.fields _=Data.cell v from z)⟩
  .obtain⟨o,q,_,d⟩:=hr;exact⟨o,q,λv z=>by rw[d]at z;cases z⟩
 keep:=λi h h' st k=>by
  obtain⟨⟨old,he⟩,o,q,r⟩:=st;exact⟨⟨old,k e (by simp) _ he⟩,o,k it (by simp) _ q,r⟩
 item:=by
  intro X hP hw hK hc i pins s σ H E I hf st hg;subst hP hw hK;obtain⟨xs,x,h1,hx⟩:=hg;obtain⟨its,r,pl,hz⟩:=I.list h1;obtain⟨u,hu,ru⟩:=r.get hx;obtain⟨⟨old,he⟩,hr⟩:=st;refine wpAny_pyNext_enum_item he hr pl.isList (x:=u) (by simpa using hu) ne λg ho hr' ht hsz kp=>⟨_,rfl,?_⟩
  refine wpAny_letOwnedTupleGo_enum ho λg' e' sb=>?_;have hle:e<s.heap.objs.size:=Heap.lt_size he;have kp2:∀c o,c∉[e,it]->s.heap.get? c=some o->g'.get? c=some o:=λc o nc q=>by
   simp only[mem_cons,not_mem_nil,or_false,not_or]at nc;exact sb.extBut _ _ nc.1 (kp c o nc.1 nc.2 q)
  have hT:s.heap.objs.size≠e:=ne_of_gt hle;have hpair:g'.get? s.heap.objs.size=some { cls:=.type "tuple",data:=.seq #[.int i s.toks,u] }:=sb.extBut _ _ hT ht;have fresh:H s.heap.objs.size=none:=I.hok.fresh (le_refl _);have I2:Inv X pins σ (upd H s.heap.objs.size (.tup [.int (i:Int),x])) { s with heap:=g',toks:=s.toks+1 }:=I.turnsL (tk:=s.toks+1) (o:=.tup [.int (i:Int),x]) kp2 hf (le_refl _)
   (show ObjOk X.prog X.w _ g' _ (.tup [.int (i:Int),x])from⟨by show 2<=sizeLine;decide,[.int i s.toks,u],.cons ⟨_,rfl⟩ (.cons ru .nil),⟨_,hpair,rfl,⟨_,rfl⟩,rfl⟩⟩)
  refine⟨.ref s.heap.objs.size,_,I2,rfl,⟨s.heap.objs.size,x,fresh,rfl,rfl,λxs' q=>by rw[I.list_inj q h1];exact hx⟩,⟨⟨u,?_⟩,?_⟩,λc hc=>?_⟩
  .have:=e';rw[show((i:Int)+1)=((i+1:Nat):Int) by omega]at this;exact this
  .exact hr'.extBut sb.extBut (Ne.symm ne)
  .have lt:c<s.heap.objs.size:=by
    simp only[mem_cons,not_mem_nil,or_false]at hc;rcases hc with rfl|rfl
    .exact hle
    .obtain⟨o,q,_⟩:=hr;exact Heap.lt_size q
   rw[AE (ne_of_lt lt)];exact(hf c hc).1
 done:=by
  intro X hP hw hK hc i pins s σ H E I hf st hg;subst hP hw hK;obtain⟨xs,h1,hend⟩:=hg;obtain⟨its,r,pl,hz⟩:=I.list h1;have l1':=r.length;obtain⟨⟨old,he⟩,hr⟩:=st;refine wpAny_pyNext_enum_end (show X.A.handled=none from I.ok.hd hc) he hr pl.isList (by simp;omega) λg x=>⟨rfl,?_⟩
  exact I.turns (tk:=s.toks) (λc o nc q=>by
   simp only[mem_cons,not_mem_nil,or_false,not_or]at nc;exact x c o nc.2 q) hf
 self:=λ_ _ _ _ _ st h=>by
  obtain⟨⟨old,he⟩,hr⟩:=st;exact wpAny_pyIter_enum he h
def Ou(K:PySem.W.Frag)(ta:TA):TI:=λσ H R=>ta σ H λvs H1=>∃a xs,vs=[.ref a]/\SqL K H1 a xs/\R (Ite K a) H1
def D2:bootBuiltins "enumerate"=some (.type "enumerate"):=by decide +kernel
section
variable{X:Cx}
def VZ(K:PySem.W.Frag){a:Expr}{ta:TA}{elts:List Expr}{kk:Nat}{tpos p pos:Pos}(hg:Gl X "enumerate")(hm:X.mg "enumerate"=none)(ha:PA X [a] ta)(hK:X.K=K:=by rfl)(hs:starEach [a] X.env=[(false,eval a X.env)]:=by rfl):
 PI X (.Tuple elts kk tpos) (.Call (.Name "enumerate" p) [a] [] pos) (Ou K ta):=by
 subst hK;intro pins s σ H R I h;refine Call_ (C7 I hg hm D2 (PyProof.Rows.callWith_type1 (thn (ha pos pins s σ H _ I h) λus s1 ⟨vs,H1,I1,r1,q1⟩=>?_) hs rfl));obtain⟨l,xs,e,c,q⟩:=q1;subst e;obtain⟨u,rfl,ru⟩:=r1.one;cases ru;obtain⟨its,r,pl,hz⟩:=I1.list c;refine call_enumerate_list pl.isList λg he hr hsz kp=>wpAny_pyIter_enum he ?_;refine⟨_,_,_,_,H1,rfl,I1.kept (t':=s1.toks) kp,PV (ne_of_gt (lt_succ_self _)),⟨⟨_,he⟩,hr⟩,λc hc=>?_,q⟩;simp only[mem_cons,not_mem_nil,or_false]at hc;have le:s1.heap.objs.size<=c:=by
  rcases hc with rfl|rfl
  .exact le_add_right _ _
  .exact le_refl _
 exact I1.fpOk le (I1.hok.fresh le)
end
section
variable{K:PySem.W.Frag}
def BY(ma:MI):MI:=λls hd=>(ma ls hd).map λp=>((p.1.1.zipIdx.map λq=>Ab [.im (.int (q.2:Int)),q.1],p.1.2),p.2)
def Ud{ta:TE}{ma:MI}(ha:RRw K false ta ma):RIt K (Ou K (Ax ta BG)) (BY ma):=by
 intro ρ σ H hd ls Q d g hd' hR hL hm hQ;obtain⟨⟨⟨d1,g1⟩,h1⟩,e1,e2⟩:=cv hm;cases e2;refine ha ρ σ H hd ls _ d1 g1 h1 hR hL e1 λρ1 H1 a x1 R1 G1 S1=>?_;obtain⟨xs,c1,r1⟩:=S1 ρ1 H1 _ .refl R1 G1;refine⟨a,xs,rfl,c1,hQ ρ1 H1 _ x1 R1 G1 ?_⟩;intro ρ3 H3 hd3 x3 R3 G3 i;obtain⟨xs,c1,r1⟩:=S1 ρ3 H3 _ x3 R3 G3;have l1:=r1.len;refine⟨λhi=>?_,λhi=>⟨xs,c1,?_⟩⟩
 .have hi:i<d1.length:=by simpa using hi
  have i1:d1[i]?=some (d1[i]'hi):=List.getElem?_eq_getElem _;obtain⟨x,x4,x5⟩:=r1.get i1;refine⟨⟨xs,x,c1,x4⟩,λz H4 hz=>?_⟩;obtain⟨p,v,fp,rfl,rfl,hv⟩:=hz;have ev:=hv xs c1;rw[x4]at ev;cases ev;obtain⟨R4,x6⟩:=R3.hid (ho:=.tup [.int (i:Int),x]) fp;refine⟨ρ3,Ab [.im (.int (i:Int)),d1[i]'hi],x6,rfl,R4,?_,BS (SqT.of AL) (.cons (by simp[RD,RI]) (.cons (x5.ext R3 x6) .nil))⟩;simp[i1]
 .have hi:i=d1.length:=by simpa using hi
  omega
def VA(K:PySem.W.Frag){X:Cx}{a:Expr}{ta:TE}{ma:MI}{elts:List Expr}{kk:Nat}{tpos p pos:Pos}(hm:X.mg "enumerate"=none)(ha:QR K false X a ta ma)(hg:Gl X "enumerate":=by rfl)(hK:X.K=K:=by rfl)(hs:starEach [a] X.env=[(false,eval a X.env)]:=by rfl):
 QI K X (.Tuple elts kk tpos) (.Call (.Name "enumerate" p) [a] [] pos) (Ou K (Ax ta BG)) (BY ma):=⟨VZ K hg hm (BH ha.p By hs) hK hs,Ud ha.r⟩
def C3{ma:MI}{ls:Ls}{hd:Hd}{QI:List D×Gd->Hd->Prop}(h:WI ma ls hd λp x=>QI (p.1.zipIdx.map λq=>Ab [.im (.int (q.2:Int)),q.1],p.2) x):WI (BY ma) ls hd QI:=by
 obtain⟨p,x,e,q⟩:=h;exact⟨_,_,by simp only[BY,e,map_some],q⟩
end
section
variable{X:Cx}
def WG{prog:Program}{w:World}{A:Around}{E:Value->Shared->Prop}{s:Shared}{t b:Addr}{vs ws:List Value}{Q:Value->Shared->Prop}(ht:IsTup s.heap t vs.toArray)(hb:IsTup s.heap b ws.toArray)(hv:vs=[])
 (h1:Q (.ref b) s):wpAny (model prog w) A (binaryOp .Add (.ref t) (.ref b)) Q E s:=by
 obtain⟨⟨cls,dd,data,sl⟩,ho,hc,n,hd⟩:=id ht;obtain⟨⟨cls2,dd2,data2,sl2⟩,ho2,hc2,n2,hd2⟩:=id hb;simp only at hc hd hc2 hd2;subst hc hd hc2 hd2;exact concat_meets ⟨_,ho,rfl⟩ ⟨_,ho2,rfl⟩ noFill_tuple_add seq_tuple_add PySem.F.slot_tuple_add PySem.F.entry_tuple_add (PySem.F.args_tuple_add_2 _ _)
  (tuple_addW0 t b vs.toArray ws.toArray n n2 dd dd2 sl sl2 (by simp[hv])) ⟨ho,ho2,h1⟩
def Tv(K:PySem.W.Frag):R2:=λx y H Q=>∃a b ys,x=.ref a/\y=.ref b/\SqT K H a []/\SqT K H b ys/\Q (.ref b) H
def Vl(K:PySem.W.Frag)(hK:X.K=K:=by rfl):OpR X (binaryOp .Add) (Tv K):=by
 subst hK;intro pins s σ H x y v u Q I rx ry h;obtain⟨a,b,ys,rfl,rfl,ha,hb,q⟩:=h;cases rx;cases ry;obtain⟨its,r1,p1,_⟩:=I.tuple ha;obtain⟨its2,r2,p2,_⟩:=I.tuple hb;have:its=[]:=by cases r1;rfl
 exact WG p1 p2 this ⟨.ref b,H,I,rfl,q⟩
def HY:D->D->Hd->Option (D×Hd):=λd e hd=>(Ae d).bind λa=>(Ae e).bind λb=>if a=[]then some (Ab b,hd)else none
def Uo{K:PySem.W.Frag}:RB K (Tv K) HY:=by
 intro ρ H hd d e v u Q z hd' hR h1 h2 hf hQ;unfold HY at hf;obtain⟨a,e1,hf⟩:=cu hf;obtain⟨b,e2,hf⟩:=cu hf;split at hf
 .next c=>
  cases hf;subst c;obtain⟨p,xs,rfl,q1,r1⟩:=h1.tup e1;obtain⟨p2,ys,rfl,q2,r2⟩:=h2.tup e2;have:xs=[]:=by simpa [RDs]using r1
  subst this;exact⟨p,p2,ys,rfl,rfl,q1,q2,hQ ρ H _ .refl hR (BS q2 r2)⟩
 .cases hf
end
section
variable{prog:Program}{w:World}{A:Around}{E:Value->Shared->Prop}{s:Shared}
def Hl{l:Addr}{vs:List Value}{Q:List Value->Shared->Prop}(hl:IsTup s.heap l vs.toArray)
 (h:Q vs { s with heap:=(s.heap.push (seqObj "list" #[] 0)).update s.heap.objs.size (Obj.mapSeq (·++vs.toArray)) }) (hsz:vs.length<=sizeLine:=by size_fits):
 wpAny (model prog w) A (collect (.ref l)) Q E s:=by
 obtain⟨o,ho,hc,n,hd⟩:=id hl;unfold collect;refine wpAny_bind (wpAny_runValue (codeAny_builtin entry_proto_collect' ?_));show wpAny _ _ (do again (.builtin "list.__iadd__" ⟨[<- newList [],.ref l],[]⟩)) _ _ s;refine wpAny_bind (wpAny_newList (wpAny_pure ⟨Code.quiet_builtin _ (by decide +kernel),codeAny_builtin entry_list_iadd' ?_⟩));show wpAny _ _ (Builtin.List.listExtendWith (.ref s.heap.objs.size) (.ref l) (.ref s.heap.objs.size)) _ _ { s with heap:=s.heap.push (seqObj "list" #[] 0) };unfold Builtin.List.listExtendWith;have ho':(s.heap.push (seqObj "list" #[] 0)).get? l=some o:=Heap.get?_push_of_some _ ho;refine wpAny_bind (wpAny_typeOf (T:="tuple") ⟨o,ho',hc⟩ ?_);have ht:(Value.type "tuple"==Value.type "tuple")=true:=by rfl
 rw[if_pos (by rw[ht];simp)];refine wpAny_bind (listItems_at ho' hd ?_);refine wpAny_bind (listItems_at (xs:=#[]) (n:=0) (Heap.get?_push_size _ rfl) rfl ?_);rw[if_neg (by simp)];refine wpAny_bind (listUpdate_at (xs:=#[]) (n:=0) (Heap.get?_push_size _ rfl) rfl ?_ (zero_le _) (by show(#[]++vs.toArray).size<=sizeLine+1;simp only[Array.size_append,size_toArray,length_nil];omega));refine wpAny_pure ?_;show wpAny (model prog w) A (do
  let o <- load s.heap.objs.size
  match o.data with
  |.seq xs _=>pure xs.toList
  | _=>unsupported "internal:collect") Q E { s with heap:=(s.heap.push (seqObj "list" #[] 0)).update s.heap.objs.size (Obj.mapSeq (·++vs.toArray)) }
 refine wpAny_bind (wpAny_load (get?_update_seq (Heap.get?_push_size _ rfl) _) ?_);show wpAny _ _ (pure ((#[]:Array Value)++vs.toArray).toList) Q E _;rw[show((#[]:Array Value)++vs.toArray).toList=vs by simp];exact wpAny_pure h
def LP{l:Addr}{vs:List Value}{ns:List Int}{Q:Value->Shared->Prop}(hl:IsTup s.heap l vs.toArray)(hI:IntsAre vs ns)(h64:vs.length<64)
 (h:∀(out:Array Value) (ns':List Int),IntsAre out.toList ns'->ns'.Perm ns->ns'.Pairwise (·<=·)->Q (.ref (s.heap.objs.size+1)) { s with heap:=sortedAll s.heap vs out }):
 wpAny (model prog w) A (call (.builtin "sorted") [.ref l]) Q E s:=by
 refine Calls.call_function_entry kind_sorted plain_sorted entry_sorted (args_sorted1 _) ?_;unfold Builtin.«sorted»;refine wpAny_bind (m:=checkCount "sorted" 1 1 _) (wpAny_pure ?_);refine wpAny_bind (Hl hl ?_);refine wpAny_bind (wpAny_newList ?_);have hsz:((s.heap.push (seqObj "list" #[] 0)).update s.heap.objs.size (Obj.mapSeq (·++vs.toArray))).objs.size=s.heap.objs.size+1:=by
  rw[Heap.size_update,size_push']
 have hoL:(((s.heap.push (seqObj "list" #[] 0)).update s.heap.objs.size (Obj.mapSeq (·++vs.toArray))).push (seqObj "list" vs.toArray 0)).get? (s.heap.objs.size+1)=some (seqObj "list" vs.toArray 0):=by
  rw[<- hsz];exact Heap.get?_push_size _ rfl
 show wpAny _ _ _ _ _ { s with heap:=((s.heap.push (seqObj "list" #[] 0)).update s.heap.objs.size (Obj.mapSeq (·++vs.toArray))).push (seqObj "list" vs.toArray 0) };rw[hsz];refine wpAny_bind (wpAny_holding (wpAny_call_entry slot_list_sort ⟨_,hoL,rfl⟩ entry_list_sort (list_sort_tree hoL hI h64 λout ns' a1 a2 a3=>⟨_,rfl,?_⟩) (args_list_sort _)));exact wpAny_pure ⟨_,rfl,h out ns' a1 a2 a3⟩
end
section
variable(K:PySem.W.Frag){X:Cx}
def Hu:List V->Hp->VK->Prop:=λxs H Q=>∃(a:Addr) (ns:List Int),xs=[.ref a]/\SqT K H a (ns.map V.int)/\ns.length<64/\∀(p:Addr) (ns':List Int),H p=none->ns'.Perm ns->ns'.Pairwise (·<=·)->Q (.ref p) (upd H p (.lst (ns'.map V.int)))
def MZ(hK:X.K=K:=by rfl):CallR X (.builtin "sorted") (Hu K):=by
 subst hK;intro pins s σ H xs us Q I r h;obtain⟨a,ns,rfl,hq,h64,q⟩:=h;obtain⟨u,rfl,ru⟩:=C8 r;cases ru;obtain⟨its,rv,p,hz⟩:=I.tuple hq;have hlen:=rv.length;rw[length_map]at hlen;refine LP p (Dt rv) (by omega) λout ns' a1 a2 a3=>?_;obtain⟨e,he⟩:=sortedAll_at s.heap its out;have hl':ns'.length=ns.length:=a2.length_eq;refine⟨.ref (s.heap.objs.size+1),_,I.laid (a:=s.heap.objs.size+1) (o:=.lst (ns'.map V.int)) (t':=s.toks) (λb o hb=>sortedAll_old hb) (le_succ _) ⟨?_,out.toList,e,JH a1,he⟩,rfl,q _ _ (I.hok.fresh (le_succ _)) a2 a3⟩;rw[length_map,hl'];exact le_of_lt (GR (by omega))
end
section
variable{K:PySem.W.Frag}
def OL{t:TE}{m:MI}(h:RRw K true t m):RN K (tCB (Hu K) (Ax t BG)) (C4 m):=by
 and_intros;obtain⟨⟨⟨d1,g1⟩,h1⟩,e1,hm⟩:=cu hm;obtain⟨ns,e2,hm⟩:=cu hm;split at hm
 .next c=>
  cases hm;refine h ρ σ H hd ls _ d1 g1 _ hR hL e1 λρ1 H1 a x1 R1 G1 S1=>?_;obtain⟨xs,q,r⟩:=S1 ρ1 H1 _ .refl R1 G1;have e3:d1=ns.map λi=>.im (.int i):=Cn e2;rw[e3]at r;have:=FR r;subst this;refine⟨a,ns,rfl,q,c,λp ns' hp pm pw=>?_⟩;have:ns'=B4 ns:=FU (pm.trans (Bx ns).symm) pw (Ci ns);subst this;obtain⟨R2,x2⟩:=R1.hid (ho:=.lst ((B4 ns).map V.int)) hp;exact hQ ρ1 _ p _ (x1.trans R1 x2) R2 (x1.none hR hp R1) (R1.out hp) AL Ds
 .cases hm
def OV(K:PySem.W.Frag){X:Cx}{e:Expr}{te:TE}{mi:MI}{p pos:Pos}(hm:X.mg "sorted"=none)(ha:QR K true X e te mi)(hg:Gl X "sorted":=by rfl)(he:starEach [e] X.env=[(false,eval e X.env)]:=by rfl)(hK:X.K=K:=by rfl):QN K X (.Call (.Name "sorted" p) [e] [] pos) (tCB (Hu K) (Ax te BG)) (C4 mi):=
 ⟨Eo (MZ K hK) hg hm FA (BH ha.p By he) (by decide) (by decide) he rfl,OL ha.r⟩
end
end L2
namespace L2
abbrev Ox:=G4 AY HY
end L2
namespace L2
open PySem PySem.Spec PyProof.Rows PySem.W
inductive KeysOk(h:Heap):List Value->List Int->Prop
 |kI {ks:List Value} {kz:List Int}:IntsAre ks kz->KeysOk h ks kz
 |kP {ks:List Value} {ps:List (Int×Int)}:ks.length=ps.length->(∀(i:Nat) (v:Value) (p:Int×Int),ks[i]?=some v->ps[i]?=some p->PairAt h v p)->(∀p∈ps,pok p)->KeysOk h ks (ps.map Ac)
def KeysOk.len{h:Heap}{ks:List Value}{kz:List Int}(K:KeysOk h ks kz):kz.length=ks.length:=by
 cases K with
 |kI i=>have:=i.length;omega
 |kP hl _ _=>simp[hl]
def Fu:∀{ks:List Value} {kz:List Int} {i:Nat},IntsAre ks kz->i<ks.length->∃t,ks.getD i .none=.int (kz.getD i 0) t
 |_,_,0,.cons ..,_=>⟨_,rfl⟩
 |_,_,i+1,.cons _ _ h,hi=>by
  obtain⟨t,e⟩:=Fu (i:=i) h (by simpa using hi);exact⟨t,by simpa using e⟩
section
variable{prog:Program}{w:World}{A:Around}{E:Value->Shared->Prop}{s:Shared}
def T7{ks:List Value}{kz:List Int}(K:KeysOk s.heap ks kz)(h2:2<=ks.length){Q:SortKind->Shared->Prop}
 (h:∀κ,(∀(i j:Nat) (C:Bool->Shared->Prop),i<ks.length->j<ks.length->C (decide (kz.getD i 0<kz.getD j 0)) s->wpAny (model prog w) A (keyLt' κ (ks.getD i .none) (ks.getD j .none)) C (λ_ _=>False) s)->Q κ s):
 wpAny (model prog w) A (keyKind' ks.toArray) Q E s:=by
 cases K with
 |kI hk=>
  rw[ksk_kind (kz:=kz) (by simpa using hk) (by simpa using h2)];refine wpAny_pure (h _ λi j C hi hj hC=>?_);obtain⟨t,e1⟩:=Fu hk hi;obtain⟨u,e2⟩:=Fu hk hj;rw[e1,e2];exact kat_lt_int hC
 |@kP ps hl hp hok=>
  obtain⟨fs,t1,t2,t3⟩:=JI hl hp;have tT:∀f∈fs,Looks (model prog w) s.heap (typeOf f) (Value.type "int"):=λf hf=>by
   obtain⟨i,t,rfl⟩:=t3 f hf;exact .of_pure rfl
  refine kat_kind t1 (by omega) tT rfl (h _ λi j C hi hj hC=>?_);have pi:ps[i]?=some (ps.getD i (0,0)):=by simp[show i<ps.length by omega]
  have pj:ps[j]?=some (ps.getD j (0,0)):=by simp[show j<ps.length by omega]
  have vi:ks[i]?=some (ks.getD i Value.none):=by simp[hi]
  have vj:ks[j]?=some (ks.getD j Value.none):=by simp[hj]
  have ei:(ps.map Ac).getD i 0=Ac (ps.getD i (0,0)):=by simp[show i<ps.length by omega]
  have ej:(ps.map Ac).getD j 0=Ac (ps.getD j (0,0)):=by simp[show j<ps.length by omega]
  rw[ei,ej]at hC;exact NW (hp i _ _ vi pi) (hp j _ _ vj pj) (hok _ (mem_of_getElem? pi)) (hok _ (mem_of_getElem? pj)) hC
def Vw{vs:List Value}{kz:List Int}(hl:kz.length=vs.length){p:Array Nat}(pa:PAr vs.length p)(hs:STo (λi=>kz.getD i 0) p vs.length):KskOut false kz vs (p.toList.map λi=>vs.getD i Value.none):=by
 have sz:=pa.size;refine⟨p.toList.map λi=>(kz.getD i 0,vs.getD i Value.none),?_,by rw[map_map];rfl,?_⟩
 .have e:kz.zip vs=(List.range vs.length).map λi=>(kz.getD i 0,vs.getD i Value.none):=by
   refine ext_getElem? λi=>?_;by_cases hi:i<vs.length
   .have hi2:i<kz.length:=by omega
    rw[(List.getElem?_zip_eq_some (z:=(kz[i],vs[i]))).mpr ⟨by simp[hi2],by simp[hi]⟩];simp[hi,hi2]
   .rw[List.getElem?_eq_none (by simp;omega),List.getElem?_eq_none (by simp;omega)]
  rw[e];have:=Array.perm_iff_toList_perm.mp pa;simpa using this.map _
 .rw[pairwise_map,List.pairwise_iff_getElem];intro i j hi hj hij;simp only[Array.length_toList]at hi hj;have:=hs i j (by omega) (by omega);unfold kv at this;simpa [Array.getD,hi,hj]using this
def Vx{a kS:Addr}{e e1:Nat}{ks vs:List Value}{kz:List Int}{P:PySem.Fin->Shared->Prop}(nk:s.heap.get? kS=some (seqObj "list" ks.toArray e))(na:s.heap.get? a=some (seqObj "list" #[] e1))(hka:kS≠a)(K:KeysOk s.heap ks kz)(hl:ks.length=vs.length)(h64:vs.length<64)
 (h:∀out:List Value,KskOut false kz vs out->P (.done (.ret .none)) { s with heap:=(s.heap.update kS (Obj.mapSeq λ_=>#[])).update a (Obj.mapSeq λ_=>out.toArray) }):
 wpAny (model prog w) A (ksk_end a false vs.toArray e1 (.ref kS) ks.toArray) P E s:=by
 have hz:kz.length=vs.length:=by have:=K.len;omega
 have s1:=Heap.SameBut.update s.heap kS (Obj.mapSeq λ_=>(#[]:Array Value));have na1:(s.heap.update kS (Obj.mapSeq λ_=>(#[]:Array Value))).get? a=some (seqObj "list" #[] e1):=(s1.2 a hka.symm).trans na;have tail:∀(st:SortSt) (out:List Value),(arrOf st).map (·.2)=out.toArray->out.length=vs.length->failedOf st=none->KskOut false kz vs out->wpAny (model prog w) A (ksk_tail a false e1 (.ref kS) st) P E s:=by
  intro st out ho hlo hf so;unfold ksk_tail;dsimp only;refine wpAny_bind (listUpdate_at nk rfl ?_ (by simp[sizeLine_eq];omega) (zero_le _));refine wpAny_bind (wpAny_letGo ?_);refine wpAny_bind (seqEpoch_at na1 rfl ?_);simp only[Bool.false_eq_true,if_false];rw[ho];refine wpAny_bind (listUpdate_at na1 rfl ?_ (zero_le _) (by rw[size_toArray,sizeLine_eq];omega));rw[hf];simp only[bne_self_eq_false,Bool.false_eq_true,if_false];exact wpAny_pure (h out so)
 unfold ksk_end;simp only[Bool.false_eq_true,if_false];by_cases h2:vs.toArray.size<2
 .rw[if_pos h2,if_pos h2];refine wpAny_bind (wpAny_pure ?_);rw[StateT.run_pure];refine wpAny_bind (wpAny_pure ?_);dsimp only;refine tail _ vs ?_ rfl rfl ⟨kz.zip vs,.refl _,?_,?_⟩
  .show(ks.toArray.zip vs.toArray).map (·.2)=vs.toArray;apply Array.toList_inj.mp;simp only[Array.toList_map,Array.toList_zip];exact map_snd_zip (by omega)
  .exact(map_snd_zip (by omega)).symm
  .have hzl:(kz.zip vs).length<2:=by simp at h2 ⊢;omega
   cases hh:kz.zip vs with
   |nil=>exact .nil
   |cons z r=>
    cases r with
    |nil=>exact List.pairwise_singleton _ _
    |cons y t=>rw[hh]at hzl;exact absurd hzl (by simp)
 .rw[if_neg h2,if_neg h2];have h2':2<=vs.length:=by simp at h2;omega
  refine wpAny_bind (T7 K (by omega) λκ cmp=>?_);have hsz:(ks.toArray.zip vs.toArray).size=vs.length:=by simp[hl]
  have it:∀i,i<vs.length->kas_item (ks.toArray.zip vs.toArray) i=(ks.getD i .none,vs.getD i .none):=λi hi=>by
   unfold kas_item;have h1:i<ks.length:=by omega
   have h3:i<(ks.toArray.zip vs.toArray).size:=by omega
   have e:(ks.toArray.zip vs.toArray).getD i (Value.none,Value.none)=(ks.toArray.zip vs.toArray)[i]:=by simp only[Array.getD,h3,dite_true];rfl
   have e2:(ks.toArray.zip vs.toArray)[i]=(ks[i],vs[i]):=by rw[Array.getElem_zip];simp
   rw[e,e2];simp[h1,hi]
  have est:SortSt.mk' κ (ks.toArray.zip vs.toArray) #[] 7 none=kas_st κ (ks.toArray.zip vs.toArray) (List.toArray (List.range vs.length)):=by
   unfold kas_st;rw[<- hsz,kas_range]
  have ask:(kas_sort vs.length).kasWp (kas_cmp prog w A κ (ks.toArray.zip vs.toArray)) (λp s'=>s'=s/\PAr vs.length p/\STo (λi=>kz.getD i 0) p vs.length) s:=by
   refine PWp.wp (n:=vs.length) (r:=λi=>kz.getD i 0) (P:=λs'=>s'=s) (λi j C s' hi hj e hC=>?_) ((N8 (by omega)).mono λp z s' e=>⟨e,z.1,z.2⟩) rfl;subst e;unfold kas_cmp;rw[it i hi,it j hj];exact cmp i j C (by omega) (by omega) (hC _ rfl)
  have run:=kas_runs (E:=E) (Q:=λ_ st' s'=>∃p:Array Nat,arrOf st'=p.map (kas_item (ks.toArray.zip vs.toArray))/\failedOf st'=none/\s'=s/\PAr vs.length p/\STo (λi=>kz.getD i 0) p vs.length) h2' h64 (λp st' s' x1 x2 x3 x4=>⟨p,x2,x3,x4⟩) ask;rw[<- est]at run;refine wpAny_bind (wpAny_mono run ?_ λ_ _ e=>e);rintro⟨⟨⟩,st'⟩ s' ⟨p,har,hf,rfl,pa,so⟩;dsimp only;refine tail st' (p.toList.map λi=>vs.getD i Value.none) ?_ ?_ hf (Vw hz pa so)
  .rw[har];apply Array.toList_inj.mp;simp only[Array.toList_map,map_map,List.toList_toArray];refine map_congr_left λi hi=>?_;have hi':i<vs.length:=by
    have:=(Array.perm_iff_toList_perm.mp pa).mem_iff.mp hi;simpa using this
   exact congrArg Prod.snd (it i hi')
  .simp[pa.size]
end
def HV(G:Hp->Prop)(tb:TE)(cap:St):List Int->Hp->(List V->Hp->Prop)->Prop
 |[],H,Q=>Q [] H
 |n::r,H,Q=>G H/\tb (some (.int n)::cap) H λk H1=>HV G tb cap r H1 λks H2=>Q (k::ks) H2
def Hc(K:PySem.W.Frag)(H:Hp)(ks:List V)(kz:List Int):Prop:=ks=kz.map V.int∨∃ps:List (Int×Int),kz=ps.map Ac/\(∀p∈ps,pok p)/\ks.length=ps.length/\∀(i:Nat) (k:V) (p:Int×Int),ks[i]?=some k->ps[i]?=some p->∃x,k=.ref x/\SqT K H x [.int p.1,.int p.2]
def IJ(kz ns ms:List Int):Prop:=∃zs:List (Int×Int),zs.Perm (kz.zip ns)/\zs.Pairwise (λa b=>a.1<=b.1)/\ms=zs.map (·.2)
def Dy:Value->Int
 |.int n _=>n
 |_=>0
def MH:∀{vs:List Value} {ns:List Int},IntsAre vs ns->vs.map Dy=ns
 |_,_,.nil=>rfl
 |_,_,.cons _ _ h=>by rw[map_cons,MH h];rfl
def MJ:∀{vs:List Value} {ns:List Int},IntsAre vs ns->∀v∈vs,∃t,v=.int (Dy v) t
 |_,_,.nil,v,h=>by cases h
 |_,_,.cons _ _ h,v,hv=>by
  rcases mem_cons.mp hv with rfl|hv
  .exact⟨_,rfl⟩
  .exact MJ h v hv
def F5:∀{xs:List V} {vs:List Value} {ns:List Int},xs=ns.map V.int->Vals xs vs->IntsAre vs ns
 |_,_,[],e,h=>by subst e;cases h;exact .nil
 |_,_,n::r,e,h=>by
  subst e;cases h with
  |cons a b=>obtain⟨t,rfl⟩:=a;exact .cons n t (F5 rfl b)
def IM:∀{vs:List Value},(∀v∈vs,∃t,v=Value.int (Dy v) t)->Vals ((vs.map Dy).map V.int) vs
 |[],_=>.nil
 |v::r,h=>by
  refine .cons ?_ (IM λw hw=>h w (mem_cons_of_mem _ hw));obtain⟨t,e⟩:=h v mem_cons_self;exact⟨t,e⟩
def Zt{kz ns:List Int}{vs out:List Value}(hi:IntsAre vs ns)(so:KskOut false kz vs out):IJ kz ns (out.map Dy)/\∀v∈out,∃t,v=Value.int (Dy v) t:=by
 obtain⟨zs,pm,rfl,pw⟩:=so;refine⟨⟨zs.map λz=>(z.1,Dy z.2),?_,?_,by rw[map_map,map_map];rfl⟩,?_⟩
 .have:=pm.map λz:Int×Value=>(z.1,Dy z.2)
  have e:((kz.zip vs).map λz:Int×Value=>(z.1,Dy z.2))=kz.zip ns:=by
   rw[<- MH hi,List.zip_map_right];rfl
  rwa [e]at this
 .rw[pairwise_map];exact pw.imp λh=>by simpa using h
 .intro v hv;obtain⟨z,hz,rfl⟩:=mem_map.mp hv;have:=pm.mem_iff.mp hz;exact MJ hi _ (of_mem_zip this).2
section
variable{X:Cx}{pins:List (Addr×Obj)}{σ:St}{H:Hp}{s:Shared}{a:Addr}
def Inv.adopt{o:HO}(I:Inv X pins σ H s)(f:FpOk X pins H a)(h0:X.s₀.heap.objs.size<=a)(new:ObjOk X.prog X.w (upd H a o) s.heap a o):Inv X pins σ (upd H a o) s:=by
 obtain⟨hn,hL,hfs,_,hc,hp⟩:=f;have nb:∀b u,H b=some u->b≠a:=λb u e=>AV e hn;have n0:∀b o,X.s₀.heap.get? b=some o->b≠a:=λb o e=>ne_of_lt (lt_of_lt_of_le (Heap.lt_size e) h0);refine⟨I.ok,I.os,I.bare,⟨I.base.keep,I.base.slot,λb o e n hx=>?_,I.base.there,λb xs e=>?_,λb o u e=>?_,λb ps e=>?_⟩,I.loc,I.cell,?_,λx c e=>?_,λp hp'=>?_,λb u e=>?_,I.len⟩
 .rw[AE (n0 b o e)];exact I.base.free b o e n hx
 .have:=I.base.tups b xs e;rw[AE (nb b _ this)];exact this
 .have:=I.base.frzs b o u e;rw[AE (nb b _ this)];exact this
 .obtain⟨m,e1⟩:=I.base.tbls b ps e;exact⟨m,by rw[AE (nb b _ e1)];exact e1⟩
 .rw[AE (λz=>hL z.symm)];exact I.free
 .rw[AE (hc x c e)];exact I.freeC x c e
 .obtain⟨q1,q2,q3⟩:=I.pin p hp';exact⟨q1,by rw[AE (hp p hp')];exact q2,q3⟩
 .by_cases z:b=a
  .subst z;rw[AL]at e;cases e;exact new
  .rw[AE z]at e;exact(I.hok b u e).stay (λ_ _ _ q=>q) (λd q=>by rw[AE (nb d _ q)];exact q) λd xs q=>by rw[AE (nb d _ q)];exact q
def Vv(I:Inv X pins σ H s){ks:List V}{kz:List Int}{us:List Value}(k:Hc X.K H ks kz)(r:Vals ks us):KeysOk s.heap us kz:=by
 rcases k with rfl|⟨ps,rfl,hok,hl,hp⟩
 .exact .kI (F5 rfl r)
 .refine .kP (by rw[<- r.length];exact hl) (λi v p e1 e2=>?_) hok;have hi:i<ks.length:=by rw[hl];exact(List.getElem?_eq_some_iff.mp e2).1
  have ek:ks[i]?=some ks[i]:=by simp[hi]
  obtain⟨x,ex,sq⟩:=hp i _ p ek e2;obtain⟨v',ev,rel⟩:=Ho r ek;rw[e1]at ev;cases ev;rw[ex]at rel;have rel:v=Value.ref x:=rel;subst rel;obtain⟨jts,rj,⟨o,ho,hc,n,hd⟩,_⟩:=I.tuple sq;cases rj with
  |cons r1 t1=>
   cases t1 with
   |cons r2 t2=>
    cases t2;obtain⟨t,rfl⟩:=r1;obtain⟨t',rfl⟩:=r2;exact⟨x,o,t,t',n,rfl,ho,hc,hd⟩
end
section
variable{X:Cx}{pins:List (Addr×Obj)}{σ:St}{H:Hp}{s:Shared}
def Inv.turn1{b:Addr}{o:Obj}{h':Heap}{t':Nat}(I:Inv X ((b,o)::pins) σ H s)(f:FpOk X pins H b)(hs:Heap.SameBut b s.heap h'):Inv X pins σ H { s with heap:=h',toks:=t' }:=by
 have J:Inv X pins σ H s:=I.pins_of λp hp=>I.pin p (mem_append_right _ (mem_cons_of_mem _ hp));obtain⟨hn,hL,_,h1,h2,h3⟩:=f;exact J.turned (λc u n e=>(hs.2 c n).trans e) hn hL h1 h2 h3
def FpOk.more{b c:Addr}{o:Obj}(f:FpOk X pins H b)(h:c≠b):FpOk X ((c,o)::pins) H b:=by
 obtain⟨a1,a2,a3,a4,a5,a6⟩:=f;refine⟨a1,a2,a3,a4,a5,λp hp=>?_⟩;rcases mem_append.mp hp with q|q
 .exact a6 p (mem_append_left _ q)
 .rcases mem_cons.mp q with rfl|q
  .exact h
  .exact a6 p (mem_append_right _ q)
def Inv.repin{b:Addr}{o:Obj}(I:Inv X pins σ H s)(f:FpOk X pins H b)(e:s.heap.get? b=some o)(hd:∀v,o.data≠.cell v):Inv X ((b,o)::pins) σ H s:=
 I.pins_of λp hp=>by
  rcases mem_cons.mp hp with rfl|hp
  .exact⟨e,f.1,f.2.1,f.2.2.1,hd⟩
  .exact I.pin p (mem_append_right _ hp)
def O9{l:Value}{f:Addr}{ns:List Int}{G:Hp->Prop}{tb:TE}{cap:St}{Q:VK}{E:Value->Shared->Prop}(I:Inv X pins σ H s)(h64:ns.length<64)
 (hcol:∀(Q:List Value->Shared->Prop) (E:Value->Shared->Prop),(∀(g:Heap) (tk:Nat) (vs:List Value),(∀b o,s.heap.get? b=some o->g.get? b=some o)->IntsAre vs ns->Q vs { s with heap:=g,toks:=tk })->wpAny (model X.prog X.w) X.A.in1 (collect l) Q E s)
 (turn:∀(pins':List (Addr×Obj)) (H1:Hp) (s1:Shared) (n:Int) (u:Value) (Q1:VK),(∀p∈pins,p∈pins')->Inv X pins' σ H1 s1->RelV (.int n) u->G H1->tb (some (.int n)::cap) H1 Q1->wpAny (model X.prog X.w) X.A.in1.in1 (call (.ref f) [u]) (EP X pins' σ Q1) (λ_ _=>False) s1)
 (h:HV G tb cap ns H λks H3=>∃kz,Hc X.K H3 ks kz/\∀p ms,H3 p=none->IJ kz ns ms->Q (.ref p) (upd H3 p (.lst (ms.map V.int)))):
 wpAny (model X.prog X.w) X.A (call (.builtin "sorted") [l] [(Str.ofString "key",.ref f)]) (EP X pins σ Q) E s:=by
 refine call_function_entry_kw kind_sorted plain_sorted entry_sorted (ksk_s1 _ _) ?_;unfold Builtin.«sorted»;refine wpAny_bind (m:=checkCount "sorted" 1 1 _) (wpAny_pure ?_);refine wpAny_bind (hcol _ _ λg tk vs keep0 hi=>?_)
 replace I:Inv X pins σ H { s with heap:=g,toks:=tk }:=I.kept (t':=tk) keep0
 clear hcol;generalize { s with heap:=g,toks:=tk }=s at I ⊢;clear keep0 g tk;have line:vs.length<=sizeLine:=by have:=hi.length;rw[sizeLine_eq];omega
 have h64:vs.length<64:=by have:=hi.length;omega
 refine wpAny_bind (wpAny_newList ?_ line);show wpAny _ _ _ _ _ { s with heap:=s.heap.push (seqObj "list" vs.toArray 0) };have hoL:(s.heap.push (seqObj "list" vs.toArray 0)).get? s.heap.objs.size=some (seqObj "list" vs.toArray 0):=Heap.get?_push_size _ rfl;have keep1:∀b o,s.heap.get? b=some o->(s.heap.push (seqObj "list" vs.toArray 0)).get? b=some o:=λb o q=>Heap.get?_push_of_some _ q;have sz1:(s.heap.push (seqObj "list" vs.toArray 0)).objs.size=s.heap.objs.size+1:=by rw[size_push']
 generalize s.heap.push (seqObj "list" vs.toArray 0)=h1 at hoL keep1 sz1 ⊢;have fa:∀H',H' s.heap.objs.size=none->FpOk X pins H' s.heap.objs.size:=λH' hn=>I.fpOk (le_refl _) hn;have fk:∀H',H' (s.heap.objs.size+2)=none->FpOk X pins H' (s.heap.objs.size+2):=λH' hn=>I.fpOk (by omega) hn;refine wpAny_bind (wpAny_holding (wpAny_call_entry_kw slot_list_sort ⟨_,hoL,rfl⟩ entry_list_sort ?_ (ksk_l1 _ _)));show wpAny (model X.prog X.w) X.A.in1.in1 (Builtin.«list.sort» ⟨[.ref (s.heap.objs.size)],[(Str.ofString "key",.ref f)]⟩) _ _ _;rw[ksk_t1];have u1:=Heap.SameBut.update h1 (s.heap.objs.size) (Obj.mapSeq λ_=>(#[]:Array Value));obtain⟨e1,ho1⟩:∃e1,(h1.update (s.heap.objs.size) (Obj.mapSeq λ_=>(#[]:Array Value))).get? (s.heap.objs.size)=some (seqObj "list" #[] e1):=⟨_,get?_update_seq hoL λ_=>#[]⟩
 have sz2:(h1.update (s.heap.objs.size) (Obj.mapSeq λ_=>(#[]:Array Value))).objs.size=s.heap.objs.size+1:=by rw[Heap.size_update,sz1]
 have keep2:∀b o,s.heap.get? b=some o->(h1.update (s.heap.objs.size) (Obj.mapSeq λ_=>(#[]:Array Value))).get? b=some o:=λb o q=>(u1.2 b (ne_of_lt (Heap.lt_size q))).trans (keep1 b o q);unfold ksk_tree;refine wpAny_bind (listItems_at hoL rfl ?_);refine wpAny_bind (listUpdate_at hoL rfl ?_ (by rw[size_toArray,sizeLine_eq];omega) (zero_le _));refine wpAny_bind (seqEpoch_at ho1 rfl ?_);generalize h1.update (s.heap.objs.size) (Obj.mapSeq λ_=>(#[]:Array Value))=h2 at ho1 sz2 keep2 ⊢;refine wpAny_bind (wpAny_newTuple ?_ (by show vs.length<=_;exact line));refine wpAny_bind (wpAny_newList ?_ (zero_le _));have sz3:(h2.push (seqObj "tuple" vs.toArray 0)).objs.size=s.heap.objs.size+2:=by rw[size_push',sz2]
 have okS:((h2.push (seqObj "tuple" vs.toArray 0)).push (seqObj "list" #[] 0)).get? (s.heap.objs.size+2)=some (seqObj "list" #[] 0):=by rw[<- sz3];exact Heap.get?_push_size _ rfl
 have oa4:((h2.push (seqObj "tuple" vs.toArray 0)).push (seqObj "list" #[] 0)).get? (s.heap.objs.size)=some (seqObj "list" #[] e1):=Heap.get?_push_of_some _ (Heap.get?_push_of_some _ ho1);have keep4:∀b o,s.heap.get? b=some o->((h2.push (seqObj "tuple" vs.toArray 0)).push (seqObj "list" #[] 0)).get? b=some o:=λb o q=>Heap.get?_push_of_some _ (Heap.get?_push_of_some _ (keep2 b o q));have ekS:∀o:Obj,Value.ref ((({ s with heap:=h2.push o }:Shared)).heap.objs.size)=Value.ref (h2.push o).objs.size:=λ_=>rfl;refine wpAny_holding ?_;have goal:∀kS:Addr,kS=s.heap.objs.size+2->wpAny (model X.prog X.w) X.A.in1.in1 (ksk_rest (s.heap.objs.size) (.ref f) false vs.toArray e1 (.ref kS)) (λfin s'=>∃v,fin=PySem.Fin.done (.ret v)/\wpAny (model X.prog X.w) X.A.in1 (ret (.ref (s.heap.objs.size))) (λfin s'=>∃v,fin=PySem.Fin.done (.ret v)/\EP X pins σ Q v s') E s') E { s with heap:=(h2.push (seqObj "tuple" vs.toArray 0)).push (seqObj "list" #[] 0) }:=by
  intro kS ek;rw[ek];have fresh0:H (s.heap.objs.size)=none/\H (s.heap.objs.size+2)=none:=⟨I.hok.fresh (by omega),I.hok.fresh (by omega)⟩
  have I4:Inv X pins σ H { s with heap:=(h2.push (seqObj "tuple" vs.toArray 0)).push (seqObj "list" #[] 0) }:=I.kept (t':=s.toks) keep4;have nak:s.heap.objs.size≠s.heap.objs.size+2:=by omega
  have I5:=(I4.repin (fk H fresh0.2) okS (λv z=>by cases z)).repin ((fa H fresh0.1).more nak.symm) oa4 (λv z=>by cases z);unfold ksk_rest;refine wpAny_bind (wpAny_rule ?_)
  first
   |rw[List.forIn_toArray]
   |(rw[<- Array.forIn_toList];simp only[List.toList_toArray])
   |rw[<- Array.forIn_toList]
  refine wpAny_bind (ksk_fold (λi s'=>∃(H':Hp) (kA:Array Value) (e:Nat) (ks:List V),Inv X ((s.heap.objs.size,seqObj "list" #[] e1)::(s.heap.objs.size+2,seqObj "list" kA e)::pins) σ H' s'/\Vals ks kA.toList/\kA.size=i /\
   HV G tb cap (ns.drop i) H' λks' H3=>∃kz,Hc X.K H3 (ks++ks') kz/\∀p ms,H3 p=none->IJ kz ns ms->Q (.ref p) (upd H3 p (.lst (ms.map V.int)))) vs 0 _ ⟨H,#[],0,[],I5,.nil,rfl,h⟩ ?step ?done)
  case step=>
   rintro j x s' hx ⟨H',kA,e,ks,J,rk,hsz,hgo⟩;simp only[zero_add]at hsz hgo ⊢;have hj:j<vs.length:=(List.getElem?_eq_some_iff.mp hx).1;have hjn:j<ns.length:=by have:=hi.length;omega
   have enx:ns[j]?=some ns[j]:=by simp[hjn]
   have edr:ns.drop j=ns[j]::ns.drop (j+1):=List.drop_eq_getElem_cons hjn;rw[edr]at hgo;obtain⟨hG,hgo⟩:=hgo;have rx:RelV (.int ns[j]) x:=by
    obtain⟨t,et⟩:=Fu hi hj;have:vs.getD j .none=x:=by simp[List.getD,hx]
    rw[this]at et;have:ns.getD j 0=ns[j]:=by simp[hjn]
    rw[this]at et;exact⟨t,et⟩
   refine wpAny_bind (wpAny_attempt (wpAny_mono (turn _ H' s' ns[j] x _ (λp hp=>mem_cons_of_mem _ (mem_cons_of_mem _ hp)) J rx hG hgo) (λv s'' he=>?_) λ_ _ hF=>hF.elim));obtain⟨k,H2,J2,r2,hgo2⟩:=he;dsimp only;have pk:=J2.pin (s.heap.objs.size+2,seqObj "list" kA e) (mem_append_right _ (mem_cons_of_mem _ mem_cons_self));have pa:=J2.pin (s.heap.objs.size,seqObj "list" #[] e1) (mem_append_right _ mem_cons_self);have u2:=Heap.SameBut.update s''.heap (s.heap.objs.size+2) (Obj.mapSeq (·.push v));obtain⟨c2,hc2⟩:∃c2,(s''.heap.update (s.heap.objs.size+2) (Obj.mapSeq (·.push v))).get? (s.heap.objs.size+2)=some (seqObj "list" (kA.push v) c2):=⟨_,get?_update_seq pk.1 (·.push v)⟩
   refine wpAny_bind (listUpdate_at pk.1 rfl ?_ (by rw[sizeLine_eq];omega) (le_trans (Nat.le_of_eq (Array.size_push ..)) (by rw[sizeLine_eq];omega)));have J3:Inv X ((s.heap.objs.size+2,seqObj "list" kA e)::pins) σ H2 s'':=J2.pins_of λp hp=>J2.pin p (mem_append_right _ (mem_cons_of_mem _ hp));have J4:Inv X pins σ H2 { s'' with heap:=s''.heap.update (s.heap.objs.size+2) (Obj.mapSeq (·.push v)) }:=J3.turn1 (t':=s''.toks) (fk H2 pk.2.1) u2;have oa:(s''.heap.update (s.heap.objs.size+2) (Obj.mapSeq (·.push v))).get? (s.heap.objs.size)=some (seqObj "list" #[] e1):=(u2.2 _ nak).trans pa.1;have J5:=(J4.repin (fk H2 pk.2.1) hc2 (λv z=>by cases z)).repin ((fa H2 pa.2.1).more nak.symm) oa (λv z=>by cases z);refine wpAny_pure ⟨rfl,H2,kA.push v,c2,ks++[k],J5,?_,by simp[hsz],?_⟩
   .rw[Array.toList_push];exact rk.append (.cons r2 .nil)
   .simpa [append_assoc]using hgo2
  case done=>
   rintro s' ⟨H',kA,e,ks,J,rk,hsz,hgo⟩;have hdr:ns.drop (0+vs.length)=[]:=List.drop_of_length_le (by have:=hi.length;omega);rw[hdr]at hgo;obtain⟨kz,kv,fin⟩:∃kz,Hc X.K H' (ks++[]) kz/\∀p ms,H' p=none->IJ kz ns ms->Q (.ref p) (upd H' p (.lst (ms.map V.int))):=hgo;rw[append_nil]at kv;have pk:=J.pin (s.heap.objs.size+2,seqObj "list" kA e) (mem_append_right _ (mem_cons_of_mem _ mem_cons_self));have pa:=J.pin (s.heap.objs.size,seqObj "list" #[] e1) (mem_append_right _ mem_cons_self);refine wpAny_bind (listItems_at pk.1 rfl ?_);have ekA:kA=kA.toList.toArray:=by simp
   rw[ekA]at pk ⊢;have lk:kA.toList.length=vs.length:=by rw[Array.length_toList];omega
   refine Vx pk.1 pa.1 nak.symm (Vv J kv rk) lk h64 λout so=>⟨_,rfl,wpAny_pure ⟨_,rfl,?_⟩⟩
   obtain⟨on,oi⟩:=Zt hi so;have u5:=Heap.SameBut.update s'.heap (s.heap.objs.size+2) (Obj.mapSeq λ_=>(#[]:Array Value));have oa:(s'.heap.update (s.heap.objs.size+2) (Obj.mapSeq λ_=>(#[]:Array Value))).get? (s.heap.objs.size)=some (seqObj "list" #[] e1):=(u5.2 _ nak).trans pa.1;have u6:=Heap.SameBut.update (s'.heap.update (s.heap.objs.size+2) (Obj.mapSeq λ_=>(#[]:Array Value))) (s.heap.objs.size) (Obj.mapSeq λ_=>out.toArray);obtain⟨c6,hc6⟩:∃c6,((s'.heap.update (s.heap.objs.size+2) (Obj.mapSeq λ_=>(#[]:Array Value))).update (s.heap.objs.size) (Obj.mapSeq λ_=>out.toArray)).get? (s.heap.objs.size)=some (seqObj "list" out.toArray c6):=⟨_,get?_update_seq oa λ_=>out.toArray⟩
   have J3:Inv X ((s.heap.objs.size+2,seqObj "list" kA e)::pins) σ H' s':=J.pins_of λp hp=>J.pin p (mem_append_right _ (mem_cons_of_mem _ hp));have J4:Inv X pins σ H' { s' with heap:=s'.heap.update (s.heap.objs.size+2) (Obj.mapSeq λ_=>(#[]:Array Value)) }:=J3.turn1 (t':=s'.toks) (fk H' pk.2.1) u5;have J5:Inv X pins σ H' { s' with heap:=(s'.heap.update (s.heap.objs.size+2) (Obj.mapSeq λ_=>(#[]:Array Value))).update (s.heap.objs.size) (Obj.mapSeq λ_=>out.toArray) }:=(J4.repin (fa H' pa.2.1) oa (λv z=>by cases z)).turn1 (t':=s'.toks) (fa H' pa.2.1) u6;have lo:out.length<64:=by
    obtain⟨zs,pm,rfl,_⟩:=so;have:=pm.length_eq;simp at this ⊢;omega
   have J6:=J5.adopt (o:=.lst ((out.map Dy).map V.int)) (fa H' pa.2.1) (I.sz) ⟨by simp[sizeLine_eq];omega,out,c6,IM oi,hc6⟩;exact⟨.ref _,_,J6,rfl,fin _ _ pa.2.1 on⟩
 exact goal _ sz3
end
def Src(K:PySem.W.Frag)(H:Hp)(a:Addr)(ns:List Int):Prop:=SqT K H a (ns.map V.int)∨∃n:Nat,n<64/\H a=some (.rng 0 n)/\ns=(List.range n).map λk:Nat=>(k:Int)
def IQ(K:PySem.W.Frag)(P:Addr)(q:Str)(pos:Pos)(ix:List Nat)(te tb:TE):TE:=λσ H Q=>te σ H λv H1=>∃(a:Addr) (ns:List Int) (ps:Array Value),v=.ref a/\Src K H1 a ns/\ns.length<64/\H1 P=some (.tbl ps)/\JF H1 q pos ps /\
 ∀H2 c,TabStep P q pos H1 H2->H2 c=some (.ext (cdF c q))->HV (λH=>H c=some (.ext (cdF c q))) tb (ix.map λi=>(σ[i]?).join) ns H2 λks H3=>∃kz,Hc K H3 ks kz/\∀p ms,H3 p=none->IJ kz ns ms->Q (.ref p) (upd H3 p (.lst (ms.map V.int)))
def TabStep.rd{P:Addr}{q:Str}{pos:Pos}{H H':Hp}{ps:Array Value}(t:TabStep P q pos H H')(hP:H P=some (.tbl ps)){a:Addr}{xs:List V}(r:Rd H a (.tup xs)):Rd H' a (.tup xs):=by
 rcases t with rfl|⟨c,hc,_,rfl⟩
 .exact r
 .have ne:∀u,H a=some u->(∀ps,u≠.tbl ps)->upd (upd H P (.tbl #[rawInt pos.line,rawInt pos.col,.ref c])) c (.ext (cdF c q)) a=some u:=λu e n=>by
   rw[AE (AV e hc),AE (λz=>by subst z;rw[hP]at e;cases e;exact n _ rfl)];exact e
  rcases r with r|⟨o,r⟩
  .exact .inl (ne _ r λps z=>by cases z)
  .exact .inr ⟨o,ne _ r λps z=>by cases z⟩
def TabStep.sqt{K:PySem.W.Frag}{P:Addr}{q:Str}{pos:Pos}{H H':Hp}{ps:Array Value}(t:TabStep P q pos H H')(hP:H P=some (.tbl ps)){a:Addr}{xs:List V}(r:SqT K H a xs):SqT K H' a xs:=by
 rcases r with r|r
 .exact .inl (t.rd hP r)
 .exact .inr r
def TabStep.src{K:PySem.W.Frag}{P:Addr}{q:Str}{pos:Pos}{H H':Hp}{ps:Array Value}(t:TabStep P q pos H H')(hP:H P=some (.tbl ps)){a:Addr}{ns:List Int}(r:Src K H a ns):Src K H' a ns:=by
 rcases r with r|⟨n,h,e,z⟩
 .exact .inl (t.sqt hP r)
 .refine .inr ⟨n,h,?_,z⟩;rcases t with rfl|⟨c,hc,_,rfl⟩
  .exact e
  .rw[AE (AV e hc),AE (λz=>by subst z;rw[hP]at e;cases e)];exact e
def Op{n:Nat}{acc:Array Value}(it:ItemsOf (λi v=>∃t,v=.int (0+i*1) t) acc n):IntsAre acc.toList ((List.range n).map λk:Nat=>(k:Int)):=by
 have:=Ix (lo:=0) it;have e:Bg 0 n=((List.range n).map λk:Nat=>(k:Int)).map V.int:=by
  have:∀(lo:Nat) (n:Nat),Bg (lo:Int) n=((List.range' lo n).map λk:Nat=>(k:Int)).map V.int:=by
   intro lo n
   induction n generalizing lo with
   |zero=>rfl
   |succ n ih=>rw[Bg,List.range'_succ];simp only[map_cons];rw[<- ih (lo+1)];rfl
  rw[List.range_eq_range'];exact this 0 n
 rw[e]at this;exact F5 rfl this
section
variable{X:Cx}{c P:Addr}{scope:Scope}{fr:List Str}{ix:List Nat}{prm:Str}{params:Arguments}{body e:Expr}{p pos lpos kpos:Pos}{te tb:TE}
def Sr(LA:LamAt X c P)(S:CSc X scope fr ix)(L:LSc scope prm)(hr:Room 3 X.A)(hcm:X.calm=true)(hg:Gl X "sorted")(hm:X.mg "sorted"=none)
 (hbind:∀(cl:List (Str×Addr)) (pm cd ctv us:Value),bindArgs (kla_fn "<lambda>" (X.env.qual++"<lambda>") params body scope cl pm cd ctv) ⟨[us],[]⟩=pure [(prm,us)])
 (he:PE X e te) (hb:∀(f:Addr) (cd:Value) (s:Shared) (H:Hp),PE (lCx X X.A.in1.in1 (prm::fr) (X.env.qual++"<lambda>") scope f cd (Ai X.env.cells scope.names []) s H) body tb)
 (hdef:defaultsOf params X.env=([],[]):=by rfl) (hs:starEach [e] X.env=[(false,eval e X.env)]:=by rfl):
 PE X (.Call (.Name "sorted" p) [e] [⟨some "key",.Lambda params body scope lpos,kpos⟩] pos) (IQ X.K P (X.env.qual++"<lambda>") lpos ix te tb):=by
 intro pins s σ H Q I h;have PAe:PA X [e] (Ax te BG):=BH he By hs;refine wpAny_Call_Name_kw (C7 (u:=.builtin "sorted") I hg hm FA ?_);have pl:(backTo pos (starEach [e] X.env)).any (·.1)=false:=by rw[hs];rfl
 refine callWith_builtin_kwB pl rfl (evalArgs_kw2 (env:=X.env) (e:=e) (rest:=[]) (kws:=[⟨some "key",.Lambda params body scope lpos,kpos⟩]) rfl (thn (PAe pos pins s σ H (λvs H1=>match vs with
  |[v]=>∃(a:Addr) (ns:List Int) (ps:Array Value),v=.ref a/\Src X.K H1 a ns/\ns.length<64/\H1 P=some (.tbl ps)/\JF H1 (X.env.qual++"<lambda>") lpos ps /\
   ∀H2 c,TabStep P (X.env.qual++"<lambda>") lpos H1 H2->H2 c=some (.ext (cdF c (X.env.qual++"<lambda>")))->HV (λH=>H c=some (.ext (cdF c (X.env.qual++"<lambda>")))) tb (ix.map λi=>(σ[i]?).join) ns H2 λks H3=>∃kz,Hc X.K H3 ks kz/\∀p ms,H3 p=none->IJ kz ns ms->Q (.ref p) (upd H3 p (.lst (ms.map V.int)))
  | _=>False) I h) λus s1 hq=>?_) hs)
 obtain⟨vs,H1,I1,r,q⟩:=hq
 match vs,q with
 |[v],q=>
 obtain⟨a,ns,ps,rfl,sq,h64,hP,hg1,go⟩:=q;obtain⟨u,rfl,ru⟩:=C8 r;cases ru;show wpAny _ _ (evalAll [(do let v <- eval (.Lambda params body scope lpos) X.env;standAt pos;pure v)]) _ _ s1;refine wpAny_evalAll_cons (wpAny_bind (T5 S LA I1 hdef hP hg1 λf cd ctv H2 s2 I2 M=>wpAny_bind (wpAny_standAt (wpAny_pure (wpAny_evalAll_nil ?_)))));show wpAny _ _ (call (.builtin "sorted") [.ref a] [(Str.ofString "key",.ref f)]) _ _ s2;have sq2:=M.step.src hP sq;obtain⟨c',rfl,hc'⟩:=M.cdc;have ff:FpOk X pins H2 f:=I1.fpOk M.new M.fre;have I3:=I2.repin ff M.fn (λv z=>by cases z);refine wpAny_mono (O9 (pins:=(f,_)::pins) I3 h64 (λQ E hq=>?_) (λpins' H' s' n u Q1 sub J ru hG hq=>?_) (go H2 c' M.step hc')) (λv s' hv=>?_) λ_ _ z=>z
 .rcases sq2 with sq2|⟨n,hn,er,rfl⟩
  .obtain⟨its,rv,tp,_⟩:=I2.tuple sq2;have hi:IntsAre its ns:=F5 rfl rv;have hlen:its.length<=sizeLine:=by have:=hi.length;rw[sizeLine_eq];omega
   refine Hl tp (hq _ s2.toks its (λb o q=>?_) hi) hlen;have hlt:b<s2.heap.objs.size:=Heap.lt_size q;rw[Heap.get?_update_ne _ _ _ _ (ne_of_lt hlt),Heap.get?_push_ne _ _ _ (ne_of_lt hlt)];exact q
  .obtain⟨t,u,v,hr'⟩:∃t u v,s2.heap.get? a=some { cls:=.type "range",data:=.fields #[.int 0 t,.int n u,.int 1 v] }:=I2.hok a _ er;refine Mu (n:=n) (I2.ok.hd hcm) hr' (small_one (by omega) (by omega) (by omega) (by omega)) (by rw[Tj];omega) (by omega) λg tk acc kp it=>hq g tk _ kp (Op it)
 .have pf:=J.pin (f,_) (mem_append_right _ (sub _ mem_cons_self));exact T6 (A:=X.A.in1.in1) (f:=f) S L J rfl hr.in1.in1 pf.1 (J.hok c' _ hG).1 (λus=>hbind _ _ _ _ us) (λs H=>hb f _ s H) ru hq
 .obtain⟨y,H',J,ry,qy⟩:=hv;exact⟨y,H',J.pins_of λp hp=>J.pin p (mem_append_right _ (mem_cons_of_mem _ hp)),ry,qy⟩
end
def L3(K:PySem.W.Frag)(P:Addr)(q:Str)(pos:Pos):Prop:=∃p':Pos,(P,q,p')∈Ch K/\((Ch K).map (·.1)).Nodup/\p'.line=pos.line/\p'.col=pos.col
open Classical in
def EC(ds:List D):Option (List Int):=match Az ds with
 |some ns=>some ns
 |none=>match D6 ds with
  |some ps=>if ∀p∈ps,pok p then some (ps.map Ac)else none
  |none=>none
open Classical in
def EV(mb:ME)(cap:Ls)(hd:Hd):List Int->Option (List D)
 |[]=>some []
 |n::r=>match mb (some (.im (.int n))::cap) hd with
  |some (k,h)=>match EV mb cap hd r with
   |some ks=>if h=hd then some (k::ks)else none
   |none=>none
  |none=>none
def K7{mb:ME}{cap:Ls}{hd:Hd}:∀{ns:List Int} {ks:List D},EV mb cap hd ns=some ks->ks.length=ns.length
 |[],ks,e=>by cases e;rfl
 |n::r,ks,e=>by
  unfold EV at e;split at e
  .split at e
   .next ks' e2=>
    split at e
    .cases e;simp[K7 e2]
    .cases e
   .cases e
  .cases e
def Om{ds:List D}{kz:List Int}(e:EC ds=some kz):kz.length=ds.length:=by
 unfold EC at e;split at e
 .next ns e6=>cases e;rw[Cn e6];simp
 .split at e
  .next ps e6=>
   split at e
   .cases e;rw[GZ e6];simp
   .cases e
  .cases e
def Ez(kz ns:List Int):List Int:=((kz.zip ns).mergeSort λa b=>decide (a.1<=b.1)).map (·.2)
def Sv{kz ns ms:List Int}(nd:kz.Nodup)(hl:kz.length=ns.length)(o:IJ kz ns ms):ms=Ez kz ns:=by
 obtain⟨zs,pm,pw,rfl⟩:=o;have pm2:((kz.zip ns).mergeSort λa b=>decide (a.1<=b.1)).Perm (kz.zip ns):=mergeSort_perm ..;have pw2:((kz.zip ns).mergeSort λa b=>decide (a.1<=b.1)).Pairwise λa b=>a.1<=b.1:=by
  have:=pairwise_mergeSort (le:=λa b:Int×Int=>decide (a.1<=b.1)) (by intro a b c h1 h2;simp at *;omega) (by intro a b;simp;omega) (kz.zip ns);exact this.imp (by simp)
 have inj:∀a∈kz.zip ns,∀b∈kz.zip ns,a.1=b.1->a=b:=by
  intro a ha b hb e;obtain⟨i,hi⟩:=mem_iff_getElem?.mp ha;obtain⟨j,hj⟩:=mem_iff_getElem?.mp hb;obtain⟨i1,i2⟩:=List.getElem?_zip_eq_some.mp hi;obtain⟨j1,j2⟩:=List.getElem?_zip_eq_some.mp hj;rw[e]at i1;have:i=j:=(List.getElem?_inj (List.getElem?_eq_some_iff.mp i1).1 nd).mp (i1.trans j1.symm);subst this;rw[i2]at j2;exact Prod.ext e (Option.some.inj j2)
 have:zs=(kz.zip ns).mergeSort λa b=>decide (a.1<=b.1):=
  (pm.trans pm2.symm).eq_of_pairwise (le:=λa b=>a.1<=b.1) (λa b ha hb h1 h2=>inj a (pm.mem_iff.mp ha) b (pm2.mem_iff.mp hb) (le_antisymm h1 h2)) pw pw2
 rw[this];rfl
def Ky(m:MA):Ls->Hd->Option (List Int×Hd):=λls hd=>(m ls hd).bind λp=>match p.1 with
 |[.im (.int j)]=>if 0<=j/\j<64 then some ((List.range j.toNat).map λk:Nat=>(k:Int),p.2)else none
 |_=>none
open Classical in
def E9(src:Ls->Hd->Option (List Int×Hd))(ix:List Nat)(mb:ME):MA:=λls hd=>(src ls hd).bind λp=>(EV mb (ix.map λi=>(ls[i]?).join) p.2 p.1).bind λks=>(EC ks).bind λkz=>
 if p.1.length<64/\kz.Nodup then some ((Ez kz p.1).map λi=>.im (.int i),p.2)else none
abbrev NV(m:MA)(ix:List Nat)(mb:ME):MA:=E9 (Ky m) ix mb
def Ta(K:PySem.W.Frag)(te:TE)(src:Ls->Hd->Option (List Int×Hd)):Prop:=∀(ρ:List Addr) (σ:St) (H:Hp) (hd:Hd) (ls:Ls) (Q:VK) (ns:List Int) (hd':Hd),RH K ρ H hd->RL K ρ H ls σ->src ls hd=some (ns,hd') ->
 (∀ρ1 H1 a,Ext ρ H ρ1 H1->RH K ρ1 H1 hd'->Src K H1 a ns->Q (.ref a) H1)->te σ H Q
section
variable{K:PySem.W.Frag}{ρ:List Addr}{H:Hp}{hd:Hd}
def Re{P:Addr}{q:Str}{pos:Pos}{H2:Hp}{ps:Array Value}(R:RH K ρ H hd)(hP:H P=some (.tbl ps))(t:TabStep P q pos H H2)(TI:L3 K P q pos):RH K ρ H2 hd/\Ext ρ H ρ H2:=by
 rcases t with rfl|⟨c,hc,ncP,rfl⟩
 .exact⟨R,.refl⟩
 .obtain⟨p',et,nd,e1,e2⟩:=TI;have nP:∀b,b∈ρ->b≠P:=λb hb z=>by
   subst z;rcases R.mut hb with⟨y,w⟩|⟨y,w⟩<;>(rw[hP]at w;cases w)
  have nc:∀b u,H b=some u->b≠c:=λb u e=>AV e hc;have ex:Ext ρ H ρ (upd (upd H P (.tbl #[rawInt pos.line,rawInt pos.col,.ref c])) c (.ext (cdF c q))):=by
   refine⟨⟨[],by simp,by simp⟩,λb o e nb nt'=>?_,λb ps e=>?_⟩
   .rw[AE (nc b _ e),AE (λz=>by subst z;rw[hP]at e;cases e;exact nt' _ rfl)];exact e
   .by_cases z:b=P
    .subst z;exact⟨_,by rw[AE (nc _ _ hP),AL]⟩
    .exact⟨ps,by rw[AE (nc b _ e),AE z];exact e⟩
  refine⟨⟨R.len,R.nd,λx hx=>?_,λn o a h1 h2=>?_⟩,ex⟩
  .by_cases hxP:x.1=P
   .have ex:x=(P,q,p'):=by
     obtain⟨i,hi⟩:=mem_iff_getElem?.mp hx;obtain⟨j,hj⟩:=mem_iff_getElem?.mp et;have i1:((Ch K).map (·.1))[i]?=some P:=by rw[List.getElem?_map,hi];simp[hxP]
     have j1:((Ch K).map (·.1))[j]?=some P:=by rw[List.getElem?_map,hj];rfl
     have:i=j:=(List.getElem?_inj (List.getElem?_eq_some_iff.mp i1).1 nd).mp (i1.trans j1.symm);subst this;exact Option.some.inj (hi.symm.trans hj)
    subst ex;refine⟨#[rawInt pos.line,rawInt pos.col,.ref c],by rw[AE (nc _ _ hP),AL],.inr ⟨c,?_,AL⟩⟩;show #[rawInt pos.line,rawInt pos.col,Value.ref c]=#[rawInt p'.line,rawInt p'.col,Value.ref c];rw[e1,e2]
   .obtain⟨ps',hx1,hG⟩:=R.tabs x hx;refine⟨ps',by rw[AE (nc _ _ hx1),AE hxP];exact hx1,?_⟩;rcases hG with g|⟨c',g1,g2⟩
    .exact .inl g
    .exact .inr ⟨c',g1,by rw[AE (nc _ _ g2),AE (λz=>by subst z;rw[hP]at g2;cases g2)];exact g2⟩
  .obtain⟨ho,q1,q2⟩:=R.ob n o a h1 h2;exact⟨ho,by rw[AE (nc a _ q1),AE (nP a (mem_of_getElem? h2))];exact q1,by simpa using q2.mono (ex.grow R) []⟩
def NZ{tb:TE}{mb:ME}{ix:List Nat}{q:Str}{c:Addr}(hb:RE K tb mb){ls:Ls}{σ:St}:∀{ns:List Int} {kds:List D} {ρ:List Addr} {H:Hp} {Q:List V->Hp->Prop},RH K ρ H hd->RL K ρ H ls σ->H c=some (.ext (cdF c q)) ->
 EV mb (ix.map λi=>(ls[i]?).join) hd ns=some kds->(∀ρ' H' ks,Ext ρ H ρ' H'->RH K ρ' H' hd->RDs K ρ' H' kds ks->Q ks H')->HV (λH=>H c=some (.ext (cdF c q))) tb (ix.map λi=>(σ[i]?).join) ns H Q
 |[],kds,ρ,H,Q,R,L,hc,e,k=>by
  cases e;exact k ρ H [] .refl R (by simp[RDs])
 |n::r,kds,ρ,H,Q,R,L,hc,e,k=>by
  unfold EV at e;split at e
  .next kd h e1=>
   split at e
   .next ks e2=>
    split at e
    .next eh=>
     cases e;rw[eh]at e1;refine⟨hc,hb ρ _ H _ (some (.im (.int n))::ix.map λi=>(ls[i]?).join) _ kd _ R ⟨by simp,λi d ei=>?_⟩ e1 λρ1 H1 v1 x1 R1 r1=>?_⟩
     .cases i with
      |zero=>cases ei;exact⟨.int n,rfl,by simp[RD,RI]⟩
      |succ j=>
       have ei:(ix.map λi=>(ls[i]?).join)[j]?=some (some d):=ei;rw[List.getElem?_map]at ei;cases qj:ix[j]? with
       |none=>rw[qj]at ei;cases ei
       |some m=>
        rw[qj]at ei;have ei:(ls[m]?).join=some d:=Option.some.inj ei;have em:ls[m]?=some (some d):=by
         cases w:ls[m]? with
         |none=>rw[w]at ei;cases ei
         |some z=>rw[w]at ei;simpa using ei
        obtain⟨v,ev,rv⟩:=L.ob m d em;refine⟨v,?_,rv⟩;show(ix.map λi=>(σ[i]?).join)[j]?=some (some v);rw[List.getElem?_map,qj];simp[ev]
     .have oc:c∉ρ:=λm=>by rcases R.mut m with⟨y,w⟩|⟨y,w⟩<;>(rw[hc]at w;cases w)
      refine NZ hb R1 (L.ext R x1) (x1.keep c _ hc oc nt) e2 λρ2 H2 ks2 x2 R2 r2=>?_;exact k ρ2 H2 (v1::ks2) (x1.trans R1 x2) R2 (.cons (r1.ext R1 x2) r2)
    .cases e
   .cases e
  .cases e
def UO{t:TA}{m:MA}(h:RA K t m):Ta K (tCB Ij t) (Ky m):=by
 intro ρ σ H hd ls Q ns hd' hR hL hm k;obtain⟨⟨d1,h1⟩,e1,hm⟩:=cu hm;dsimp only at hm;refine h ρ σ H hd ls _ d1 h1 hR hL e1 λρ1 H1 v x1 R1 r1=>?_;split at hm
 .next j=>
  split at hm
  .next c=>
   cases hm;simp only[RDs,RD,RI]at r1;obtain⟨x,r,rfl,rfl,rfl⟩:=r1;refine .inl ⟨j,rfl,λp hp=>?_⟩;obtain⟨R2,x2⟩:=R1.hid (ho:=.rng 0 j) hp;refine k ρ1 _ p (x1.trans R1 x2) R2 (.inr ⟨j.toNat,by omega,?_,rfl⟩);rw[AL,Int.toNat_of_nonneg c.1]
  .cases hm
 .cases hm
def SA{te tb:TE}{src:Ls->Hd->Option (List Int×Hd)}{mb:ME}{P:Addr}{q:Str}{pos:Pos}{ix:List Nat}(hi:Ta K te src)(hb:RE K tb mb)(TI:L3 K P q pos):RN K (IQ K P q pos ix te tb) (E9 src ix mb):=by
 and_intros;obtain⟨⟨ns,h1⟩,e1,hm⟩:=cu hm;obtain⟨kds,e4,hm⟩:=cu hm;obtain⟨kz,e5,hm⟩:=cu hm;dsimp only at hm e4;split at hm
 .next cc=>
  cases hm;refine hi ρ σ H hd ls _ ns _ hR hL e1 λρ1 H1 a x1 R1 sq=>?_;obtain⟨p',et,_,l1,l2⟩:=id TI;obtain⟨ps,hP,hG⟩:=R1.tabs (P,q,p') et;have hG':JF H1 q pos ps:=by
   rcases hG with g|⟨c,g1,g2⟩
   .exact .inl g
   .refine .inr ⟨c,?_,g2⟩;rw[g1];show #[rawInt p'.line,rawInt p'.col,Value.ref c]=_;rw[l1,l2]
  refine⟨a,ns,ps,rfl,sq,cc.1,hP,hG',λH2 c step hc=>?_⟩;obtain⟨R2,x2⟩:=Re R1 hP step TI;have x12:=x1.trans R1 x2;refine NZ hb R2 (hL.ext hR x12) hc e4 λρ3 H3 ks x3 R3 r3=>?_;have x13:=x12.trans R2 x3;refine⟨kz,?_,λp ms hp out=>?_⟩
  .unfold EC at e5;split at e5
   .next ns' e6=>
    cases e5;rw[Cn e6]at r3;exact .inl r3.ints
   .split at e5
    .next ps' e6=>
     split at e5
     .next ok=>
      cases e5;rw[GZ e6]at r3;refine .inr ⟨ps',rfl,ok,by have:=r3.len;simp at this;omega,λi k p ek ep=>?_⟩;obtain⟨w,ew,rw_⟩:=r3.get (i:=i) (d:=B1 p) (by rw[List.getElem?_map,ep];rfl);rw[ek]at ew;cases ew;exact NJ rw_
     .cases e5
    .cases e5
  .have lz:kz.length=ns.length:=by
    rw[Om e5,K7 e4]
   have:=Sv cc.2 lz out;subst this;obtain⟨R4,x4⟩:=R3.hid (ho:=.lst ((Ez kz ns).map V.int)) hp;exact hQ ρ3 _ p _ (x13.trans R3 x4) R4 (x13.none hR hp R3) (R3.out hp) AL Ds
 .cases hm
end
structure LamC(K:PySem.W.Frag)(mg:Str->Option Value)(base:Heap)(fd:FuncData)(c P:Addr)(q:Str)(pos:Pos):Prop where
 code:fd.code=.ref c
 hd:CodeHd base c P
 bl:base.BuiltinsAt mg P
 ti:L3 K P q pos
structure QSrc(K:PySem.W.Frag)(X:Cx)(e:Expr)(te:TE)(src:Ls->Hd->Option (List Int×Hd)):Prop where
 p:PE X e te
 r:Ta K te src
def SU(K:PySem.W.Frag){X:Cx}{a:Expr}{t:TA}{m:MA}{p2 pos2:Pos}(hm2:X.mg "range"=none)(ha:QA K X [a] t m)(hg2:Gl X "range":=by rfl)(he2:starEach [a] X.env=[(false,eval a X.env)]:=by rfl):QSrc K X (.Call (.Name "range" p2) [a] [] pos2) (tCB Ij t) (Ky m):=
 ⟨DO (call_rng1.or KH) hg2 hm2 boot_range ha.p (by decide) (by decide) he2 rfl,UO ha.r⟩
def SX(K:PySem.W.Frag){src:Ls->Hd->Option (List Int×Hd)}{X:Cx}{c P:Addr}{scope:Scope}{fr:List Str}{ix:List Nat}{prm:Str}{params:Arguments}{body e:Expr}{p pos lpos kpos:Pos}{te tb:TE}{mb:ME}{k:Nat}(LA:LamAt X c P)(TI:L3 K P (X.env.qual++"<lambda>") lpos)(S:CSc X scope fr ix)(L:LSc scope prm)(hr:Room k X.A)(h3:3<=k)(hm:X.mg "sorted"=none)
 (he:QSrc K X e te src) (hb:∀(f:Addr) (cd:Value) (s:Shared) (H:Hp),QE K (lCx X X.A.in1.in1 (prm::fr) (X.env.qual++"<lambda>") scope f cd (Ai X.env.cells scope.names []) s H) body tb mb)
 (hbind:∀(cl:List (Str×Addr)) (pm cd ctv us:Value),bindArgs (kla_fn "<lambda>" (X.env.qual++"<lambda>") params body scope cl pm cd ctv) ⟨[us],[]⟩=pure [(prm,us)])
 (hcm:X.calm=true:=by rfl) (hg:Gl X "sorted":=by rfl) (hdef:defaultsOf params X.env=([],[]):=by rfl) (hs:starEach [e] X.env=[(false,eval e X.env)]:=by rfl) (hK:X.K=K:=by rfl):
 QN K X (.Call (.Name "sorted" p) [e] [⟨some "key",.Lambda params body scope lpos,kpos⟩] pos) (IQ K P (X.env.qual++"<lambda>") lpos ix te tb) (E9 src ix mb):=by
 subst hK;exact⟨Sr LA S L (hr.mono h3) hcm hg hm hbind he.p (λf cd s H=>(hb f cd s H).p) hdef hs,SA he.r (hb 0 .none X.s₀ X.H₀).r TI⟩
def Sx{P:Program}{w:World}{K:PySem.W.Frag}{mg:Str->Option Value}{base:Heap}{x:Str}{st:Stmt}{f:Addr}{fd:FuncData}{N ps:List Str}{j:Nat}{m:MS}(DA:DefAt K mg x st f fd ps)(S:FnScope N ps (AB st))
 (h:∀(cdv:Value) (A:Around) (outer:List Env) (s:Shared) (H:Hp) (E:XK),fd.code=cdv->Room j (A.deeper (envOfC x (AB st) s.heap.objs.size f cdv))->∃t,QSs K (FM CX0 P w K mg base N x (AB st) f cdv A outer s H E).nox (BJ st) t m):
 FnOk P w K mg base CX0 (j+1) f fd ps (spF K ps.length (mkF ps.length N.length m)):=by
 obtain⟨F,hmg,bd⟩:=DA;obtain⟨⟨oc,od,kV,doc,pm,an,cdv,ct,osl,rfl,lk,hcd⟩,kp⟩:=F;refine U6 lk hcd S (λvs H Q E h=>h.1) λA outer s H vs Q E hr hs=>?_;obtain⟨t,q⟩:=h cdv A outer s H E rfl hr;exact⟨t,q.p.nox,N7 q.r hs⟩
def OB(g:Int->Int)(ns:List Int):(Ez (ns.map g) ns).Perm ns/\(Ez (ns.map g) ns).Pairwise λa b=>g a<=g b:=by
 have pm:(((ns.map g).zip ns).mergeSort λa b=>decide (a.1<=b.1)).Perm ((ns.map g).zip ns):=mergeSort_perm ..;have pw:(((ns.map g).zip ns).mergeSort λa b=>decide (a.1<=b.1)).Pairwise λa b=>a.1<=b.1:=by
  have:=pairwise_mergeSort (le:=λa b:Int×Int=>decide (a.1<=b.1)) (by intro a b c h1 h2;simp at *;omega) (by intro a b;simp;omega) ((ns.map g).zip ns);exact this.imp (by simp)
 have ez:(ns.map g).zip ns=ns.map λn=>(g n,n):=by
  clear pm pw
  induction ns with
  |nil=>rfl
  |cons n r ih=>simp[ih]
 have el:∀a∈(((ns.map g).zip ns).mergeSort λa b=>decide (a.1<=b.1)),a.1=g a.2:=λa ha=>by
  have:=pm.mem_iff.mp ha;rw[ez]at this;obtain⟨n,_,rfl⟩:=mem_map.mp this;rfl
 refine⟨?_,?_⟩
 .have:=pm.map (·.2);unfold Ez;refine this.trans ?_;rw[ez,map_map];have:((λx:Int×Int=>x.2) ∘ λn=>(g n,n))=id:=rfl;rw[this,map_id]
 .unfold Ez;rw[pairwise_map];exact pw.imp_of_mem λ{a b} ha hb h=>by rw[<- el a ha,<- el b hb];exact h
def K6{mb:ME}{cap:Ls}{hd:Hd}(kf:Int->D):∀{ns:List Int},(∀n∈ns,mb (some (.im (.int n))::cap) hd=some (kf n,hd))->EV mb cap hd ns=some (ns.map kf)
 |[],_=>rfl
 |n::r,h=>by
  unfold EV;rw[h n mem_cons_self,K6 kf λm hm=>h m (mem_cons_of_mem _ hm)];simp
def MB{ps:List (Int×Int)}(hne:ps≠[])(hok:∀p∈ps,pok p):EC (ps.map B1)=some (ps.map Ac):=by
 unfold EC;have:Az (ps.map B1)=none:=by
  cases ps with
  |nil=>exact absurd rfl hne
  |cons p r=>rfl
 rw[this,Il];simp only[if_pos hok]
def Q8{g:Int->Int}{ns:List Int}(nd:ns.Nodup)(h:∀a∈ns,∀b∈ns,g a=g b->a=b):(ns.map g).Nodup:=by
 rw[List.nodup_iff_pairwise_ne,pairwise_map];exact(List.nodup_iff_pairwise_ne.mp nd).imp_of_mem λ{a b} ha hb hne e=>hne (h a ha b hb e)
def RX{src:Ls->Hd->Option (List Int×Hd)}{mb:ME}{ix:List Nat}{ls:Ls}{hd:Hd}{QA:List D->Hd->Prop}(h:∃ns x,src ls hd=some (ns,x)/\∃(kf:Int->Int×Int),ns.length<64/\ns.Nodup/\(∀n∈ns,pok (kf n))/\(∀a∈ns,∀b∈ns,Ac (kf a)=Ac (kf b)->a=b)/\
 (∀n∈ns,mb (some (.im (.int n))::ix.map λi=>(ls[i]?).join) x=some (B1 (kf n),x))/\∀ms:List Int,ms.Perm ns->ms.Pairwise (λa b=>Ac (kf a)<=Ac (kf b))->QA (ms.map λn=>.im (.int n)) x):WA (E9 src ix mb) ls hd QA:=by
 obtain⟨ns,x,e,kf,h64,nd,ok,inj,ek,q⟩:=h;have e2:=K6 (λn=>B1 (kf n)) ek;by_cases hne:ns=[]
 .subst hne;refine⟨[],x,?_,q [] (.refl _) .nil⟩;simp[E9,e,Az,EV,EC,Ez]
 .have e3:EC (ns.map λn=>B1 (kf n))=some (ns.map λn=>Ac (kf n)):=by
   have:=MB (ps:=ns.map kf) (by simpa using hne) (by simpa using ok);rw[map_map,map_map]at this;exact this
  have sp:=OB (λn=>Ac (kf n)) ns;refine⟨_,x,?_,q _ sp.1 sp.2⟩;simp only[E9,e,bind_some,e2,e3,h64,Q8 nd inj,and_self,if_true]
def PP{m:MA}{mb:ME}{ix:List Nat}{ls:Ls}{hd:Hd}{QA:List D->Hd->Prop}(h:WA m ls hd λds x=>∃n:Nat,ds=[.im (.int (n:Int))]/\n<64/\∃(kf:Int->Int×Int),(∀k,k<n->pok (kf k))/\(∀a,a<n->∀b,b<n->Ac (kf a)=Ac (kf b)->a=b)/\
 (∀k:Nat,k<n->mb (some (.im (.int k))::ix.map λi=>(ls[i]?).join) x=some (B1 (kf k),x))/\∀ms:List Int,ms.Perm ((List.range n).map λk:Nat=>(k:Int))->ms.Pairwise (λa b=>Ac (kf a)<=Ac (kf b))->QA (ms.map λn=>.im (.int n)) x):WA (NV m ix mb) ls hd QA:=by
 obtain⟨ds,x,e,n,rfl,hn,kf,ok,inj,ek,q⟩:=h;have mem:∀z∈(List.range n).map λk:Nat=>(k:Int),∃k:Nat,k<n/\z=k:=λz hz=>by
  obtain⟨k,hk,rfl⟩:=mem_map.mp hz;exact⟨k,by simpa using hk,rfl⟩
 refine RX ⟨(List.range n).map λk:Nat=>(k:Int),x,?_,kf,by simpa using hn,?_,λz hz=>?_,λy hy z hz=>?_,λz hz=>?_,q⟩
 .have c:(0:Int)<=n/\(n:Int)<64:=by omega
  simp only[Ky,e,bind_some,if_pos c,toNat_natCast]
 .rw[List.nodup_iff_pairwise_ne,pairwise_map];exact(List.nodup_iff_pairwise_ne.mp nodup_range).imp λh=>by omega
 .obtain⟨k,hk,rfl⟩:=mem z hz;exact ok k hk
 .obtain⟨k,hk,rfl⟩:=mem y hy;obtain⟨l,hl,rfl⟩:=mem z hz;intro e;rw[inj k hk l hl e]
 .obtain⟨k,hk,rfl⟩:=mem z hz;exact ek k hk
end L2
namespace HT
open PySem PyProof.Rows
def noFill_tuple_mul:fillsNumberSlot (.type "tuple") "mul"=pure false:=
 PySem.fillsNumberSlot_seq (id:="tuple.__mul__") (r:=some (.builtin "tuple.__rmul__")) F.slot_tuple_mul.lookup (by decide +kernel) F.slot_tuple_rmul.lookup (by decide +kernel)
def repeat_tuple:seqRepeat? (.type "tuple")=pure (some (.builtin "tuple.__mul__")):=by
 unfold seqRepeat?;rw[PySem.seqSlot_of (T:="tuple") (name:="__mul__") (id:="tuple.__mul__") F.slot_tuple_mul.lookup (by decide +kernel),PySem.seqSlot_of (T:="tuple") (name:="__rmul__") (id:="tuple.__rmul__") F.slot_tuple_rmul.lookup (by decide +kernel)];rfl
def int_rmul_tuple(a:Int)(t:Tok)(l:Addr)(items:Array Value)(n:Nat)(dd:Option Addr)(sl:Array (Option Value)):
 Meets (Builtin.«int.__rmul__» ⟨[.int a t,.ref l],[]⟩) (λ_ R s=>s.heap.get? l=some { cls:=.type "tuple",dict:=dd,data:=.seq items n,slots:=sl }/\R (.ok (.ret Value.notImplemented)) s):=
 .of_wp λprog w A R s h=>by obtain⟨hp,g,d,tk,os⟩:=s;obtain⟨hl,h⟩:=h;wp_walk;exact⟨_,rfl,h⟩
def tuple_mul(l:Addr)(items:Array Value)(n:Nat)(dd:Option Addr)(sl:Array (Option Value))(k:Int)(t:Tok)(h0:items.isEmpty=false)(hk:0<=k/\k<=1000)(hs:items.size*k.toNat<=100000):
 Meets (Builtin.«tuple.__mul__» ⟨[.ref l,.int k t],[]⟩) (λ_ R s=>s.heap.get? l=some { cls:=.type "tuple",dict:=dd,data:=.seq items n,slots:=sl }/\(k=1->R (.ok (.ret (.ref l))) s)/\(k≠1->R (.ok (.ret (.ref s.heap.objs.size))) { s with heap:=s.heap.push { cls:=.type "tuple",data:=.seq ((List.replicate k.toNat items).foldl (·++·) #[]) } })):=
 .of_wp λprog w A R s h=>by
  obtain⟨hp,g,d,tk,os⟩:=s;obtain⟨hl,h1,h2⟩:=h;have f1:=AutoSeq1.idx_int;have f2:=AutoSeq1.sub_tuple_tuple
  wp_walk using wpAny_loadPart' hl
  have c1:¬ (decide (k < -2^63)||decide (k>=2^63))=true:=by simp;omega
  rw[if_neg c1]
  wp_walk using wpAny_loadPart' hl
  by_cases k1:k=1
  .rw[if_pos (by simp[k1])]
   wp_walk using wpAny_loadPart' hl
   exact⟨_,rfl,h1 k1⟩
  .rw[if_neg (by simp[h0,k1])];have h2:=h2 k1;by_cases k0:k=0
   .rw[if_pos (by simp[k0])]
    wp_walk using wpAny_loadPart' hl
    subst k0;exact⟨_,rfl,h2⟩
   .have c2:¬ ((items.size:Int)*k>(2^63-1)/8):=by
     have e:(items.size:Int)*k=((items.size*k.toNat:Nat):Int):=by rw[Int.natCast_mul,Int.toNat_of_nonneg hk.1]
     rw[e];omega
    have c3:¬ Builtin.Tuple.tupleTooMany ((items.size:Int)*k)=true:=by
     have e:(items.size:Int)*k=((items.size*k.toNat:Nat):Int):=by rw[Int.natCast_mul,Int.toNat_of_nonneg hk.1]
     unfold Builtin.Tuple.tupleTooMany;rw[e,sizeLine_eq,decide_eq_true_eq];omega
    rw[if_neg (by simp[h0];omega)];dsimp only;rw[if_neg c2,if_neg c3];have hz:(List.foldl (λx1 x2=>x1++x2) #[] (List.replicate k.toNat items)).size<=sizeLine:=by
     have:∀(m:Nat) (a:Array Value),(List.foldl (λx1 x2=>x1++x2) a (List.replicate m items)).size=a.size+items.size*m:=by
      intro m
      induction m with
      |zero=>intro a;simp
      |succ m ih=>intro a;rw[replicate_succ,List.foldl_cons,ih,Array.size_append,Nat.mul_succ];omega
     rw[this,sizeLine_eq];simp;omega
    unfold Builtin.Tuple.tupleExact;refine wpAny_bind (wpAny_newObj_type ?_ hz);exact wpAny_pure ⟨_,rfl,h2⟩
end HT
namespace L2
open PySem PySem.Spec PyProof.Rows
section
variable{X:Cx}
def OT(K:PySem.W.Frag):R2:=λx y H Q=>∃l k xs,x=.ref l/\y=.int k/\SqT K H l xs/\xs≠[]/\(0<=k/\k<=1000)/\xs.length*k.toNat<=100000/\(k=1->Q (.ref l) H)/\
 (k≠1->∀p,H p=none->Q (.ref p) (upd H p (.tup (List.replicate k.toNat xs).flatten)))
def Vi(K:PySem.W.Frag)(hK:X.K=K:=by rfl):OpR X (binaryOp .Mult) (OT K):=by
 subst hK;intro pins s σ H x y v u Q I rx ry h;obtain⟨l,k,xs,rfl,rfl,hH,hne,hk,hz,q1,q2⟩:=h;cases rx;obtain⟨t,rfl⟩:=ry;obtain⟨its,r,p,_⟩:=I.tuple hH;obtain⟨⟨cls,dd,data,sl⟩,ho,hc,n,hd⟩:=id p;simp only at hc hd;subst hc hd;have ht:s.TypeIs (.ref l) "tuple":=⟨_,ho,rfl⟩
 have hn:its≠[]:=λz=>hne (r.nil_iff.mp z);have hl:its.length=xs.length:=r.length.symm;refine wpAny_binaryOp_repeat_ref (T:="tuple") (U:="int") (by decide) ht (λs'=>typeIs_int s' k t) HT.noFill_tuple_mul F.fills_int_mul F.slot_int_rmul HT.repeat_tuple F.slot_int_index.lookup
  (call_meets F.slot_int_rmul (typeIs_int s k t) F.entry_int_rmul (F.args_int_rmul_2 _ _) (HT.int_rmul_tuple k t l its.toArray n dd sl)
   ⟨ho,rfl,ht,call_meets F.slot_tuple_mul ht F.entry_tuple_mul (F.args_tuple_mul_2 _ _) (HT.tuple_mul l its.toArray n dd sl k t (by cases its with|nil=>exact absurd rfl hn|cons a r=>rfl) hk (by rw[size_toArray,hl];exact hz)) ⟨ho,λe=>?_,λe=>?_⟩⟩)
 .exact⟨.ref l,H,I,rfl,q1 e⟩
 .have f0:=Gp its k.toNat []
  rw[nil_append]at f0;rw[f0];refine⟨.ref s.heap.objs.size,_,I.laid (t':=s.toks) (o:=.tup (List.replicate k.toNat xs).flatten) (λb ob q=>Heap.get?_push_of_some _ q) (le_refl _) ?_,rfl,q2 e _ (I.hok.fresh (le_refl _))⟩;exact⟨by rw[NX,sizeLine_eq,Nat.mul_comm];omega,_,r.rep k.toNat,IsTupD.new _ _⟩
end
section
variable{K:PySem.W.Frag}
def HP(ma mb:ME):ME:=λls hd=>(ma ls hd).bind λp=>(mb ls p.2).bind λq=>match p.1,q.1 with
 |.im (.tup is),.im (.int k)=>if is≠[]/\(0<=k/\k<=1000)/\is.length*k.toNat<=100000 then some (.im (.tup (List.replicate k.toNat is).flatten),q.2)else none
 |_,_=>none
def Ug{ta tb:TE}{ma mb:ME}(ha:RE K ta ma)(hb:RE K tb mb):RE K (tOp (OT K) ta tb) (HP ma mb):=by
 and_intros;obtain⟨⟨d1,h1⟩,e1,hm⟩:=cu hm;obtain⟨⟨d2,h2⟩,e2,hm⟩:=cu hm;dsimp only at hm;split at hm
 .next is k _=>
  split at hm
  .next c=>
   cases hm;refine ha ρ σ H hd ls _ _ h1 hR hL e1 λρ1 H1 v1 x1 R1 r1=>?_;refine hb ρ1 σ H1 h1 ls _ _ _ R1 (hL.ext hR x1) e2 λρ2 H2 v2 x2 R2 r2=>?_;simp only[RD,RI]at r2;subst r2;have r1:=r1.ext R1 x2;obtain⟨a,xs,rfl,sq,rs⟩:=r1.tup (ds:=is.map D.im) rfl;have hl:xs.length=is.length:=by have:=rs.len;simpa using this
   refine⟨a,k,xs,rfl,rfl,sq,λz=>c.1 (length_eq_zero_iff.mp (by rw[<- hl,z];rfl)),c.2.1,by rw[hl];exact c.2.2,λe=>?_,λe p hp=>?_⟩
   .subst e;refine hQ ρ2 H2 _ (x1.trans R1 x2) R2 ?_;simpa using r1
   .obtain⟨R3,x3⟩:=R2.hid (ho:=.tup (List.replicate k.toNat xs).flatten) hp;refine hQ ρ2 _ _ ((x1.trans R1 x2).trans R2 x3) R3 ?_;have e3:D.im (.tup (List.replicate k.toNat is).flatten)=Ab ((List.replicate k.toNat is).flatten.map D.im):=(Bz _).symm;rw[e3];refine BS (SqT.of AL) ?_;have:=((rs.rep k.toNat).ext R2 x3)
    have e4:(List.replicate k.toNat is).flatten.map D.im=(List.replicate k.toNat (is.map D.im)).flatten:=by rw[List.map_flatten,List.map_replicate]
    rw[e4];exact this
  .cases hm
 .cases hm
def VD(K:PySem.W.Frag){X:Cx}{a b:Expr}{ta tb:TE}{ma mb:ME}{pos:Pos}(ha:QE K X a ta ma)(hb:QE K X b tb mb)(hK:X.K=K:=by rfl):QE K X (.BinOp a .Mult b pos) (tOp (OT K) ta tb) (HP ma mb):=⟨Kt (Vi K hK) ha.p hb.p,Ug ha.r hb.r⟩
def UK{ma mb:ME}{ls:Ls}{hd:Hd}{QE:D->Hd->Prop}(h:WE ma ls hd λd x=>WE mb ls x λe y=>∃is k,d=.im (.tup is)/\e=.im (.int k)/\is≠[]/\(0<=k/\k<=1000)/\is.length*k.toNat<=100000/\QE (.im (.tup (List.replicate k.toNat is).flatten)) y):WE (HP ma mb) ls hd QE:=by
 obtain⟨d,x,e1,e,y,e2,is,k,rfl,rfl,c1,c2,c3,q⟩:=h;exact⟨_,_,by simp only[HP,e1,bind_some,e2];rw[if_pos ⟨c1,c2,c3⟩],q⟩
end
end L2
namespace HT
open PySem PyProof.Rows
open PySem.AutoSeq1 (wpAny_loadPart')
section
variable{prog:Program}{w:World}{A:Around}{E:Value->Shared->Prop}{s:Shared}
def Im{it t:Addr}{i:Nat}{items:Array Value}{x:Value}{Q:Value->Shared->Prop}(hit:s.heap.IsTupleIter it t i)(ht:s.heap.IsTuple t items)(hx:items[i]?=some x)
 (hQ:∀h',h'.IsTupleIter it t (i+1)->Heap.SameBut it s.heap h'->Q x { s with heap:=h' }):wpAny (model prog w) A (Builtin.SmallTypes.nextOf (.ref it)) Q E s:=by
 obtain⟨o,ho,hc,hd⟩:=id hit;obtain⟨ol,hol,_,nl,hdl⟩:=ht;unfold Builtin.SmallTypes.nextOf;refine wpAny_bind (wpAny_callSpecial?_slot (name:=Str.ofString "__next__") hit.typeIs F.slot_tuple_iterator_next
  (wpAny_call_entry F.slot_tuple_iterator_next hit.typeIs F.entry_tuple_iterator_next ?_ (F.args_tuple_iterator_next_1 _)))
 show wpAny _ _ (field (.ref it) 0 >>= _) _ _ s;refine wpAny_bind (wpAny_field ho hd (x:=.ref t) rfl ?_);show wpAny _ _ (if(Value.ref t==Value.none)=true then _ else _) _ _ s;rw[if_neg (show ¬ ((Value.ref t==Value.none)=true)from Bool.false_ne_true)];show wpAny _ _ (field (.ref it) 1 >>= _) _ _ s;refine wpAny_bind (wpAny_field ho hd (x:=.int i 0) rfl ?_);show wpAny _ _ (seqItems? (.ref t) >>= _) _ _ s;refine wpAny_bind (wpAny_seqItems hol hdl ?_);simp only[toNat_natCast,hx];refine wpAny_bind (wpAny_setField ho hd (by simp) (wpAny_pure ⟨x,rfl,wpAny_pure (hQ _ ?_ (Heap.SameBut.update ..))⟩));exact⟨_,Heap.get?_update_self _ ho (Obj.isFreed_of_fields (Obj.data_mapFields hd _)),(Obj.cls_mapFields ..).trans hc,by rw[Obj.data_mapFields hd];simp[rawInt]⟩
def Jb{it t:Addr}{i:Nat}{items:Array Value}{Q:Value->Shared->Prop}(hh:A.handled=none)(hit:s.heap.IsTupleIter it t i)(ht:s.heap.IsTuple t items)(hx:items[i]?=none)
 (hE:∀h' e,Heap.ExtBut it s.heap h'->(∃o,h'.get? e=some o/\o.cls=.type "StopIteration")->E (.ref e) { s with heap:=h' }):wpAny (model prog w) A (Builtin.SmallTypes.nextOf (.ref it)) Q E s:=by
 obtain⟨o,ho,hc,hd⟩:=id hit;obtain⟨ol,hol,_,nl,hdl⟩:=ht;unfold Builtin.SmallTypes.nextOf;refine wpAny_bind (wpAny_callSpecial?_slot (name:=Str.ofString "__next__") hit.typeIs F.slot_tuple_iterator_next
  (wpAny_call_entry F.slot_tuple_iterator_next hit.typeIs F.entry_tuple_iterator_next ?_ (F.args_tuple_iterator_next_1 _)))
 show wpAny _ _ (field (.ref it) 0 >>= _) _ _ s;refine wpAny_bind (wpAny_field ho hd (x:=.ref t) rfl ?_);show wpAny _ _ (if(Value.ref t==Value.none)=true then _ else _) _ _ s;rw[if_neg (show ¬ ((Value.ref t==Value.none)=true)from Bool.false_ne_true)];show wpAny _ _ (field (.ref it) 1 >>= _) _ _ s;refine wpAny_bind (wpAny_field ho hd (x:=.int i 0) rfl ?_);show wpAny _ _ (seqItems? (.ref t) >>= _) _ _ s;refine wpAny_bind (wpAny_seqItems hol hdl ?_);simp only[toNat_natCast,hx];refine wpAny_bind (wpAny_rule (wpAny_bind (wpAny_setField ho hd (by simp) ?_)));show wpAny _ _ (newExc (.type "StopIteration") [] >>= _) _ _ _;refine wpAny_bind ?_;simp only[newExc,newTuple];refine wpAny_bind (wpAny_newObj_type ?_ (by size_fits));refine wpAny_bind (m:=firstArgMember _ _) (wpAny_of_eq (a:=Value.none) (by first|rfl|(simp only[firstArgMember];rfl)) ?_);refine wpAny_newObj_type ?_ (by size_fits);simp only[raiseNew];refine wpAny_bind (wpAny_handled ?_)
 first|rw[show A.in1.handled=none from hh]|rw[hh]
 refine wpAny_bind (wpAny_pure (wpAny_throw ?_));exact hE _ _ (((Heap.SameBut.update ..).extBut.push _).push _) ⟨_,Heap.get?_push_size _ rfl,rfl⟩
def drawsT(hh:A.handled=none)(it t:Addr)(hne:t≠it)(items:Array Value):
 Draws prog w A it [it,t] items.size (λi v=>items[i]?=some v) (λi h=>h.IsTupleIter it t i/\h.IsTuple t items) where
 live:=λ_ _ st=>let ⟨o,ho,_⟩:=st.1;⟨o,ho⟩
 frame:=λ_ _ _ st hk=>⟨let ⟨o,ho,r⟩:=st.1;⟨o,hk it (by simp) o ho,r⟩,let ⟨o,ho,r⟩:=st.2;⟨o,hk t (by simp) o ho,r⟩⟩
 item:=λi s Q E hi st hQ=>by
  refine Im st.1 st.2 (x:=items[i]) (by simp[hi]) λh' hit' hs'=>?_;exact hQ _ h' s.toks (by simp[hi]) ⟨hit',st.2.extBut hs'.extBut hne⟩ hs'
 done:=λs Q E st hE=>Jb hh st.1 st.2 (by simp) hE
end
def Qo(l:Addr)(items:Array Value)(n:Nat)(dct:Option Addr)(sl:Array (Option Value)):
 Meets (Builtin.«enumerate.__new__» ⟨[.type "enumerate",.ref l],[]⟩) (λ_ R s=>s.heap.get? l=some { cls:=.type "tuple",dict:=dct,data:=.seq items n,slots:=sl } /\
  R (.ok (.ret (.ref (s.heap.push { cls:=.type "tuple_iterator",data:=.fields #[.ref l,.int 0 0] }).objs.size)))
   { s with heap:=(s.heap.push { cls:=.type "tuple_iterator",data:=.fields #[.ref l,.int 0 0] }).push { cls:=.type "enumerate",data:=.fields #[.none,.bool false,.ref s.heap.objs.size,rawInt 0,.none,.none] } }):=
 .of_wp λprog w A R s h=>by
  obtain⟨hp,g,d,tk,os⟩:=s;obtain⟨hl,h⟩:=h;have hsub:=sub_enumerate;have hL:Heap.IsTuple (Shared.heap ⟨hp,g,d,tk,os⟩) l items:=⟨_,hl,rfl,n,rfl⟩
  wp_walk using wpAny_loadPart' hl
  refine wpAny_stack_any λst=>wpAny_pure ?_;split
  .rename_i c _ _ _ _ _
   cases(c==Value.type "enumerate")
   .wp_walk using wpAny_loadPart' hl,wpAny_pyIter_tuple hL
    exact⟨_,rfl,h⟩
   .wp_walk using wpAny_loadPart' hl,wpAny_pyIter_tuple hL
    exact⟨_,rfl,h⟩
  .wp_walk using wpAny_loadPart' hl,wpAny_pyIter_tuple hL
   exact⟨_,rfl,h⟩
def call_enumT{prog:Program}{w:World}{A:Around}{E:Value->Shared->Prop}{s:Shared}{l:Addr}{items:Array Value}{Q:Value->Shared->Prop}(hL:IsTup s.heap l items)
 (h:∀h',IsEnum h' (s.heap.objs.size+1) s.heap.objs.size 0 .none->h'.IsTupleIter s.heap.objs.size l 0->h'.objs.size=s.heap.objs.size+2 ->
  (∀b o,s.heap.get? b=some o->h'.get? b=some o)->Q (.ref (s.heap.objs.size+1)) { s with heap:=h' }):
 wpAny (model prog w) A (call (.type "enumerate") [.ref l]) Q E s:=by
 obtain⟨⟨c,dct,dt,sl⟩,hl,hc,n,hd⟩:=hL
 replace hc:c=.type "tuple":=hc
 replace hd:dt=.seq items n:=hd
 subst hc hd;refine callType_new F.called_enumerate (by decide) (F.typeCall_enumerate_1 _) (F.newCall_enumerate_1 _) (λobj=>F.args_object_init_2 obj _) F.entry_enumerate_new
  (Qo l items n dct sl) ⟨hl,?_⟩
 have hz:(s.heap.push { cls:=.type "tuple_iterator",data:=.fields #[.ref l,.int 0 0] }).objs.size=s.heap.objs.size+1:=Heap.size_push ..;show _/\_;rw[hz];have he:IsEnum ((s.heap.push { cls:=.type "tuple_iterator",data:=.fields #[.ref l,.int 0 0] }).push
  { cls:=.type "enumerate",data:=.fields #[.none,.bool false,.ref s.heap.objs.size,rawInt 0,.none,.none] }) (s.heap.objs.size+1) s.heap.objs.size 0 .none:=by
  have:=Heap.get?_push_size (s.heap.push { cls:=.type "tuple_iterator",data:=.fields #[.ref l,.int 0 0] })
   (o:={ cls:=.type "enumerate",data:=.fields #[.none,.bool false,.ref s.heap.objs.size,rawInt 0,.none,.none] }) rfl
  rw[hz]at this;exact this
 refine⟨⟨_,he,rfl⟩,h _ he ⟨_,Heap.get?_push_of_some _ (Heap.get?_push_size _ rfl),rfl,rfl⟩ (by rw[Heap.size_push,hz]) λb o x=>Heap.get?_push_of_some _ (Heap.get?_push_of_some _ x)⟩
end HT
namespace L2
open PySem PySem.Spec PyProof.Rows
structure ETt(h:Heap)(e it l:Addr)(i:Nat):Prop where
 e:∃old,IsEnum h e it i old
 r:h.IsTupleIter it l i
def ItT(K:PySem.W.Frag)(a:Addr):It:=
 ⟨λi H=>∃xs x,SqT K H a xs/\xs[i]?=some x,
  λi H x H'=>∃p v,H p=none/\H'=upd H p (.tup [.int (i:Int),v])/\x=.ref p/\∀xs,SqT K H a xs->xs[i]?=some v,
  λi H=>∃xs,SqT K H a xs/\xs.length=i⟩
def Nx{P:Program}{w:World}{K:PySem.W.Frag}{elts:List Expr}{kk:Nat}{tpos:Pos}{e it l:Addr}(ne:e≠it)(nl:l≠it)(nle:e≠l):Turn P w K (.Tuple elts kk tpos) (ItT K l) [e,it] e (λi h=>ETt h e it l i) where
 mem:=by simp
 obj:=λi h st c hc=>by
  obtain⟨⟨old,he⟩,hr⟩:=st;simp only[mem_cons,not_mem_nil,or_false]at hc;rcases hc with rfl|rfl
  .exact⟨_,he,λv z=>by cases(show Data.fields _=Data.cell v from z)⟩
  .obtain⟨o,q,_,d⟩:=hr;exact⟨o,q,λv z=>by rw[d]at z;cases z⟩
 keep:=λi h h' st k=>by
  obtain⟨⟨old,he⟩,o,q,r⟩:=st;exact⟨⟨old,k e (by simp) _ he⟩,o,k it (by simp) _ q,r⟩
 item:=by
  intro X hP hw hK hc i pins s σ H E I hf st hg;subst hP hw hK;obtain⟨xs,x,h1,hx⟩:=hg;obtain⟨its,r,pl,hz⟩:=I.tuple h1;obtain⟨u,hu,ru⟩:=r.get hx;obtain⟨⟨old,he⟩,hr⟩:=st;have hlt:i<its.toArray.size:=by
   have:=(List.getElem?_eq_some_iff.mp hu).1;simpa using this
  have hd:X.A.in1.handled=none:=I.ok.hd hc;refine wpAny_pyNext_enum_itemD (HT.drawsT hd it l nl its.toArray) he ⟨hr,pl⟩ hlt ne (by simp;exact⟨ne,nle⟩) λx' g tk hx' ho hr' ht hsz kp=>⟨_,rfl,?_⟩
  have ex:x'=u:=by
   have hx':its.toArray[i]?=some x':=hx';rw[List.getElem?_toArray,hu]at hx';exact(Option.some.inj hx').symm
  subst ex;refine wpAny_letOwnedTupleGo_enum ho λg' e' sb=>?_;have hle:e<s.heap.objs.size:=Heap.lt_size he;have kp2:∀c o,c∉[e,it]->s.heap.get? c=some o->g'.get? c=some o:=λc o nc q=>by
   simp only[mem_cons,not_mem_nil,or_false,not_or]at nc;exact sb.extBut _ _ nc.1 (kp c o nc.1 nc.2 q)
  have hT:s.heap.objs.size≠e:=ne_of_gt hle;have hpair:g'.get? s.heap.objs.size=some { cls:=.type "tuple",data:=.seq #[.int i tk,x'] }:=sb.extBut _ _ hT ht;have fresh:H s.heap.objs.size=none:=I.hok.fresh (le_refl _);have I2:Inv X pins σ (upd H s.heap.objs.size (.tup [.int (i:Int),x])) { s with heap:=g',toks:=tk+1 }:=I.turnsL (tk:=tk+1) (o:=.tup [.int (i:Int),x]) kp2 hf (le_refl _)
   (show ObjOk X.prog X.w _ g' _ (.tup [.int (i:Int),x])from⟨by show 2<=sizeLine;decide,[.int i tk,x'],.cons ⟨_,rfl⟩ (.cons ru .nil),⟨_,hpair,rfl,⟨_,rfl⟩,rfl⟩⟩)
  refine⟨.ref s.heap.objs.size,_,I2,rfl,⟨s.heap.objs.size,x,fresh,rfl,rfl,λxs' q=>by rw[I.tuple_inj q h1];exact hx⟩,⟨⟨x',?_⟩,?_⟩,λc hc=>?_⟩
  .have:=e';rw[show((i:Int)+1)=((i+1:Nat):Int) by omega]at this;exact this
  .exact hr'.1.extBut sb.extBut (Ne.symm ne)
  .have lt:c<s.heap.objs.size:=by
    simp only[mem_cons,not_mem_nil,or_false]at hc;rcases hc with rfl|rfl
    .exact hle
    .obtain⟨o,q,_⟩:=hr;exact Heap.lt_size q
   rw[AE (ne_of_lt lt)];exact(hf c hc).1
 done:=by
  intro X hP hw hK hc i pins s σ H E I hf st hg;subst hP hw hK;obtain⟨xs,h1,hend⟩:=hg;obtain⟨its,r,pl,hz⟩:=I.tuple h1;have l1':=r.length;obtain⟨⟨old,he⟩,hr⟩:=st;have hd:X.A.in1.handled=none:=I.ok.hd hc;have en:i=its.toArray.size:=by simp;omega
  subst en;refine wpAny_pyNext_enum_endD (HT.drawsT hd it l nl its.toArray) he ⟨hr,pl⟩ λg x=>⟨rfl,?_⟩
  exact I.turns (tk:=s.toks) (λc o nc q=>by
   simp only[mem_cons,not_mem_nil,or_false,not_or]at nc;exact x c o nc.2 q) hf
 self:=λ_ _ _ _ _ st h=>by
  obtain⟨⟨old,he⟩,hr⟩:=st;exact wpAny_pyIter_enum he h
def MK(K:PySem.W.Frag)(ta:TA):TI:=λσ H R=>ta σ H λvs H1=>∃a xs,vs=[.ref a]/\SqT K H1 a xs/\R (ItT K a) H1
def Sn(K:PySem.W.Frag){X:Cx}{a:Expr}{ta:TA}{elts:List Expr}{kk:Nat}{tpos p pos:Pos}(hg:Gl X "enumerate")(hm:X.mg "enumerate"=none)(ha:PA X [a] ta)(hK:X.K=K:=by rfl)(hs:starEach [a] X.env=[(false,eval a X.env)]:=by rfl):
 PI X (.Tuple elts kk tpos) (.Call (.Name "enumerate" p) [a] [] pos) (MK K ta):=by
 subst hK;intro pins s σ H R I h;refine Call_ (C7 I hg hm D2 (PyProof.Rows.callWith_type1 (thn (ha pos pins s σ H _ I h) λus s1 ⟨vs,H1,I1,r1,q1⟩=>?_) hs rfl));obtain⟨l,xs,e,c,q⟩:=q1;subst e;obtain⟨u,rfl,ru⟩:=r1.one;cases ru;obtain⟨its,r,pl,hz⟩:=I1.tuple c;have ll:l<s1.heap.objs.size:=by obtain⟨o,ho,_⟩:=pl;exact Heap.lt_size ho
 refine HT.call_enumT pl λg he hr hsz kp=>wpAny_pyIter_enum he ?_;refine⟨_,_,_,_,H1,rfl,I1.kept (t':=s1.toks) kp,Nx (ne_of_gt (lt_succ_self _)) (ne_of_lt ll) (ne_of_gt (lt_succ_of_lt ll)),⟨⟨_,he⟩,hr⟩,λc hc=>?_,q⟩;simp only[mem_cons,not_mem_nil,or_false]at hc;have le:s1.heap.objs.size<=c:=by
  rcases hc with rfl|rfl
  .exact le_add_right _ _
  .exact le_refl _
 exact I1.fpOk le (I1.hok.fresh le)
def SD{K:PySem.W.Frag}{ta:TE}{ma:MI}(ha:RRw K true ta ma):RIt K (MK K (Ax ta BG)) (BY ma):=by
 intro ρ σ H hd ls Q d g hd' hR hL hm hQ;obtain⟨⟨⟨d1,g1⟩,h1⟩,e1,e2⟩:=cv hm;cases e2;refine ha ρ σ H hd ls _ d1 g1 h1 hR hL e1 λρ1 H1 a x1 R1 G1 S1=>?_;obtain⟨xs,c1,r1⟩:=S1 ρ1 H1 _ .refl R1 G1;refine⟨a,xs,rfl,c1,hQ ρ1 H1 _ x1 R1 G1 ?_⟩;intro ρ3 H3 hd3 x3 R3 G3 i;obtain⟨xs,c1,r1⟩:=S1 ρ3 H3 _ x3 R3 G3;have l1:=r1.len;refine⟨λhi=>?_,λhi=>⟨xs,c1,?_⟩⟩
 .have hi:i<d1.length:=by simpa using hi
  have i1:d1[i]?=some (d1[i]'hi):=List.getElem?_eq_getElem _;obtain⟨x,x4,x5⟩:=r1.get i1;refine⟨⟨xs,x,c1,x4⟩,λz H4 hz=>?_⟩;obtain⟨p,v,fp,rfl,rfl,hv⟩:=hz;have ev:=hv xs c1;rw[x4]at ev;cases ev;obtain⟨R4,x6⟩:=R3.hid (ho:=.tup [.int (i:Int),x]) fp;refine⟨ρ3,Ab [.im (.int (i:Int)),d1[i]'hi],x6,rfl,R4,?_,BS (SqT.of AL) (.cons (by simp[RD,RI]) (.cons (x5.ext R3 x6) .nil))⟩;simp[i1]
 .have hi:i=d1.length:=by simpa using hi
  omega
def Sa(K:PySem.W.Frag){X:Cx}{a:Expr}{ta:TE}{ma:MI}{elts:List Expr}{kk:Nat}{tpos p pos:Pos}(hm:X.mg "enumerate"=none)(ha:QR K true X a ta ma)(hg:Gl X "enumerate":=by rfl)(hK:X.K=K:=by rfl)(hs:starEach [a] X.env=[(false,eval a X.env)]:=by rfl):
 QI K X (.Tuple elts kk tpos) (.Call (.Name "enumerate" p) [a] [] pos) (MK K (Ax ta BG)) (BY ma):=⟨Sn K hg hm (BH ha.p By hs) hK hs,SD ha.r⟩
end L2
namespace HS
open PySem PyProof.Rows
open PySem.AutoSeq1 (wpAny_loadPart')
open Sem (wp)
abbrev st(t:Tok):List (Str×Value):=[(Str.ofString "start",.int 1 t)]
section
variable{prog:Program}{w:World}{A:Around}{E:Value->Shared->Prop}{s:Shared}
def tcS(a b:Value):checkTypeCall "enumerate" ⟨[a],[(Str.ofString "start",b)]⟩=pure ():=by kernel_rfl
def ncS(a b:Value):checkBuiltinCall "enumerate.__new__" ⟨[.type "enumerate",a],[(Str.ofString "start",b)]⟩=pure ():=by kernel_rfl
def aiS(a b c:Value):argsOk "object.__init__" ⟨[a,b],[(Str.ofString "start",c)]⟩:=by
 unfold argsOk;rw[signature?_of (id:="object.__init__") (n:=['_','_','t','i','n','i','_','_']) (o:=['t','c','e','j','b','o']) (by kernel_rfl) F.owner_object];kernel_rfl
def Qp(l:Addr)(items:Array Value)(n:Nat)(t:Tok)(dct:Option Addr)(sl:Array (Option Value)):
 Meets (Builtin.«enumerate.__new__» ⟨[.type "enumerate",.ref l],st t⟩) (λ_ R s=>s.heap.get? l=some { cls:=.type "list",dict:=dct,data:=.seq items n,slots:=sl } /\
  R (.ok (.ret (.ref (s.heap.push { cls:=.type "list_iterator",data:=.fields #[.ref l,.int 0 0] }).objs.size)))
   { s with heap:=(s.heap.push { cls:=.type "list_iterator",data:=.fields #[.ref l,.int 0 0] }).push { cls:=.type "enumerate",data:=.fields #[.none,.bool false,.ref s.heap.objs.size,rawInt 1,.none,.none] } }):=
 .of_wp λprog w A R s h=>by
  obtain⟨hp,g,d,tk,os⟩:=s;obtain⟨hl,h⟩:=h;have hsub:=sub_enumerate;have hL:Heap.IsList (Shared.heap ⟨hp,g,d,tk,os⟩) l items:=⟨_,hl,rfl,n,rfl⟩
  wp_walk using wpAny_loadPart' hl
  refine wpAny_stack_any λst=>wpAny_pure ?_;split
  .rename_i c _ _ _ _ _
   cases(c==Value.type "enumerate")
   .wp_walk using wpAny_loadPart' hl,wpAny_pyIter_list hL
    exact⟨_,rfl,h⟩
   .wp_walk using wpAny_loadPart' hl,wpAny_pyIter_list hL
    exact⟨_,rfl,h⟩
  .wp_walk using wpAny_loadPart' hl,wpAny_pyIter_list hL
   exact⟨_,rfl,h⟩
def ag{T id:String}{x a b:Value}(hl:typeLookup (.type T) "__init__"=pure (some (.builtin "object.__init__")))(hm:Bind.madeBy (.type T)=pure (some id))(hne:(some id != some "object.__new__")=true):
 Meets (Builtin.«object.__init__» ⟨[x,a],[(Str.ofString "start",b)]⟩) (λ_ R s=>s.TypeIs x T/\R (.ok (.ret .none)) s):=by
 refine Meets.of_wp λprog w A R s hs=>?_;obtain⟨hT,hq⟩:=hs
 repeat (any_goals (first|assumption|wp_step))
 exact⟨_,rfl,hq⟩
def call_enumS{l:Addr}{items:Array Value}{t:Tok}{Q:Value->Shared->Prop}(hL:s.heap.IsList l items)
 (h:∀h',IsEnum h' (s.heap.objs.size+1) s.heap.objs.size 1 .none->h'.IsListIter s.heap.objs.size l 0->h'.objs.size=s.heap.objs.size+2->(∀b o,s.heap.get? b=some o->h'.get? b=some o)->Q (.ref (s.heap.objs.size+1)) { s with heap:=h' }):
 wpAny (model prog w) A (call (.type "enumerate") [.ref l] (st t)) Q E s:=by
 obtain⟨⟨c,dct,dt,sl⟩,hl,hc,n,hd⟩:=hL
 replace hc:c=.type "list":=hc
 replace hd:dt=.seq items n:=hd
 subst hc hd;have ft:=F.called_enumerate;obtain⟨c,tl,hmro⟩:=ft.mro;have hmade:=ft.made;have hsub:=ft.sub;refine wpAny_call (codeAny_of_tree ?_);show wpAny _ _ (callAny (.type "enumerate") _) _ _ _;refine wpAny_pure ⟨Code.quiet_builtin _ (by decide +kernel),codeAny_builtin F.entry_type_call ?_⟩;rw[Around.under_plain (weight_type_call_type "enumerate" [.ref l] (st t)) (units_type_call_type "enumerate" [.ref l] (st t))];have h1:=ft.notType;have h2:=ft.canCreate;have hct:=tcS (.ref l) (.int 1 t);have hcn:=ncS (.ref l) (.int 1 t)
 repeat (any_goals (first|assumption|wp_step))
 refine codeAny_mono (codeAny_call_builtin ft.plain F.entry_enumerate_new (wpAny_of_eq hcn (Qp l items n t dct sl prog w A.in1 (wants (λobj s₁=>s₁.TypeIs obj "enumerate"/\Q obj s₁) E) s ⟨hl,?_⟩))) λr s₁ hr=>?_
 .have hz:(s.heap.push { cls:=.type "list_iterator",data:=.fields #[.ref l,.int 0 0] }).objs.size=s.heap.objs.size+1:=Heap.size_push ..;show _/\_;rw[hz];have he:IsEnum ((s.heap.push { cls:=.type "list_iterator",data:=.fields #[.ref l,.int 0 0] }).push { cls:=.type "enumerate",data:=.fields #[.none,.bool false,.ref s.heap.objs.size,rawInt 1,.none,.none] }) (s.heap.objs.size+1) s.heap.objs.size 1 .none:=by
   have:=Heap.get?_push_size (s.heap.push { cls:=.type "list_iterator",data:=.fields #[.ref l,.int 0 0] }) (o:={ cls:=.type "enumerate",data:=.fields #[.none,.bool false,.ref s.heap.objs.size,rawInt 1,.none,.none] }) rfl;rw[hz]at this;exact this
  exact⟨⟨_,he,rfl⟩,h _ he ⟨_,Heap.get?_push_of_some _ (Heap.get?_push_size _ rfl),rfl,rfl⟩ (by rw[Heap.size_push,hz]) λb o x=>Heap.get?_push_of_some _ (Heap.get?_push_of_some _ x)⟩
 .cases r with
  |error e=>exact hr
  |ok fl=>
   cases fl with
   |ret obj=>
    obtain⟨hT,hq0⟩:=hr;have hli:=ft.init.lookup;have hbi:=ft.init.bind obj
    repeat (any_goals (first|assumption|wp_step))
    refine codeAny_mono (codeAny_call_builtin ft.init.plain F.entry_object_init (ft.init.check _ _ _ _ _ _ _ _ hT (aiS obj (.ref l) (.int 1 t)) (ag (x:=obj) (a:=.ref l) (b:=.int 1 t) hli hmade (by decide) prog w A.in1 (wants (λr s₂=>r=.none/\Q obj s₂) E) s₁ ⟨hT,rfl,hq0⟩))) λr₂ s₂ hr₂=>?_;cases r₂ with
    |error e=>exact hr₂
    |ok fl₂=>
     cases fl₂ with
     |ret r=>
      obtain⟨rfl,hq⟩:=hr₂
      repeat (any_goals (first|assumption|wp_step))
     |_=>exact hr₂.elim
   |_=>exact hr.elim
def shift{it:Addr}{fp:List Addr}{n:Nat}{P:Nat->Value->Prop}{St:Nat->Heap->Prop}(D:Draws prog w A it fp n P St):Draws prog w A it fp (n+1) (λj v=>P (j-1) v) (λj h=>1<=j/\St (j-1) h) where
 live:=λ_ _ z=>D.live _ _ z.2
 frame:=λ_ _ _ z hk=>⟨z.1,D.frame _ _ _ z.2 hk⟩
 item:=λi s Q E hi z hQ=>D.item (i-1) s Q E (by omega) z.2 λx h' tk p q b=>hQ x h' tk p ⟨by omega,by rw[show i+1-1=i-1+1 by have:=z.1;omega];exact q⟩ b
 done:=λs Q E z hE=>D.done s Q E z.2 hE
end
def callWith_typeK{M:Model}{A:Around}{E:Value->Shared->Prop}{s:Shared}{pos:Pos}{T:String}{args:List (Bool×Sem Value)}{kws:List (Option Str×Sem Value)}{Q:Value->Shared->Prop}(hp:args.any (·.1)=false)(hk:kws.any (·.1.isNone)=false)
 (h:wpAny M A (evalArgs (.type T) true args kws) (λa s₁=>wpAny M A (call (.type T) a.pos a.kw) Q E s₁) E s):wpAny M A (callWith pos (.type T) [] args kws) Q E s:=by
 unfold callWith;refine wpAny_bind (wpAny_holding (wpAny_mono h (λa s₁ h₁=>wpAny_bind (wpAny_standAt ?_)) λ_ _ x=>x));simp only[hp,hk,Bool.or_false];exact wpAny_bind (wpAny_pure (wpAny_bind (wpAny_mono h₁ (λr s₂ hr=>wpAny_bind (wpAny_holding (wpAny_point (wpAny_pure hr)))) λ_ _ x=>x)))
end HS
namespace L2
open PySem PySem.Spec PyProof.Rows
structure ESt(h:Heap)(e it l:Addr)(i:Nat):Prop where
 e:∃old,IsEnum h e it ((i+1:Nat):Int) old
 r:h.IsListIter it l i
def ItS(K:PySem.W.Frag)(a:Addr):It:=
 ⟨λi H=>∃xs x,SqL K H a xs/\xs[i]?=some x,
  λi H x H'=>∃p v,H p=none/\H'=upd H p (.tup [.int ((i:Int)+1),v])/\x=.ref p/\∀xs,SqL K H a xs->xs[i]?=some v,
  λi H=>∃xs,SqL K H a xs/\xs.length=i⟩
def Ny{P:Program}{w:World}{K:PySem.W.Frag}{elts:List Expr}{kk:Nat}{tpos:Pos}{e it l:Addr}(ne:e≠it)(nl:l≠it)(nle:e≠l):Turn P w K (.Tuple elts kk tpos) (ItS K l) [e,it] e (λi h=>ESt h e it l i) where
 mem:=by simp
 obj:=λi h st c hc=>by
  obtain⟨⟨old,he⟩,hr⟩:=st;simp only[mem_cons,not_mem_nil,or_false]at hc;rcases hc with rfl|rfl
  .exact⟨_,he,λv z=>by cases(show Data.fields _=Data.cell v from z)⟩
  .obtain⟨o,q,_,d⟩:=hr;exact⟨o,q,λv z=>by rw[d]at z;cases z⟩
 keep:=λi h h' st k=>by
  obtain⟨⟨old,he⟩,o,q,r⟩:=st;exact⟨⟨old,k e (by simp) _ he⟩,o,k it (by simp) _ q,r⟩
 item:=by
  intro X hP hw hK hc i pins s σ H E I hf st hg;subst hP hw hK;obtain⟨xs,x,h1,hx⟩:=hg;obtain⟨its,r,pl,hz⟩:=I.list h1;obtain⟨u,hu,ru⟩:=r.get hx;obtain⟨⟨old,he⟩,hr⟩:=st;have hd:X.A.in1.handled=none:=I.ok.hd hc;have hlt:i<its.toArray.size:=by
   have:=(List.getElem?_eq_some_iff.mp hu).1;simpa using this
  refine wpAny_pyNext_enum_itemD (HS.shift (Draws.list hd it l nl its.toArray)) he ⟨by omega,by simpa using hr,pl.isList⟩ (by omega) ne (by simp;exact⟨ne,nle⟩) λx' g tk hx' ho hr' ht hsz kp=>⟨_,rfl,?_⟩
  have ex:x'=u:=by
   have hx':its.toArray[i]?=some x':=hx';rw[List.getElem?_toArray,hu]at hx';exact(Option.some.inj hx').symm
  subst ex;refine wpAny_letOwnedTupleGo_enum ho λg' e' sb=>?_;have hle:e<s.heap.objs.size:=Heap.lt_size he;have kp2:∀c o,c∉[e,it]->s.heap.get? c=some o->g'.get? c=some o:=λc o nc q=>by
   simp only[mem_cons,not_mem_nil,or_false,not_or]at nc;exact sb.extBut _ _ nc.1 (kp c o nc.1 nc.2 q)
  have hT:s.heap.objs.size≠e:=ne_of_gt hle;have hpair:g'.get? s.heap.objs.size=some { cls:=.type "tuple",data:=.seq #[.int ((i+1:Nat):Int) tk,x'] }:=sb.extBut _ _ hT ht;have fresh:H s.heap.objs.size=none:=I.hok.fresh (le_refl _);have I2:Inv X pins σ (upd H s.heap.objs.size (.tup [.int ((i:Int)+1),x])) { s with heap:=g',toks:=tk+1 }:=I.turnsL (tk:=tk+1) (o:=.tup [.int ((i:Int)+1),x]) kp2 hf (le_refl _)
   (show ObjOk X.prog X.w _ g' _ (.tup [.int ((i:Int)+1),x])from⟨by show 2<=sizeLine;decide,[.int ((i+1:Nat):Int) tk,x'],.cons ⟨_,rfl⟩ (.cons ru .nil),⟨_,hpair,rfl,⟨_,rfl⟩,rfl⟩⟩)
  refine⟨.ref s.heap.objs.size,_,I2,rfl,⟨s.heap.objs.size,x,fresh,rfl,rfl,λxs' q=>by rw[I.list_inj q h1];exact hx⟩,⟨⟨x',?_⟩,?_⟩,λc hc=>?_⟩
  .have:=e';rw[show(((i+1:Nat):Int)+1)=((i+1+1:Nat):Int) by omega]at this;exact this
  .have q:=hr'.2.1;exact q.extBut sb.extBut (Ne.symm ne)
  .have lt:c<s.heap.objs.size:=by
    simp only[mem_cons,not_mem_nil,or_false]at hc;rcases hc with rfl|rfl
    .exact hle
    .obtain⟨o,q,_⟩:=hr;exact Heap.lt_size q
   rw[AE (ne_of_lt lt)];exact(hf c hc).1
 done:=by
  intro X hP hw hK hc i pins s σ H E I hf st hg;subst hP hw hK;obtain⟨xs,h1,hend⟩:=hg;obtain⟨its,r,pl,hz⟩:=I.list h1;have l1':=r.length;obtain⟨⟨old,he⟩,hr⟩:=st;have hd:X.A.in1.handled=none:=I.ok.hd hc;have en:i=its.toArray.size:=by simp;omega
  subst en;refine wpAny_pyNext_enum_endD (HS.shift (Draws.list hd it l nl its.toArray)) he ⟨by omega,by simpa using hr,pl.isList⟩ λg x=>⟨rfl,?_⟩
  exact I.turns (tk:=s.toks) (λc o nc q=>by
   simp only[mem_cons,not_mem_nil,or_false,not_or]at nc;exact x c o nc.2 q) hf
 self:=λ_ _ _ _ _ st h=>by
  obtain⟨⟨old,he⟩,hr⟩:=st;exact wpAny_pyIter_enum he h
def ML(K:PySem.W.Frag)(ta:TA):TI:=λσ H R=>ta σ H λvs H1=>∃a xs,vs=[.ref a]/\SqL K H1 a xs/\R (ItS K a) H1
def So(K:PySem.W.Frag){X:Cx}{a:Expr}{ta:TA}{elts:List Expr}{kk:Nat}{j}{tpos p pos cp kp:Pos}(hg:Gl X "enumerate")(hm:X.mg "enumerate"=none)(ha:PA X [a] ta)(hK:X.K=K:=by rfl)(hs:starEach [a] X.env=[(false,eval a X.env)]:=by rfl):
 PI X (.Tuple elts kk tpos) (.Call (.Name "enumerate" p) [a] [⟨some "start",.Constant (.int 1) j cp,kp⟩] pos) (ML K ta):=by
 subst hK;intro pins s σ H R I h;refine wpAny_Call_Name_kw (C7 I hg hm D2 ?_);have pl:(backTo pos (starEach [a] X.env)).any (·.1)=false:=by rw[hs];rfl
 refine HS.callWith_typeK pl rfl (evalArgs_kw2 (env:=X.env) (e:=a) (rest:=[]) (kws:=[⟨some "start",.Constant (.int 1) j cp,kp⟩]) rfl (thn (ha pos pins s σ H _ I h) λus s1 ⟨vs,H1,I1,r1,q1⟩=>?_) hs);obtain⟨l,xs,e,c,q⟩:=q1;subst e;obtain⟨u,rfl,ru⟩:=r1.one;cases ru;show wpAny _ _ (evalAll [(do let v <- eval (.Constant (.int 1) j cp) X.env;standAt pos;pure v)]) _ _ s1;refine wpAny_evalAll_cons (wpAny_bind (wpAny_Constant_int (wpAny_bind (wpAny_standAt (wpAny_pure (wpAny_evalAll_nil ?_))))));have I2:=I1.tok (s1.toks+1);obtain⟨its,r,pl,hz⟩:=I2.list c;have ll:l<s1.heap.objs.size:=by obtain⟨o,ho,_⟩:=pl.isList;exact Heap.lt_size ho
 refine HS.call_enumS pl.isList λg he hr hsz kp=>wpAny_pyIter_enum he ?_;refine⟨_,_,_,_,H1,rfl,I2.kept (t':=s1.toks+1) kp,Ny (ne_of_gt (lt_succ_self _)) (ne_of_lt ll) (ne_of_gt (lt_succ_of_lt ll)),⟨⟨_,he⟩,hr⟩,λc hc=>?_,q⟩;simp only[mem_cons,not_mem_nil,or_false]at hc;have le:s1.heap.objs.size<=c:=by
  rcases hc with rfl|rfl
  .exact le_add_right _ _
  .exact le_refl _
 exact I2.fpOk le (I2.hok.fresh le)
section
variable{K:PySem.W.Frag}
def FZ(ma:MI):MI:=λls hd=>(ma ls hd).map λp=>((p.1.1.zipIdx.map λq=>Ab [.im (.int ((q.2:Int)+1)),q.1],p.1.2),p.2)
def SE{ta:TE}{ma:MI}(ha:RRw K false ta ma):RIt K (ML K (Ax ta BG)) (FZ ma):=by
 intro ρ σ H hd ls Q d g hd' hR hL hm hQ;obtain⟨⟨⟨d1,g1⟩,h1⟩,e1,e2⟩:=cv hm;cases e2;refine ha ρ σ H hd ls _ d1 g1 h1 hR hL e1 λρ1 H1 a x1 R1 G1 S1=>?_;obtain⟨xs,c1,r1⟩:=S1 ρ1 H1 _ .refl R1 G1;refine⟨a,xs,rfl,c1,hQ ρ1 H1 _ x1 R1 G1 ?_⟩;intro ρ3 H3 hd3 x3 R3 G3 i;obtain⟨xs,c1,r1⟩:=S1 ρ3 H3 _ x3 R3 G3;have l1:=r1.len;refine⟨λhi=>?_,λhi=>⟨xs,c1,?_⟩⟩
 .have hi:i<d1.length:=by simpa using hi
  have i1:d1[i]?=some (d1[i]'hi):=List.getElem?_eq_getElem _;obtain⟨x,x4,x5⟩:=r1.get i1;refine⟨⟨xs,x,c1,x4⟩,λz H4 hz=>?_⟩;obtain⟨p,v,fp,rfl,rfl,hv⟩:=hz;have ev:=hv xs c1;rw[x4]at ev;cases ev;obtain⟨R4,x6⟩:=R3.hid (ho:=.tup [.int ((i:Int)+1),x]) fp;refine⟨ρ3,Ab [.im (.int ((i:Int)+1)),d1[i]'hi],x6,rfl,R4,?_,BS (SqT.of AL) (.cons (by simp[RD,RI]) (.cons (x5.ext R3 x6) .nil))⟩;simp[i1]
 .have hi:i=d1.length:=by simpa using hi
  omega
def Sb(K:PySem.W.Frag){X:Cx}{a:Expr}{ta:TE}{ma:MI}{elts:List Expr}{kk:Nat}{j}{tpos p pos cp kp:Pos}(hm:X.mg "enumerate"=none)(ha:QR K false X a ta ma)(hg:Gl X "enumerate":=by rfl)(hK:X.K=K:=by rfl)(hs:starEach [a] X.env=[(false,eval a X.env)]:=by rfl):
 QI K X (.Tuple elts kk tpos) (.Call (.Name "enumerate" p) [a] [⟨some "start",.Constant (.int 1) j cp,kp⟩] pos) (ML K (Ax ta BG)) (FZ ma):=⟨So K hg hm (BH ha.p By hs) hK hs,SE ha.r⟩
def RV{ma:MI}{ls:Ls}{hd:Hd}{QI:List D×Gd->Hd->Prop}(h:WI ma ls hd λp x=>QI (p.1.zipIdx.map λq=>Ab [.im (.int ((q.2:Int)+1)),q.1],p.2) x):WI (FZ ma) ls hd QI:=by
 obtain⟨p,x,e,q⟩:=h;exact⟨_,_,by simp only[FZ,e,map_some],q⟩
end
end L2
namespace HR
open PySem PyProof.Rows
open Sem (wp)
section
variable{prog:Program}{w:World}{A:Around}{E:Value->Shared->Prop}{s:Shared}
def aN{M:Model}{a:Addr}{Q:Option Obj->Shared->Prop}(h:Q (s.heap.get? a) s):wpAny M A (loadIfAlive a) Q E s:=λΓ p _=>by
 unfold loadIfAlive;rw[Sem.wp_loadIfAlive];exact(Sem.wp_pure ..).mpr h
abbrev EnO(h:Heap)(e it:Addr)(i:Int)(a:Addr)(b:Bool)(x:Value):Prop:=h.get? e=some { cls:=.type "enumerate",dict:=none,data:=.fields #[rawInt a,.bool b,.ref it,rawInt i,.none,x],slots:=#[] }
def EnH(h:Heap)(e it:Addr)(i:Int):Prop:=∃a b x o,EnO h e it i a b x/\h.get? a=some o/\a≠e/\a≠it
def Qd{e it l:Addr}{i:Nat}{items:Array Value}{x:Value}{Q:Value->Shared->Prop}(he:EnH s.heap e it i)(hit:s.heap.IsListIter it l i)(hl:s.heap.IsList l items)(hx:items[i]?=some x)(hne:e≠it)
 (hQ:∀h',EnH h' e it ((i:Int)+1)->h'.IsListIter it l (i+1)->h'.get? s.heap.objs.size=some { cls:=.type "tuple",data:=.seq #[.int i s.toks,x] } ->
  (∀b o,b≠e->b≠it->s.heap.get? b=some o->h'.get? b=some o)->Q (.ref s.heap.objs.size) { s with heap:=h',toks:=s.toks+1 }):
 wpAny (model prog w) A (Builtin.«enumerate.__next__» ⟨[.ref e],[]⟩) (λfin s'=>∃v,fin=.done (.ret v)/\Q v s') E s:=by
 obtain⟨hp,g,d,tk,os⟩:=s;obtain⟨a,bb,y,oa,he,hoa,nae,nai⟩:=he;show wpAny _ _ (field (.ref e) 2 >>= _) _ _ _;refine wpAny_bind (wpAny_field he rfl (x:=.ref it) rfl ?_);refine wpAny_bind (wpAny_nextOf_list_item hit hl hx λh1 hit1 hs1=>?_)
 replace hs1:Heap.SameBut it hp h1:=hs1
 have he1:EnO h1 e it i a bb y:=(hs1.2 e hne).trans he;show wpAny _ _ (field (.ref e) 3 >>= _) _ _ ⟨h1,g,d,tk,os⟩;refine wpAny_bind (wpAny_field he1 rfl (x:=rawInt i) rfl ?_);show wpAny _ _ (field (.ref e) 4 >>= _) _ _ ⟨h1,g,d,tk,os⟩;refine wpAny_bind (wpAny_field he1 rfl (x:=.none) rfl ?_);show wpAny _ _ (mkInt i >>= _) _ _ ⟨h1,g,d,tk,os⟩;refine wpAny_bind (wpAny_mkInt ?_);show wpAny _ _ (setField (.ref e) 3 (rawInt ((i:Int)+1)) >>= _) _ _ ⟨h1,g,d,tk+1,os⟩;refine wpAny_bind (wpAny_setField_rec he1 (by simp) λh2 he2 hs2=>?_)
 replace hs2:Heap.SameBut e h1 h2:=hs2
 replace he2:EnO h2 e it ((i:Int)+1) a bb y:=he2
 show wpAny _ _ (setField (.ref e) 4 .none >>= _) _ _ ⟨h2,g,d,tk+1,os⟩;refine wpAny_bind (wpAny_setField_rec he2 (by simp) λh3 he3 hs3=>?_)
 replace hs3:Heap.SameBut e h2 h3:=hs3
 replace he3:EnO h3 e it ((i:Int)+1) a bb y:=he3
 show wpAny _ _ (newTuple [.int i tk,x] >>= _) _ _ ⟨h3,g,d,tk+1,os⟩;refine wpAny_bind (wpAny_newTuple ?_);have he4:EnO (h3.push { cls:=.type "tuple",data:=.seq #[.int i tk,x] }) e it ((i:Int)+1) a bb y:=Heap.get?_push_of_some _ he3;have hsz:h3.objs.size=hp.objs.size:=by rw[hs3.1,hs2.1,hs1.1]
 have hel:e<hp.objs.size:=Heap.lt_size he;have kp:∀b o,b≠e->b≠it->hp.get? b=some o->(h3.push { cls:=.type "tuple",data:=.seq #[.int i tk,x] }).get? b=some o:=λb o q1 q2 hb=>Heap.get?_push_of_some _ (hs3.extBut b o q1 (hs2.extBut b o q1 (hs1.extBut b o q2 hb)));have ht:(h3.push { cls:=.type "tuple",data:=.seq #[.int i tk,x] }).get? hp.objs.size=some { cls:=.type "tuple",data:=.seq #[.int i tk,x] }:=by rw[<- hsz];exact Heap.get?_push_size _ rfl
 have hit4:(h3.push { cls:=.type "tuple",data:=.seq #[.int i tk,x] }).IsListIter it l (i+1):=by
  obtain⟨o,ho,r⟩:=(hit1.extBut hs2.extBut (Ne.symm hne)).extBut hs3.extBut (Ne.symm hne);exact⟨o,Heap.get?_push_of_some _ ho,r⟩
 generalize h3.push { cls:=.type "tuple",data:=.seq #[.int i tk,x] }=h4 at *;have ha4:=kp a oa nae nai hoa;show wpAny _ _ (Builtin.SmallTypes.ownedTupleIsFree (.ref e) >>= _) _ _ ⟨h4,g,d,tk+1,os⟩;rw[hsz];refine wpAny_bind ?_;unfold Builtin.SmallTypes.ownedTupleIsFree;refine wpAny_bind (wpAny_field he4 rfl (x:=rawInt a) rfl ?_);show wpAny _ _ (loadIfAlive ((a:Int)).toNat >>= _) _ _ _;rw[toNat_natCast];refine wpAny_bind (aN ?_);rw[show(Shared.mk h4 g d (tk+1) os).heap.get? a=some oa from ha4];show wpAny _ _ (field (.ref e) 1 >>= _) _ _ _;refine wpAny_bind (wpAny_field he4 rfl (x:=.bool bb) rfl ?_);have fin:∀h5,EnO h5 e it ((i:Int)+1) a true y->Heap.SameBut e h4 h5->Q (.ref hp.objs.size) ⟨h5,g,d,tk+1,os⟩:=λh5 he5 hs5=>
  hQ h5 ⟨a,true,y,oa,he5,hs5.extBut _ _ nae ha4,nae,nai⟩ (hit4.extBut hs5.extBut (Ne.symm hne)) (hs5.extBut _ _ (ne_of_gt hel) ht) λb o q1 q2 hb=>hs5.extBut b o q1 (kp b o q1 q2 hb)
 cases bb with
 |true=>
  exact wpAny_pure (wpAny_pure ⟨_,rfl,fin h4 he4 ⟨rfl,λ_ _=>rfl⟩⟩)
 |false=>
  show wpAny _ _ (setField (.ref e) 1 (.bool true) >>= _) _ _ _;refine wpAny_bind (wpAny_setField_rec he4 (by simp) λh5 he5 hs5=>?_);exact wpAny_pure (wpAny_pure ⟨_,rfl,fin h5 he5 hs5⟩)
def Q9{e it l:Addr}{i:Nat}{items:Array Value}{x:Value}{Q:Option Value->Shared->Prop}(he:EnH s.heap e it i)(hit:s.heap.IsListIter it l i)(hl:s.heap.IsList l items)(hx:items[i]?=some x)(hne:e≠it)
 (hQ:∀h',EnH h' e it ((i:Int)+1)->h'.IsListIter it l (i+1)->h'.get? s.heap.objs.size=some { cls:=.type "tuple",data:=.seq #[.int i s.toks,x] } ->
  (∀b o,b≠e->b≠it->s.heap.get? b=some o->h'.get? b=some o)->Q (some (.ref s.heap.objs.size)) { s with heap:=h',toks:=s.toks+1 }):wpAny (model prog w) A (pyNext (.ref e)) Q E s:=by
 have hT:s.TypeIs (.ref e) "enumerate":=let ⟨_,_,_,_,z,_⟩:=he;⟨_,z,rfl⟩
 unfold pyNext;exact wpAny_bind (wpAny_attempt (wpAny_callSpecial?_slot (name:=Str.ofString "__next__") hT F.slot_enumerate_next (wpAny_call_entry F.slot_enumerate_next hT F.entry_enumerate_next
  (Qd he hit hl hx hne λh' a b c d=>wpAny_pure (hQ h' a b c d)) (F.args_enumerate_next_1 _))))
def Sy{e it l:Addr}{i:Nat}{items:Array Value}{Q:Option Value->Shared->Prop}(hh:A.handled=none)(he:EnH s.heap e it i)(hit:s.heap.IsListIter it l i)(hl:s.heap.IsList l items)(hx:items[i]?=none)
 (hQ:∀h',Heap.ExtBut it s.heap h'->Q none { s with heap:=h' }):wpAny (model prog w) A (pyNext (.ref e)) Q E s:=by
 obtain⟨a,bb,y,oa,he,_⟩:=he;have hT:s.TypeIs (.ref e) "enumerate":=⟨_,he,rfl⟩
 unfold pyNext;refine wpAny_bind (wpAny_attempt (wpAny_callSpecial?_slot (name:=Str.ofString "__next__") hT F.slot_enumerate_next (wpAny_call_entry F.slot_enumerate_next hT F.entry_enumerate_next ?_ (F.args_enumerate_next_1 _))));show wpAny _ _ (field (.ref e) 2 >>= _) _ _ _;refine wpAny_bind (wpAny_field he rfl (x:=.ref it) rfl ?_);refine wpAny_bind (wpAny_nextOf_list_end hh hit hl hx λh' x he' hx'=>?_);obtain⟨o,ho,hc⟩:=hx';exact wpAny_bind (wpAny_isInstance (T:="StopIteration") (b:=true) ⟨o,ho,hc⟩ isSubtype_stop (wpAny_pure (hQ _ he')))
def Est(h:Heap)(e it l:Addr)(i:Nat):Prop:=((i=0/\∃old,IsEnum h e it 0 old)∨EnH h e it i)/\h.IsListIter it l i
def TK{e it l:Addr}{i:Nat}{items:Array Value}{x:Value}{Q:Option Value->Shared->Prop}(he:Est s.heap e it l i)(hl:s.heap.IsList l items)(hx:items[i]?=some x)(hne:e≠it)
 (hQ:∀h',Est h' e it l (i+1)->h'.get? s.heap.objs.size=some { cls:=.type "tuple",data:=.seq #[.int i s.toks,x] } ->
  (∀b o,b≠e->b≠it->s.heap.get? b=some o->h'.get? b=some o)->Q (some (.ref s.heap.objs.size)) { s with heap:=h',toks:=s.toks+1 }):wpAny (model prog w) A (pyNext (.ref e)) Q E s:=by
 obtain⟨he,hit⟩:=he;rcases he with⟨rfl,old,he⟩|he
 .refine wpAny_pyNext_enum_item he hit hl hx hne λh' ho hr ht _ kp=>hQ h' ⟨.inr ⟨_,false,_,_,ho,ht,?_,?_⟩,hr⟩ ht kp
  .exact ne_of_gt (Heap.lt_size he)
  .obtain⟨o,ho,_⟩:=hit;exact ne_of_gt (Heap.lt_size ho)
 .exact Q9 he hit hl hx hne λh' a b c d=>hQ h' ⟨.inr a,b⟩ c d
def W8{e it l:Addr}{i:Nat}{items:Array Value}{Q:Option Value->Shared->Prop}(hh:A.handled=none)(he:Est s.heap e it l i)(hl:s.heap.IsList l items)(hx:items[i]?=none)
 (hQ:∀h',Heap.ExtBut it s.heap h'->Q none { s with heap:=h' }):wpAny (model prog w) A (pyNext (.ref e)) Q E s:=by
 obtain⟨he,hit⟩:=he;rcases he with⟨rfl,old,he⟩|he
 .exact wpAny_pyNext_enum_end hh he hit hl hx hQ
 .exact Sy hh he hit hl hx hQ
def Tps(h:Heap)(items acc:Array Value)(S e it:Addr)(b0:Nat):Prop:=∀j,j<acc.size->∃a t x,acc[j]?=some (.ref a)/\items[j]?=some x/\h.get? a=some { cls:=.type "tuple",data:=.seq #[.int j t,x] }/\b0<=a/\a≠S/\a≠e/\a≠it
def Tps.keep{h h':Heap}{items acc:Array Value}{S e it:Addr}{b0:Nat}(t:Tps h items acc S e it b0)(k:∀b o,b≠S->b≠e->b≠it->h.get? b=some o->h'.get? b=some o):Tps h' items acc S e it b0:=λj hj=>by
 obtain⟨a,t,x,q1,q2,q3,q0,q4,q5,q6⟩:=t j hj;exact⟨a,t,x,q1,q2,k _ _ q4 q5 q6 q3,q0,q4,q5,q6⟩
end
section
variable{prog:Program}{w:World}{A:Around}{R:Result->Shared->Prop}
def aC{S e it l b0:Addr}{items:Array Value}{res:Value}(hh:A.in1.handled=none)(hn:items.size<=sizeLine)(nSe:S≠e)(nSi:S≠it)(nSl:S≠l)(nei:e≠it)(nle:l≠e)(nli:l≠it)(s0:Shared):
 ∀(k i:Nat) (h:Heap) (tk:Nat) (acc:Array Value) (c:Nat),items.size-i=k->acc.size=i->i<=items.size->b0<=h.objs.size->Est h e it l i->h.IsList l items->h.get? S=some { cls:=.type "list",dict:=none,data:=.seq acc c,slots:=#[] }->Tps h items acc S e it b0 ->
 (∀h' tk' acc' c',(∀b o,b≠S->b≠e->b≠it->h.get? b=some o->h'.get? b=some o)->h'.get? S=some { cls:=.type "list",dict:=none,data:=.seq acc' c',slots:=#[] }->acc'.size=items.size->Tps h' items acc' S e it b0->R (.ok (.ret res)) { s0 with heap:=h',toks:=tk' }) ->
 codeAny (model prog w) A (.builtin "list.extend.loop" ⟨[.ref S,.ref e,res],[]⟩) R { s0 with heap:=h,toks:=tk }:=by
 intro k
 induction k with
 |zero=>
  intro i h tk acc c hk ha hi hb he hl hS ht hR;have hin:i=items.size:=by omega
  refine codeAny_builtin F.entry_extend_loop ?_;rw[Around.under_plainId F.plain_extend_loop _];show wpAny _ A.in1 (pyNext (.ref e) >>= _) _ _ _;refine wpAny_bind (W8 hh he hl (by simp[hin]) λh' ex=>?_);exact wpAny_pure (hR h' tk acc c (λb o _ _ q z=>ex b o q z) (ex S _ nSi hS) (by omega) (ht.keep λb o _ _ q z=>ex b o q z))
 |succ k ih=>
  intro i h tk acc c hk ha hi hb he hl hS ht hR;have hlt:i<items.size:=by omega
  refine codeAny_builtin F.entry_extend_loop ?_;rw[Around.under_plainId F.plain_extend_loop _];show wpAny _ A.in1 (pyNext (.ref e) >>= _) _ _ _;refine wpAny_bind (TK he hl (x:=items[i]) (by simp[hlt]) nei λh' he' htp kp=>?_);have hS':=kp S _ nSe nSi hS;have lS:S<h.objs.size:=Heap.lt_size hS;have oth:∀b o,b≠S->h'.get? b=some o->(h'.update S (Obj.mapSeq (·.push (.ref h.objs.size)))).get? b=some o:=λb o q z=>(Heap.get?_update_other _ _ (Ne.symm q)).trans z;show wpAny _ A.in1 (updateSeq S (·.push (.ref h.objs.size)) >>= _) _ _ _;refine wpAny_bind ?_;refine wpAny_updateSeq hS' rfl (wpAny_pure ⟨plainId_quiet F.plain_extend_loop _,?_⟩) (by rw[ha];omega) (by show(acc.push _).size<=sizeLine+1;rw[Array.size_push,ha];omega);refine ih (i+1) _ (tk+1) (acc.push (.ref h.objs.size)) _ (by omega) (by simp[ha]) hlt ?_ ?_ ?_ (Heap.get?_update_self _ hS' rfl) ?_ λh2 tk2 acc2 c2 kp2 hS2 hz2 ht2=>?_
  .rw[Heap.size_update];exact le_trans hb (le_trans (le_of_lt (Heap.lt_size htp)) (le_refl _))
  .obtain⟨q,o,ho,r⟩:=he';refine⟨?_,o,oth it o (Ne.symm nSi) ho,r⟩;rcases q with⟨z,_⟩|⟨a,bb,y,oa,q1,q2,q3,q4⟩
   .omega
   .by_cases z:a=S
    .subst z;exact .inr ⟨a,bb,y,_,oth e _ (Ne.symm nSe) q1,Heap.get?_update_self _ hS' rfl,q3,q4⟩
    .exact .inr ⟨a,bb,y,oa,oth e _ (Ne.symm nSe) q1,oth a _ z q2,q3,q4⟩
  .obtain⟨o,ho,r⟩:=hl;exact⟨o,oth l o (Ne.symm nSl) (kp l o nle nli ho),r⟩
  .intro j hj;have hj:j<i+1:=by simpa [ha]using hj
   by_cases z:j=i
   .subst z;exact⟨h.objs.size,tk,items[j],by simp[<- ha],by simp[hlt],oth _ _ (ne_of_gt lS) htp,hb,ne_of_gt lS,ne_of_gt (by rcases he.1 with⟨_,_,q⟩|⟨_,_,_,_,q,_⟩<;>exact Heap.lt_size q),ne_of_gt (by obtain⟨o,ho,_⟩:=he.2;exact Heap.lt_size ho)⟩
   .obtain⟨a,t,x,q1,q2,q3,q0,q4,q5,q6⟩:=ht j (by omega);exact⟨a,t,x,by rw[Array.getElem?_push];rw[if_neg (by omega)];exact q1,q2,oth a _ q4 (kp a _ q5 q6 q3),q0,q4,q5,q6⟩
  .exact hR h2 tk2 acc2 c2 (λb o p1 p2 p3 z=>kp2 b o p1 p2 p3 (oth b o p1 (kp b o p2 p3 z))) hS2 hz2 ht2
end
def Qq:typeLookup (.type "enumerate") "__len__"=pure none:=by rw[typeLookup_type,builtinLookup_eq_fast];kernel_rfl
def Oz:typeLookup (.type "enumerate") "__length_hint__"=pure none:=by rw[typeLookup_type,builtinLookup_eq_fast];kernel_rfl
section
variable{prog:Program}{w:World}{A:Around}{R:Result->Shared->Prop}{s:Shared}
def aq{S e it l b0:Addr}{items:Array Value}{res old:Value}{c0:Nat}(hh:A.in1.handled=none)(hn:items.size<=sizeLine)(nSe:S≠e)(nSi:S≠it)(nSl:S≠l)(nei:e≠it)(nle:l≠e)(nli:l≠it)(hb:b0<=s.heap.objs.size)(he:IsEnum s.heap e it 0 old)(hit:s.heap.IsListIter it l 0)(hl:s.heap.IsList l items)
 (hS:s.heap.get? S=some { cls:=.type "list",data:=.seq #[] c0 })
 (hR:∀h' tk' acc' c',(∀b o,b≠S->b≠e->b≠it->s.heap.get? b=some o->h'.get? b=some o)->h'.get? S=some { cls:=.type "list",dict:=none,data:=.seq acc' c',slots:=#[] }->acc'.size=items.size->Tps h' items acc' S e it b0->R (.ok (.ret res)) { s with heap:=h',toks:=tk' }):
 wpAny (model prog w) A.in1 (Builtin.List.listExtendWith (.ref S) (.ref e) res) (λfin s'=>match fin with|.done f=>R (.ok f) s'|.again c'=>c'.quiet=true/\codeAny (model prog w) A c' R s') (λe s'=>R (.error e) s') s:=by
 have hT:s.TypeIs (.ref e) "enumerate":=⟨_,he,rfl⟩
 unfold Builtin.List.listExtendWith;refine wpAny_bind (wpAny_typeOf hT ?_);have h1:Builtin.List.listSameRef (.ref S) (.ref e)=false:=by simp[Builtin.List.listSameRef,nSe]
 have h2:(Value.type "enumerate"==Value.type "list")=false:=by decide
 have h3:(Value.type "enumerate"==Value.type "tuple")=false:=by decide
 simp only[h1,h2,h3,Bool.or_false,Bool.false_eq_true,if_false];refine wpAny_bind (wpAny_pyIter_enum he ?_);refine wpAny_bind (wpAny_holding ?_);unfold Builtin.List.listLengthHint;refine wpAny_bind (wpAny_specialOf hT Qq ?_);show wpAny _ A.in1 (specialOf (Value.ref e) (Str.ofString "__length_hint__") >>= _) _ _ _;refine wpAny_bind (wpAny_specialOf hT Oz ?_);refine wpAny_pure ?_;show wpAny _ A.in1 (rule "list.extend.makes-room" >>= λ_=>Builtin.List.listTouch (.ref S) >>= λ_=>again (.builtin "list.extend.loop" ⟨[.ref S,.ref e,res],[]⟩)) _ _ _;refine wpAny_bind (wpAny_rule (wpAny_bind ?_));show wpAny _ A.in1 (updateSeq S (·.push .none) >>= λ_=>updateSeq S (·.pop)) _ _ _;refine wpAny_bind (wpAny_updateSeq hS rfl ?_);have hS2:=Heap.get?_update_self (Obj.mapSeq (·.push Value.none)) hS rfl;refine wpAny_updateSeq (hz:=by seq_fits) hS2 rfl ?_;have hS3:=Heap.get?_update_self (Obj.mapSeq (·.pop)) hS2 rfl;have oth:∀b o,b≠S->s.heap.get? b=some o->((s.heap.update S (Obj.mapSeq (·.push Value.none))).update S (Obj.mapSeq (·.pop))).get? b=some o:=λb o hb z=>(Heap.get?_update_other _ _ (Ne.symm hb)).trans ((Heap.get?_update_other _ _ (Ne.symm hb)).trans z);refine wpAny_pure ⟨plainId_quiet F.plain_extend_loop _,aC hh hn nSe nSi nSl nei nle nli s items.size 0 _ s.toks _ _ rfl rfl (zero_le _) (by rw[Heap.size_update,Heap.size_update];exact hb) ⟨.inl ⟨rfl,old,oth e _ (Ne.symm nSe) he⟩,?_⟩ ?_ hS3 (λj hj=>absurd hj (Nat.not_lt_zero _)) λh' tk' acc' c' kp q1 q2 q3=>hR h' tk' acc' c' (λb o p1 p2 p3 z=>kp b o p1 p2 p3 (oth b o p1 z)) q1 q2 q3⟩
 .obtain⟨o,ho,r⟩:=hit;exact⟨o,oth it o (Ne.symm nSi) ho,r⟩
 .obtain⟨o,ho,r⟩:=hl;exact⟨o,oth l o (Ne.symm nSl) ho,r⟩
end
section
variable{prog:Program}{w:World}{A:Around}{E:Value->Shared->Prop}{s:Shared}
def call_listE{e it l:Addr}{items:Array Value}{old:Value}{Q:Value->Shared->Prop}(hh:A.handled=none)(hn:items.size<=sizeLine)(nei:e≠it)(nle:l≠e)(nli:l≠it)(he:IsEnum s.heap e it 0 old)(hit:s.heap.IsListIter it l 0)(hl:s.heap.IsList l items)
 (hQ:∀h' tk' acc' c',(∀b o,b≠e->b≠it->s.heap.get? b=some o->h'.get? b=some o)->h'.get? s.heap.objs.size=some { cls:=.type "list",dict:=none,data:=.seq acc' c',slots:=#[] }->acc'.size=items.size->Tps h' items acc' s.heap.objs.size e it (s.heap.objs.size+1)->Q (.ref s.heap.objs.size) { s with heap:=h',toks:=tk' }):
 wpAny (model prog w) A (call (.type "list") [.ref e]) Q E s:=by
 have le:e<s.heap.objs.size:=Heap.lt_size he;have li:it<s.heap.objs.size:=let ⟨o,ho,_⟩:=hit;Heap.lt_size ho
 have ll:l<s.heap.objs.size:=let ⟨o,ho,_⟩:=hl;Heap.lt_size ho
 refine callType_codes (Q₁:=λobj s₁=>obj=.ref s.heap.objs.size/\s₁={ s with heap:=s.heap.push { cls:=.type "list",data:=.seq #[] } }) F.called_list (F.typeCall_list_1 _) F.entry_list_init (code_list_new _ ⟨rfl,rfl⟩) λobj s₁ h₁=>?_;obtain⟨rfl,rfl⟩:=h₁;have hS:(s.heap.push { cls:=.type "list",data:=.seq #[] }).get? s.heap.objs.size=some { cls:=.type "list",data:=.seq #[] }:=Heap.get?_push_size _ rfl;refine⟨⟨_,hS,rfl⟩,F.args_list_init_2 _ _,?_⟩;show wpAny _ A.in1.in1 (do let old <- Builtin.List.listItems (.ref s.heap.objs.size);Builtin.List.listUpdate (.ref s.heap.objs.size) (λ_=>#[]);letGo old.toList.reverse;Builtin.List.listExtendWith (.ref s.heap.objs.size) (.ref e) .none) _ _ _;refine wpAny_bind ?_;unfold Builtin.List.listItems;refine wpAny_bind (wpAny_seqItems hS rfl (wpAny_pure ?_));show wpAny _ A.in1.in1 (updateSeq s.heap.objs.size (λ_=>#[]) >>= λ_=>letGo (#[]:Array Value).toList.reverse >>= λ_=>Builtin.List.listExtendWith (.ref s.heap.objs.size) (.ref e) .none) _ _ _;refine wpAny_bind (wpAny_updateSeq hS rfl ?_);have hS2:=Heap.get?_update_self (Obj.mapSeq (λ_=>(#[]:Array Value))) hS rfl;have oth:∀b o,s.heap.get? b=some o->((s.heap.push { cls:=.type "list",data:=.seq #[] }).update s.heap.objs.size (Obj.mapSeq (λ_=>(#[]:Array Value)))).get? b=some o:=λb o z=>(Heap.get?_update_other _ _ (ne_of_gt (Heap.lt_size z))).trans (Heap.get?_push_of_some _ z);refine wpAny_bind (wpAny_letGo ?_);refine aq (b0:=s.heap.objs.size+1) (A:=A.in1) hh hn (ne_of_gt le) (ne_of_gt li) (ne_of_gt ll) nei nle nli (by rw[Heap.size_update,Heap.size_push];exact le_refl _) (oth e _ he) ?_ ?_ hS2 λh' tk' acc' c' kp q1 q2 q3=>?_
 .obtain⟨o,ho,r⟩:=hit;exact⟨o,oth it o ho,r⟩
 .obtain⟨o,ho,r⟩:=hl;exact⟨o,oth l o ho,r⟩
 .exact⟨rfl,hQ h' tk' acc' c' (λb o p1 p2 z=>kp b o (ne_of_lt (Heap.lt_size z)) p1 p2 (oth b o z)) q1 q2 q3⟩
end
end HR
namespace L2
open PySem PySem.Spec PyProof.Rows
def Inv.adopt2{X:Cx}{pins:List (Addr×Obj)}{σ:List (Option V)}{H:Hp}{s:Shared}{a:Addr}{o:HO}(I:Inv X pins σ H s)(f:FpOk X pins H a)(new:ObjOk X.prog X.w (upd H a o) s.heap a o):Inv X pins σ (upd H a o) s:=by
 have fr:H a=none:=f.1;have ne:∀b u,H b=some u->upd H a o b=some u:=λb u e=>by rw[AE (AV e fr)];exact e
 exact I.step (g':=s.gens) (d':=s.drawn) (t':=s.toks) (ch:=[a]) (λb hb=>by rw[mem_singleton]at hb;subst hb;exact⟨f.2.2.2.1,f.2.1,f.2.2.2.2.1,f.2.2.2.2.2⟩) (λb o _ _ hc e _=>e) (λb o _ _ hc e _=>⟨o.slots,e⟩)
  (λb _ hc e n=>by rw[AE (λz=>hc (by rw[z];exact mem_singleton.mpr rfl))];exact n) (λb o hc e=>⟨o,e⟩) (λb xs e=>ne b _ e) (λb o u e=>ne b _ e) (λb ps e=>⟨#[],by rw[ne b _ e];simp⟩) (λm hm=>hm) (λb u e=>by
   by_cases hb:b=a
   .subst hb;rw[AL]at e;cases e;exact new
   .rw[AE hb]at e;exact(I.hok b u e).stay (λc v hc q=>q) (λc q=>ne c _ q) λc xs q=>ne c _ q) I.bare
def PH:Nat->List V->Hp->List Addr->Hp->Prop
 |_,[],H,as,H'=>as=[]/\H'=H
 |j,x::xs,H,as,H'=>∃p r,as=p::r/\H p=none/\PH (j+1) xs (upd H p (.tup [.int (j:Int),x])) r H'
def KP{X:Cx}{pins:List (Addr×Obj)}{σ:List (Option V)}{s:Shared}:∀(xs:List V) (its:List Value) (as:List Addr) (j:Nat) (H:Hp),Inv X pins σ H s->Vals xs its->as.length=xs.length ->
 (∀(k:Nat) a,as[k]?=some a->FpOk X pins H a/\∃t u,its[k]?=some u/\s.heap.get? a=some { cls:=.type "tuple",data:=.seq #[.int ((j+k:Nat):Int) t,u] })->∃H',PH j xs H as H'/\Inv X pins σ H' s/\∀b,b∉as->H' b=H b
 |[],_,as,j,H,I,_,hl,_=>by
  have:as=[]:=length_eq_zero_iff.mp hl;exact⟨H,⟨this,rfl⟩,I,λ_ _=>rfl⟩
 |x::xs,its,as,j,H,I,r,hl,h=>by
  cases r with
  |@cons _ u _ its ru r=>
  cases as with
  |nil=>cases hl
  |cons a as=>
   obtain⟨f,t,u',eu,ht⟩:=h 0 a rfl;cases(Option.some.inj (show some u=some u' from eu));have I1:=I.adopt2 f (o:=.tup [.int (j:Int),x]) ⟨by show 2<=sizeLine;decide,[.int (j:Int) t,u],.cons ⟨_,rfl⟩ (.cons ru .nil),⟨_,ht,rfl,⟨_,rfl⟩,rfl⟩⟩;obtain⟨H',q1,q2,q3⟩:=KP xs its as (j+1) _ I1 r (by simpa using hl) λk b hb=>by
    obtain⟨g,t',w,ew,hw⟩:=h (k+1) b (by simpa using hb);have nb:b≠a:=λz=>by
     subst z;rw[ht]at hw;simp at hw;omega
    exact⟨⟨by rw[AE nb];exact g.1,g.2⟩,t',w,by simpa using ew,by rw[show j+1+k=j+(k+1) by omega];exact hw⟩
   refine⟨H',⟨a,as,rfl,f.1,q1⟩,q2,λb hb=>?_⟩;rw[q3 b (λz=>hb (mem_cons_of_mem _ z)),AE (λz=>hb (by rw[z];exact mem_cons_self))]
def ItV(as:List Addr):It:=⟨λi _=>i<as.length,λi H x H'=>H'=H/\∃a,as[as.length-1-i]?=some a/\x=.ref a,λi _=>i=as.length⟩
def RZ{P:Program}{w:World}{K:PySem.W.Frag}{elts:List Expr}{kk:Nat}{tpos:Pos}{r S:Addr}{as:List Addr}(ne:S≠r):Turn P w K (.Tuple elts kk tpos) (ItV as) [r,S] r (λi h=>h.IsRevIter r S ((as.length:Int)-1-i)/\∃c,h.get? S=some { cls:=.type "list",dict:=none,data:=.seq (as.map Value.ref).toArray c,slots:=#[] }) where
 mem:=by simp
 obj:=λi h st b hb=>by
  obtain⟨⟨o,ho,_,d⟩,c,e⟩:=st;simp only[mem_cons,not_mem_nil,or_false]at hb;rcases hb with rfl|rfl
  .exact⟨o,ho,λv z=>by rw[d]at z;cases z⟩
  .exact⟨_,e,λv z=>by cases z⟩
 keep:=λi h h' st k=>by
  obtain⟨⟨o,ho,q⟩,c,e⟩:=st;exact⟨⟨o,k r (by simp) _ ho,q⟩,c,k S (by simp) _ e⟩
 item:=by
  intro X hP hw hK hc i pins s σ H E I hf st hg;subst hP hw hK;obtain⟨hr,c,e⟩:=st;have hg:i<as.length:=hg;obtain⟨a,ha⟩:∃a,as[as.length-1-i]?=some a:=⟨as[as.length-1-i],by simp⟩
  have ei:((as.length:Int)-1-i)=((as.length-1-i:Nat):Int):=by omega
  rw[ei]at hr;refine wpAny_pyNext_rev_item hr ⟨_,e,rfl,_,rfl⟩ (x:=.ref a) (by simp[ha]) λh' hr' sb=>⟨_,rfl,?_⟩
  obtain⟨o,ho,hcl,hd⟩:=id hr';refine Kz ho hcl hd (by decide) ⟨.ref a,H,?_,rfl,⟨rfl,a,ha,rfl⟩,⟨?_,c,sb.extBut _ _ ne e⟩,λb hb=>(hf b hb).1⟩
  .exact I.turns (tk:=s.toks) (λb o nb q=>sb.extBut b o (λz=>nb (by rw[z];simp)) q) hf
  .have:((as.length-1-i:Nat):Int)-1=(as.length:Int)-1-((i+1:Nat):Int):=by omega
   rw[this]at hr';exact hr'
 done:=by
  intro X hP hw hK hc i pins s σ H E I hf st hg;subst hP hw hK;obtain⟨hr,c,e⟩:=st;have hg:i=as.length:=hg;rw[show(as.length:Int)-1-i=-1 by omega]at hr;refine wpAny_pyNext_rev_end (show X.A.handled=none from I.ok.hd hc) hr λh' ex=>⟨rfl,?_⟩
  exact I.turns (tk:=s.toks) (λb o nb q=>ex b o (λz=>nb (by rw[z];simp)) q) hf
 self:=λ_ _ _ _ _ st h=>wpAny_pyIter_revIter st.1 h
def TB(K:PySem.W.Frag)(ta:TA):TI:=λσ H R=>ta σ H λvs H1=>∃a xs,vs=[.ref a]/\SqL K H1 a xs/\∀as H2,PH 0 xs H1 as H2->as.length=xs.length->R (ItV as) H2
def Ki:bootBuiltins "reversed"=some (.type "reversed"):=by decide +kernel
def Wf{M:Model}{A:Around}{E:Value->Shared->Prop}{s:Shared}{env:Env}{e:Expr}{pos:Pos}{Q:List Value->Shared->Prop}(hs:starEach [e] env=[(false,eval e env)])(h:wpAny M A (eval e env) (λv s1=>Q [v] s1) E s):wpAny M A (spliced (backTo pos (starEach [e] env))) Q E s:=by
 rw[hs];show wpAny _ _ (spliced ((false,eval e env)::[])) _ _ s;exact Calls.spliced_cons (thn h λu s1 q=>Calls.spliced_nil q)
def YF(K:PySem.W.Frag){X:Cx}{a:Expr}{ta:TA}{elts:List Expr}{kk:Nat}{tpos p p1 p2 pos pos1 pos2:Pos}(hg:Gl X "enumerate")(hm:X.mg "enumerate"=none)(hg1:Gl X "list")(hm1:X.mg "list"=none)(hg2:Gl X "reversed")(hm2:X.mg "reversed"=none)(ha:PA X [a] ta)(hcm:X.calm=true)(hK:X.K=K:=by rfl)(hs:starEach [a] X.env=[(false,eval a X.env)]:=by rfl)
 (hs1:starEach [.Call (.Name "enumerate" p) [a] [] pos] X.env=[(false,eval (.Call (.Name "enumerate" p) [a] [] pos) X.env)]:=by rfl) (hs2:starEach [.Call (.Name "list" p1) [.Call (.Name "enumerate" p) [a] [] pos] [] pos1] X.env=[(false,eval (.Call (.Name "list" p1) [.Call (.Name "enumerate" p) [a] [] pos] [] pos1) X.env)]:=by rfl):
 PI X (.Tuple elts kk tpos) (.Call (.Name "reversed" p2) [.Call (.Name "list" p1) [.Call (.Name "enumerate" p) [a] [] pos] [] pos1] [] pos2) (TB K ta):=by
 subst hK;intro pins s σ H R I h;refine Call_ (C7 I hg2 hm2 Ki (PyProof.Rows.callWith_type1 (Wf hs2 ?_) hs2 rfl));refine Call_ (C7 I hg1 hm1 Jm (PyProof.Rows.callWith_type1 (Wf hs1 ?_) hs1 rfl));refine Call_ (C7 I hg hm D2 (PyProof.Rows.callWith_type1 (thn (ha pos pins s σ H _ I h) λus s1 ⟨vs,H1,I1,r1,q1⟩=>?_) hs rfl));obtain⟨l,xs,e,c,q⟩:=q1;subst e;obtain⟨u,rfl,ru⟩:=r1.one;cases ru;obtain⟨its,r,pl,hz⟩:=I1.list c;have hd:X.A.handled=none:=I1.ok.hd hcm;have ll:l<s1.heap.objs.size:=by obtain⟨o,ho,_⟩:=pl.isList;exact Heap.lt_size ho
 have lits:=r.length;refine call_enumerate_list pl.isList λg he hr hsz kp=>?_;have nei:s1.heap.objs.size+1≠s1.heap.objs.size:=ne_of_gt (lt_succ_self _);have pl2:g.IsList l its.toArray:=by obtain⟨o,ho,z⟩:=pl.isList;exact⟨o,kp l o ho,z⟩
 refine HR.call_listE (s:={ s1 with heap:=g }) hd (by rw[size_toArray];omega) nei (ne_of_lt (lt_succ_of_lt ll)) (ne_of_lt ll) he hr pl2 λg2 tk acc ca kp2 hS hacc tp=>?_;have tp:HR.Tps g2 its.toArray acc g.objs.size (s1.heap.objs.size+1) s1.heap.objs.size (g.objs.size+1):=tp;have hS:g2.get? g.objs.size=some { cls:=.type "list",dict:=none,data:=.seq acc ca,slots:=#[] }:=hS;have acl:acc.size=its.length:=by simpa using hacc
 refine call_reversed_list (s:={ s1 with heap:=g2,toks:=tk }) ⟨_,hS,rfl,_,rfl⟩ ?_;obtain⟨as,eas⟩:∃as:List Addr,acc=(as.map Value.ref).toArray:=by
  have:∀L:List Value,(∀v∈L,∃a,v=.ref a)->∃as:List Addr,L=as.map Value.ref:=by
   intro L
   induction L with
   |nil=>intro _;exact⟨[],rfl⟩
   |cons v t ih=>
    intro h;obtain⟨a,rfl⟩:=h v (by simp);obtain⟨as,rfl⟩:=ih λv hv=>h v (by simp[hv]);exact⟨a::as,rfl⟩
  obtain⟨as,e⟩:=this acc.toList λv hv=>by
   obtain⟨j,hj,ej⟩:=List.mem_iff_getElem.mp hv;obtain⟨a,_,_,e,_⟩:=tp j (by simpa using hj);exact⟨a,by rw[<- ej];simp at hj;simp[hj]at e;exact e⟩
  exact⟨as,by rw[<- e]⟩
 subst eas;have lS:g.objs.size<g2.objs.size:=Heap.lt_size hS;have las:as.length=xs.length:=by simp at acl;omega
 have kp3:∀b o,s1.heap.get? b=some o->(g2.push (revObj g.objs.size (((as.map Value.ref).toArray.size:Int)-1))).get? b=some o:=λb o z=>Heap.get?_push_of_some _ (kp2 b o (ne_of_lt (lt_succ_of_lt (Heap.lt_size z))) (ne_of_lt (Heap.lt_size z)) (kp b o z));have I2:=I1.kept (t':=tk) kp3;obtain⟨H2,ad,I3,ot⟩:=KP xs its as 0 H1 I2 r las λk a hk=>by
  have hk':k<as.length:=(List.getElem?_eq_some_iff.mp hk).1;obtain⟨a',t,x,e1,e2,e3,e0,_⟩:=tp k (by simpa using hk');have ea:a'=a:=by simp[hk]at e1;exact e1.symm
  subst ea;have ge:s1.heap.objs.size<=a':=by rw[hsz]at e0;omega
  exact⟨I1.fpOk ge (I1.hok.fresh ge),t,x,by simpa using e2,by rw[zero_add];exact Heap.get?_push_of_some _ e3⟩
 have hrr:(g2.push (revObj g.objs.size (((as.map Value.ref).toArray.size:Int)-1))).IsRevIter g2.objs.size g.objs.size ((as.length:Int)-1-(0:Nat)):=⟨_,Heap.get?_push_size _ rfl,rfl,by simp[revObj]⟩
 refine wpAny_pyIter_revIter hrr ?_;have notin:∀b,(∀a∈as,a≠b)->b∉as:=λb h z=>h b z rfl;have asne:∀a∈as,a≠g.objs.size/\a<g2.objs.size:=λa ha=>by
  obtain⟨k,hk,ek⟩:=List.mem_iff_getElem.mp ha;obtain⟨a',t,x,e1,e2,e3,e0,e4,_⟩:=tp k (by simpa using hk);have ea:a'=a:=by simp[hk]at e1;rw[<- ek,e1]
  subst ea;exact⟨e4,Heap.lt_size e3⟩
 refine⟨_,_,_,_,H2,rfl,I3,RZ (r:=g2.objs.size) (S:=g.objs.size) (as:=as) (ne_of_lt lS),⟨hrr,ca,Heap.get?_push_of_some _ hS⟩,λb hb=>?_,q as H2 ad las⟩;simp only[mem_cons,not_mem_nil,or_false]at hb;have le:s1.heap.objs.size<=b:=by rcases hb with rfl|rfl<;>omega
 refine I1.fpOk le ?_;rw[ot b (by rcases hb with rfl|rfl;exact notin _ λa ha=>ne_of_lt (asne a ha).2;exact notin _ λa ha=>(asne a ha).1)];exact I1.hok.fresh le
section
variable{K:PySem.W.Frag}
def No{ρ:List Addr}{hd:Hd}:∀(xs:List V) (ds:List D) (j:Nat) (H:Hp) (as:List Addr) (H2:Hp),PH j xs H as H2->RH K ρ H hd->RDs K ρ H ds xs->RH K ρ H2 hd/\Ext ρ H ρ H2/\∀(k:Nat) a d,as[k]?=some a->ds[k]?=some d->RD K ρ H2 (Ab [.im (.int ((j+k:Nat):Int)),d]) (.ref a)
 |[],ds,j,H,as,H2,ad,R,r=>by
  obtain⟨rfl,rfl⟩:=ad;exact⟨R,.refl,λk a d h _=>by simp at h⟩
 |x::xs,ds,j,H,as,H2,ad,R,r=>by
  obtain⟨p,as',rfl,fp,ad⟩:=ad;obtain⟨R1,x1⟩:=R.hid (ho:=.tup [.int (j:Int),x]) fp;have re:=r.ext R x1;cases ds with
  |nil=>have:=r.len;cases this
  |cons d ds=>
   obtain⟨_,_,ee,rd,r2⟩:=re;cases ee;obtain⟨R2,x2,f⟩:=No xs ds (j+1) _ as' H2 ad R1 r2;refine⟨R2,x1.trans R1 x2,λk a d' h1 h2=>?_⟩;cases k with
   |zero=>
    cases(Option.some.inj (show some p=some a from h1));cases(Option.some.inj (show some d=some d' from h2));have:=(BS (ds:=[.im (.int (j:Int)),d]) (SqT.of AL) (.cons (by simp[RD,RI]) (.cons rd .nil))).ext R1 x2;simpa using this
   |succ k=>
    have:=f k a d' (by simpa using h1) (by simpa using h2);rw[show j+1+k=j+(k+1) by omega]at this;exact this
def Jd(ma:MI):MI:=λls hd=>(ma ls hd).map λp=>(((p.1.1.zipIdx.map λq=>Ab [.im (.int (q.2:Int)),q.1]).reverse,p.1.2),p.2)
def X5{ta:TE}{ma:MI}(ha:RRw K false ta ma):RIt K (TB K (Ax ta BG)) (Jd ma):=by
 intro ρ σ H hd ls Q d g hd' hR hL hm hQ;obtain⟨⟨⟨d1,g1⟩,h1⟩,e1,e2⟩:=cv hm;cases e2;refine ha ρ σ H hd ls _ d1 g1 h1 hR hL e1 λρ1 H1 a x1 R1 G1 S1=>?_;obtain⟨xs,c1,r1⟩:=S1 ρ1 H1 _ .refl R1 G1;have l1:=r1.len;refine⟨a,xs,rfl,c1,λas H2 ad las=>?_⟩;obtain⟨R2,x2,f⟩:=No xs d1 0 H1 as H2 ad R1 r1;refine hQ ρ1 H2 _ (x1.trans R1 x2) R2 G1 ?_;intro ρ3 H3 hd3 x3 R3 G3 i;refine⟨λhi=>?_,λhi=>?_⟩
 .have hi:i<d1.length:=by simpa using hi
  refine⟨show i<as.length by omega,λz H4 hz=>?_⟩;obtain⟨rfl,a',ea,rfl⟩:=hz;have hk:d1.length-1-i<d1.length:=by omega
  have ed:d1[d1.length-1-i]?=some d1[d1.length-1-i]:=by simp
  have q:=f (as.length-1-i) a' d1[d1.length-1-i] ea (by rw[show as.length=d1.length by omega];exact ed);refine⟨ρ3,_,.refl,rfl,R3,?_,q.ext R2 x3⟩;rw[List.getElem?_reverse (by simpa using hi),List.getElem?_map,List.getElem?_zipIdx];simp only[length_map,List.length_zipIdx,ed,map_some];rw[show as.length=d1.length by omega]
 .have hi:i=d1.length:=by simpa using hi
  show i=as.length;omega
def Xj(K:PySem.W.Frag){X:Cx}{a:Expr}{ta:TE}{ma:MI}{elts:List Expr}{kk:Nat}{tpos p p1 p2 pos pos1 pos2:Pos}(hm:X.mg "enumerate"=none)(hm1:X.mg "list"=none)(hm2:X.mg "reversed"=none)(ha:QR K false X a ta ma)(hc:X.calm=true:=by rfl)(hg:Gl X "enumerate":=by rfl)(hg1:Gl X "list":=by rfl)(hg2:Gl X "reversed":=by rfl)(hK:X.K=K:=by rfl)(hs:starEach [a] X.env=[(false,eval a X.env)]:=by rfl)
 (hs1:starEach [.Call (.Name "enumerate" p) [a] [] pos] X.env=[(false,eval (.Call (.Name "enumerate" p) [a] [] pos) X.env)]:=by rfl) (hs2:starEach [.Call (.Name "list" p1) [.Call (.Name "enumerate" p) [a] [] pos] [] pos1] X.env=[(false,eval (.Call (.Name "list" p1) [.Call (.Name "enumerate" p) [a] [] pos] [] pos1) X.env)]:=by rfl):
 QI K X (.Tuple elts kk tpos) (.Call (.Name "reversed" p2) [.Call (.Name "list" p1) [.Call (.Name "enumerate" p) [a] [] pos] [] pos1] [] pos2) (TB K (Ax ta BG)) (Jd ma):=⟨YF K hg hm hg1 hm1 hg2 hm2 (BH ha.p By hs) hc hK hs hs1 hs2,X5 ha.r⟩
def WW{ma:MI}{ls:Ls}{hd:Hd}{QI:List D×Gd->Hd->Prop}(h:WI ma ls hd λp x=>QI ((p.1.zipIdx.map λq=>Ab [.im (.int (q.2:Int)),q.1]).reverse,p.2) x):WI (Jd ma) ls hd QI:=by
 obtain⟨p,x,e,q⟩:=h;exact⟨_,_,by simp only[Jd,e,map_some],q⟩
end
def Qe{M:Model}{A:Around}{E:Value->Shared->Prop}{s:Shared}{β:Type}{n:Nat}{b:β}{f:Nat->β->Sem (ForInStep β)}{Q:β->Shared->Prop}(h:wpAny M A (forIn (List.range' 0 n) b f) Q E s):wpAny M A (forIn ([:n]:Std.Legacy.Range) b f) Q E s:=by
 rw[Std.Legacy.Range.forIn_eq_forIn_range'];simpa only[Std.Legacy.Range.size,Nat.sub_zero,Nat.add_sub_cancel,Nat.div_one]using h
def PX(a:Addr)(its:Array Value)(k:Nat)(dd:Option Addr)(sl:Array (Option Value))(x:Value)(e:Value->Bool)(j:Nat)(hj:j<its.size)(yes:e its[j]=true)(no:∀m (hm:m<its.size),m<j->e its[m]=false):
 Meets (Builtin.«tuple.index» ⟨[.ref a,x],[]⟩) (λA R s=>s.heap.get? a=some { cls:=.type "tuple",dict:=dd,data:=.seq its k,slots:=sl }/\(∀y,y∈its->PySem.SeqAt.EqAt A.in1 s y x (e y))/\R (.ok (.ret (.int j s.toks))) { s with toks:=s.toks+1 }):=
 .of_wp λprog w A R s0 hh=>by
  obtain⟨hp,gs,dr,tk,os⟩:=s0;obtain⟨h1,h2,h3⟩:=hh
  wp_walk using AutoSeq1.wpAny_loadPart' h1,Qe
  rw[min_self];refine wpAny_forIn_list _ (λrest b s'=>b.1=none/\s'=⟨hp,gs,dr,tk,os⟩/\∃i,i<=j/\rest=List.range' i (its.size-i)) _ ?_ ?_ _ _ ⟨rfl,rfl,0,zero_le _,rfl⟩
  .rintro z rest b s' ⟨hb,rfl,i,hi,hr⟩;have lt:i<its.size:=by omega
   obtain⟨rfl,hr⟩:z=i/\rest=List.range' (i+1) (its.size-(i+1)):=by
    rw[show its.size-i=(its.size-(i+1))+1 by omega,List.range'_succ]at hr;exact List.cons.inj hr
   rw[Array.getElem?_eq_getElem lt];refine wpAny_bind (h2 _ (Array.getElem_mem lt) prog w _ _ ?_);by_cases q:z=j
   .subst q;rw[yes]
    wp_walk
    exact⟨_,rfl,h3⟩
   .rw[no z lt (by omega)]
    wp_walk
    exact⟨rfl,rfl,z+1,by omega,hr⟩
  .rintro⟨b1,b2⟩ s' ⟨hb,rfl,i,hi,hr⟩;rw[show its.size-i=(its.size-(i+1))+1 by omega,List.range'_succ]at hr;cases hr
def NN(K:PySem.W.Frag):V->List V->Hp->VK->Prop:=λx vs H Q=>∃(a:Addr) (ns:List Int) (i:Int),x=.ref a/\vs=[.int i]/\SqT K H a (ns.map V.int)/\i∈ns/\Q (.int (ns.idxOf i:Nat)) H
def KB{i:Int}:∀(L:List Int) (m:Nat),m<L.idxOf i->L[m]?≠some i
 |[],m,h=>by simp at h
 |y::r,m,h=>by
  rw[List.idxOf_cons]at h;by_cases hy:y=i
  .simp[hy]at h
  .have hy':(y==i)=false:=by simpa using hy
   rw[hy']at h;cases m with
   |zero=>simpa using hy
   |succ m=>simpa using KB r m (by simpa using h)
def QB{X:Cx}:MtM X "tuple.index" (NN X.K):=by
 intro pins s σ H x vs v us Q I rx rv h;obtain⟨a,ns,i,rfl,rfl,hT,hi,q⟩:=h;cases rx;obtain⟨u,rfl,ru⟩:=rv.one;obtain⟨t,rfl⟩:=ru;obtain⟨its,r,⟨⟨cl,dd,dt,sl⟩,e,c,k,hd⟩,z⟩:=I.tuple hT;simp only at c hd;subst c hd;have li:its.length=ns.length:=by rw[<- r.length];simp
 have hj:ns.idxOf i<ns.length:=List.idxOf_lt_length_iff.mpr hi;have itsI:∀(m:Nat) (hm:m<its.toArray.size),∃t,its.toArray[m]=.int (ns.getD m 0) t:=by
  intro m hm;have hm':m<ns.length:=by simpa [li]using hm
  have e1:(ns.map V.int)[m]?=some (.int (ns.getD m 0)):=by simp[hm']
  obtain⟨w,hw,rw'⟩:=r.get e1;obtain⟨t,rfl⟩:=rw';exact⟨t,(List.getElem?_eq_some_iff.mp hw).2⟩
 refine call_meets F.slot_tuple_index ⟨_,e,rfl⟩ F.entry_tuple_index (F.args_tuple_index_2 _ _)
  (PX a its.toArray k dd sl (.int i t) (λy=>match y with|.int n _=>n==i|_=>false) (ns.idxOf i) (by rw[size_toArray,li];exact hj) ?_ ?_) ⟨e,?_,?_⟩
 .obtain⟨t',e'⟩:=itsI (ns.idxOf i) (by rw[size_toArray,li];exact hj);rw[e'];have:ns.getD (ns.idxOf i) 0=i:=by simp[hj]
  rw[this];exact beq_self_eq_true i
 .intro m hm hmk;obtain⟨t',e'⟩:=itsI m hm;rw[e'];have hm':m<ns.length:=by simpa [li]using hm
  have:=KB ns m hmk;have:ns.getD m 0≠i:=λz=>this (by rw[<- z];simp[hm']);simpa using this
 .intro y hy;obtain⟨m,hm,rfl⟩:=Array.mem_iff_getElem.mp hy;obtain⟨t',e'⟩:=itsI m hm;rw[e'];exact(PySem.MeetsSeq.EqGives.int _ _ _ _).at _ _
 .exact⟨.int (ns.idxOf i:Nat),H,I.tok _,⟨_,rfl⟩,q⟩
section
variable{K:PySem.W.Frag}
def Rs(K:PySem.W.Frag)(r:V->List V->Hp->VK->Prop)(to:TE)(t:TA):TE:=λσ H Q=>to σ H λx H1=>(∃a xs,x=.ref a/\SqT K H1 a xs)/\t σ H1 λxs H2=>r x xs H2 Q
def YU{X:Cx}{o e:Expr}{es:List Expr}{to:TE}{t:TA}{name:Str}{apos cpos:Pos}{id:String}{r:V->List V->Hp->VK->Prop}(slot:Slot "tuple" name id)(hty:typeOf (.builtin id)=pure (.type "method_descriptor"))(hm:MtM X id r)(ho:PE X o to)(ha:PA X (e::es) t)
 (hbase:attributeBase o name X.env (eval o X.env)=eval o X.env)
 (hfew:((backTo cpos (starEach (e::es) X.env)).all (λx=>!x.1)&&(backToKw cpos (keywordEach [] X.env)).all (λx=>x.1.isSome)&&decide ((e::es).length+([]:List Keyword).length+(if([]:List Keyword).isEmpty then 0 else 1)<30))=true)
 (hline:(apos.endLine==cpos.line)=true) (hs:starEach (e::es) X.env=(false,eval e X.env)::starEach es X.env) (hplain:(backTo cpos (starEach es X.env)).any (·.1)=false):
 PE X (.Call (.Attribute o name apos) (e::es) [] cpos) (Rs X.K r to t):=by
 intro pins s σ H Q I h;refine wpAny_Call_method_late hbase hfew hline rfl (thn (ho pins s σ H _ I h) λv s1 ⟨x,H1,I1,r1,⟨a,xs,ex,hT⟩,q1⟩=>?_);subst ex;cases r1;obtain⟨ob,e1,e2,e3⟩:=I1.tupleD hT;refine⟨"tuple",id,PySem.F.plainAttrs_tuple,slot,hty,⟨ob,e1,e2⟩,λb eb=>by cases eb;exact⟨ob,e1,e3⟩,?_⟩;have hA:=ha cpos pins s1 σ H1 _ I1 q1;rw[hs]at hA ⊢;refine Calls.callWith_builtin (by show(false||(backTo cpos (starEach es X.env)).any (·.1))=false;rw[hplain]<;>rfl) (Calls.evalArgs_plain ?_);exact thn hA λus s2 ⟨vs,H2,I2,r2,q2⟩=>hm pins s2 σ H2 (.ref a) vs (.ref a) us Q I2 rfl r2 q2
def M4(f:D->List D->Hd->Option (D×Hd))(mo:ME)(ma:MA):ME:=λls hd=>(mo ls hd).bind λp=>match Ae p.1 with
 |some _=>(ma ls p.2).bind λq=>f p.1 q.1 q.2
 |none=>none
def XD{r:V->List V->Hp->VK->Prop}{f:D->List D->Hd->Option (D×Hd)}{to:TE}{t:TA}{mo:ME}{ma:MA}(hr:RM K r f)(ho:RE K to mo)(ha:RA K t ma):RE K (Rs K r to t) (M4 f mo ma):=by
 and_intros;obtain⟨⟨d1,h1⟩,e1,hm⟩:=cu hm;dsimp only at hm;split at hm
 .next ds e=>
  obtain⟨⟨d2,h2⟩,e2,hm⟩:=cu hm;refine ho ρ σ H hd ls _ d1 h1 hR hL e1 λρ1 H1 v x1 R1 r1=>⟨?_,?_⟩
  .obtain⟨a,xs,rfl,q,_⟩:=r1.tup e;exact⟨a,xs,rfl,q⟩
  .exact ha ρ1 σ H1 h1 ls _ d2 h2 R1 (hL.ext hR x1) e2 λρ2 H2 vs x2 R2 r2=>hr ρ2 H2 h2 d1 v d2 vs Q d hd' R2 (r1.ext R1 x2) r2 hm λρ' H' w x3 R3 r3=>hQ ρ' H' w ((x1.trans R1 x2).trans R2 x3) R3 r3
 .cases hm
open Classical in
def HZ:D->List D->Hd->Option (D×Hd):=λd ds hd=>(Ae d).bind λes=>(Az es).bind λns=>match ds with
 |[.im (.int i)]=>if i∈ns then some (.im (.int (ns.idxOf i:Nat)),hd)else none
 |_=>none
def Ph:RM K (NN K) HZ:=by
 intro ρ H hd d v ds vs Q z hd' hR h1 h2 hf hQ;obtain⟨es,e1,hf⟩:=cu hf;obtain⟨ns,e2,hf⟩:=cu hf;split at hf
 .split at hf
  .next c=>
   cases hf;obtain⟨a,xs,rfl,q,r⟩:=h1.tup e1;rw[Cn e2]at r;have ex:=r.ints;subst ex;simp only[RDs,RD,RI]at h2;obtain⟨x,r2,rfl,rfl,rfl⟩:=h2;exact⟨a,ns,_,rfl,rfl,q,c,hQ ρ H _ .refl hR (by simp[RD,RI])⟩
  .cases hf
 .cases hf
def Xx(K:PySem.W.Frag){X:Cx}{e:Expr}{es:List Expr}{t:TA}{m:MA}{id:String}{r:V->List V->Hp->VK->Prop}{f:D->List D->Hd->Option (D×Hd)}{name:Str}{apos cpos:Pos}{o:Expr}{to:TE}{mo:ME}(slot:Slot "tuple" name id)(hty:typeOf (.builtin id)=pure (.type "method_descriptor"))(hm:MtM X id r)(hr:RM K r f)(ho:QE K X o to mo)(ha:QA K X (e::es) t m)
 (hbase:attributeBase o name X.env (eval o X.env)=eval o X.env:=by rfl)
 (hfew:((backTo cpos (starEach (e::es) X.env)).all (λx=>!x.1)&&(backToKw cpos (keywordEach [] X.env)).all (λx=>x.1.isSome)
  && decide ((e::es).length+([]:List Keyword).length+(if([]:List Keyword).isEmpty then 0 else 1)<30))=true:=by rfl)
 (hline:(apos.endLine==cpos.line)=true:=by rfl) (hs:starEach (e::es) X.env=(false,eval e X.env)::starEach es X.env:=by rfl) (hplain:(backTo cpos (starEach es X.env)).any (·.1)=false:=by rfl) (hK:X.K=K:=by rfl):
 QE K X (.Call (.Attribute o name apos) (e::es) [] cpos) (Rs K r to t) (M4 f mo m):=by
 subst hK;exact⟨YU slot hty hm ho.p ha.p hbase hfew hline hs hplain,XD hr ho.r ha.r⟩
end
end L2
namespace L2
open PySem PySem.W
def tg1:Expr->List Str
 |.Name x _=>[x]
 |_=>[]
def tg2:Expr->List Str
 |.Tuple es _ _=>es.flatMap tg1
 |e=>tg1 e
def tgN:Expr->List Str
 |.Tuple es _ _=>es.flatMap tg2
 |e=>tg1 e
def frN(X:Cx)(ix:List Nat):List Str:=ix.filterMap λi=>X.N[i]?
def ndB:List Str->Bool
 |[]=>true
 |x::xs=>!xs.elem x&&ndB xs
def FW:∀{l:List Str},ndB l=true->l.Nodup
 |[],_=>List.nodup_nil
 |x::xs,h=>by
  obtain⟨h1,h2⟩:=Bool.and_eq_true_iff.mp h;refine nodup_cons.mpr ⟨λhm=>?_,FW h2⟩;rw[List.elem_eq_true_of_mem hm]at h1;cases h1
section
variable{K:PySem.W.Frag}{X:Cx}{elt tg iter tg' iter' e:Expr}{ifs ifs':List Expr}{scope:Scope}{pos spos py:Pos}{ix:List Nat}{wi wi':TI}{g g':TG}{tf tf':TT}{te tk tv:TE}{mi mi':MI}{n n':MG}{mf mf':MT}{me mk mv:ME}{k i:Nat}{x y:Str}
def qgA(hN:ndB X.N=true:=by kernel_rfl)(hi:X.N[i]?=some x:=by rfl)(hx:Loc X.env.scope x:=by first|exact Or.inl rfl|exact Or.inr rfl)(hf:X.fn x=true∨X.env.scope.names.lookup x=some .local:=by first|exact .inl rfl|exact .inr rfl):QG K X (.Name x pos) (Dz i) (AA i):=VC K (FW hN) hi hx hf
def qnA(hi:QI K X tg iter wi mi)(hg:∀s H ex,QG K (cCx X (tgN tg++frN X ix) scope s H ex) tg g n)(hf:∀s H ex,QF K (cCx X (tgN tg++frN X ix) scope s H ex) ifs tf mf)(he:∀s H ex,QE K (cCx X (tgN tg++frN X ix) scope s H ex) elt te me)
 (hc:X.calm=true:=by rfl) (S:CSc X scope (frN X ix) ix:=by exact⟨rfl,by decide +kernel,rfl,rfl,rfl,by decide +kernel⟩) (hs:∀x,foldedSetIterable iter X.env x=pure x:=by intro _;rfl) (hk:(tgN tg).length=k:=by rfl):
 QN K X (.ListComp elt [⟨tg,iter,ifs,0⟩] scope pos) (Fk k ix wi g tf te) (Ao k ix mi n mf me):=by
 subst hk;exact V7 K hc S hi hg hf he hs
def af(hi:QI K X tg iter wi mi)(hg:∀s H ex,QG K (cCx X (tgN tg++frN X ix) scope s H ex) tg g n)(hf:∀s H ex,QF K (cCx X (tgN tg++frN X ix) scope s H ex) ifs tf mf)(he:∀s H ex,QE K (cCx X (tgN tg++frN X ix) scope s H ex) elt te me)
 (hsw:swapsWith (.ListComp elt [⟨tg,iter,ifs,0⟩] scope pos) (some (.Name y py)) spos.line X.env=pure true:=by rfl) (hN:ndB X.N=true:=by kernel_rfl) (hiN:X.N[i]?=some y:=by rfl) (hy:X.env.scope.names.lookup y=some .local:=by rfl)
 (hc:X.calm=true:=by rfl) (S:CSc X scope (frN X ix) ix:=by exact⟨rfl,by decide +kernel,rfl,rfl,rfl,by decide +kernel⟩) (hs:∀x,foldedSetIterable iter X.env x=pure x:=by intro _;rfl) (hk:(tgN tg).length=k:=by rfl):
 QS K X (.Assign [.Name y py] (.ListComp elt [⟨tg,iter,ifs,0⟩] scope pos) spos) (Ej (Fk k ix wi g tf te) (Dz i)) (AM i (B5 (Ao k ix mi n mf me))):=by
 subst hk;exact Uy K (FW hN) hiN hy hc S hi hg hf he hsw hs
def qsA{pos':Pos}(he:QE K X e te me)(hs:swapsWith e (some (.Name x pos')) pos.line X.env=pure false:=by rfl)(hN:ndB X.N=true:=by kernel_rfl)(hi:X.N[i]?=some x:=by rfl)(hx:Loc X.env.scope x:=by first|exact Or.inl rfl|exact Or.inr rfl)(hf:X.fn x=true∨X.env.scope.names.lookup x=some .local:=by first|exact .inl rfl|exact .inr rfl):
 QS K X (.Assign [.Name x pos'] e pos) (Ej te (Dz i)) (AM i me):=XX K (FW hN) hi hx he hs hf
def Zk{op:Operator}{f:Int->Int->Int}{pos':Pos}(ho:PIp X op (ipI f))(he:QE K X e te me)(hN:ndB X.N=true:=by kernel_rfl)(hi:X.N[i]?=some x:=by rfl)(hx:Loc X.env.scope x:=by first|exact Or.inl rfl|exact Or.inr rfl)(hf:X.fn x=true∨X.env.scope.names.lookup x=some .local:=by first|exact .inl rfl|exact .inr rfl):
 QS K X (.AugAssign (.Name x pos') op e pos) (O7 i te (ipI f)) (Gj i f me):=Xa K (FW hN) hi hx he ho hf
end
end L2
namespace L2
open PySem PySem.Spec PyProof.Rows PySem.W
abbrev Tb:=Addr×Str×Nat×Nat
def Vs(ts:List Tb):Obj:={ cls:=.str "tables" 0,data:=.fields (ts.flatMap λt=>[.ref t.1,.str t.2.1 0,.int t.2.2.1 0,.int t.2.2.2 0]).toArray }
def BK(K:PySem.W.Frag)(ts:List Tb):PySem.W.Frag:=(K.filter λp=>!(ts.map (·.1)).contains p.1)++[(mainGlobals,Vs ts)]
def PY:∀ts:List Tb,Km (ts.flatMap λt=>[Value.ref t.1,.str t.2.1 0,.int t.2.2.1 0,.int t.2.2.2 0])=ts.map λt=>(t.1,t.2.1,⟨t.2.2.1,t.2.2.2,0,0⟩)
 |[]=>rfl
 |t::r=>by
  rw[List.flatMap_cons,map_cons,<- PY r];rfl
def GP(K:PySem.W.Frag)(ts:List Tb):Ch (BK K ts)=ts.map λt=>(t.1,t.2.1,⟨t.2.2.1,t.2.2.2,0,0⟩):=by
 unfold Ch BK;rw[List.getLast?_concat];show Km _=_;rw[<- PY ts]
def FH{L:List Addr}{a:Addr}(ha:a∉L):∀K:PySem.W.Frag,(K.filter λp=>!L.contains p.1).lookup a=K.lookup a
 |[]=>rfl
 |(b,o)::r=>by
   have ih:=FH ha r;rw[filter_cons];by_cases hb:b∈L
   .have h1:(!L.contains (b,o).1)=false:=by simp[hb]
    have h2:(a==b)=false:=beq_eq_false_iff_ne.mpr λz=>ha (z ▸ hb);rw[if_neg (by rw[h1];decide),lookup_cons,h2,ih]
   .have h1:(!L.contains (b,o).1)=true:=by simp[hb]
    rw[if_pos h1,lookup_cons,lookup_cons,ih]
def Gm{L:List Addr}{P:Addr}(hP:P∈L):∀K:PySem.W.Frag,(K.filter λp=>!L.contains p.1).lookup P=none
 |[]=>rfl
 |(b,o)::r=>by
   have ih:=Gm hP r;rw[filter_cons];by_cases hb:b∈L
   .rw[if_neg (by simp[hb])];exact ih
   .have h2:(P==b)=false:=beq_eq_false_iff_ne.mpr λz=>hb (z ▸ hP);rw[if_pos (by simp[hb]),lookup_cons,h2];exact ih
section
variable{K:PySem.W.Frag}{ts:List Tb}
def Gf{a:Addr}{o:Obj}(ha:a∉ts.map (·.1))(e:K.lookup a=some o):(BK K ts).lookup a=some o:=by
 unfold BK;rw[lookup_append,FH ha,e];rfl
def Vr{h:Heap}(X:K.In h){g:Obj}(hg:K.lookup mainGlobals=some g)(hP:mainGlobals∉ts.map (·.1)):(BK K ts).In h:=λa o e=>by
 unfold BK at e;rw[lookup_append]at e;by_cases ha:a∈ts.map (·.1)
 .rw[Gm ha,none_or]at e;have h2:(a==mainGlobals)=false:=beq_eq_false_iff_ne.mpr λz=>hP (z ▸ ha);rw[lookup_cons,h2]at e;cases e
 .rw[FH ha]at e;cases k:K.lookup a with
  |some o'=>rw[k]at e;cases e;exact X _ _ k
  |none=>
   rw[k,none_or,lookup_cons]at e;by_cases hm:a=mainGlobals
   .subst hm;rw[hg]at k;cases k
   .rw[beq_eq_false_iff_ne.mpr hm]at e;cases e
def Vq(hM:mainGlobals∉ts.map (·.1)){P:Addr}(hP:P∈ts.map (·.1)):(BK K ts).lookup P=none:=by
 unfold BK;have h2:(P==mainGlobals)=false:=beq_eq_false_iff_ne.mpr λz=>hM (z ▸ hP);rw[lookup_append,Gm hP,none_or,lookup_cons,h2];rfl
def Fun.mark{x qual:Str}{st:Stmt}{f:Addr}{fd:FuncData}(D:Fun K x qual st f fd){h:Heap}(X:K.In h)(hP:∀P∈ts.map (·.1),h.get? P=some (tabObj #[])):Fun (BK K ts) x qual st f fd:=by
 have neP:∀a o,K.lookup a=some o->o≠tabObj #[]->a∉ts.map (·.1):=λa o e n z=>by
  have:=X _ _ e;rw[hP a z]at this;exact n (Option.some.inj this).symm
 obtain⟨⟨oc,od,kV,doc,pm,an,cdv,ct,osl,rfl,lk,hcd⟩,kp⟩:=D;have hf:f∉ts.map (·.1):=neP f _ lk (λz=>by cases z);refine⟨⟨oc,od,kV,doc,pm,an,cdv,ct,osl,rfl,Gf hf lk,?_⟩,?_⟩
 .unfold codeIn at hcd ⊢;split at hcd
  .next c0=>
   split at hcd
   .next vs sl k=>
    have hc:c0∉ts.map (·.1):=neP c0 _ k (λz=>by
     have:vs=#[]:=by injection z with _ _ z _;injection z
     rw[this]at hcd;cases hcd)
    simp only[Gf hc k];exact hcd
   .cases hcd
  .cases hcd
 .unfold keepIn;simp only[Gf hf lk]
end
def ZV{K:PySem.W.Frag}{H:Hp}{a:Addr}{xs:List V}(hS:SqL K H a xs)(hO:∀ys,H a≠some (.lst ys)):RoL K H a xs:=by
 rcases hS with(h|h)|h
 .exact absurd h (hO xs)
 .exact .inl h
 .exact .inr h
def QP{Pg:Program}{w:World}{K:PySem.W.Frag}{mg mb:Str->Option Value}{k:Nat}{fa a:Addr}{fd:FuncData}{x:Str}{ts:List Tb}{s₁:Shared}{vs:List Value}{ns:List Int}{F:List D->Hd->Option (D×Hd)}
 (KX:K.In s₁.heap) (hns:s₁.heap.Ns mainGlobals mg) (hb:s₁.heap.Ns builtinsNs mb) (hbb:∀x:Str,x≠"__name__"->mb x=bootBuiltins x) (hlim:s₁.heap.NoLimit) (hg:s₁.gens=#[])
 (ha:s₁.heap.get? a=some { cls:=.type "list",data:=.seq vs.toArray }) (hi:IntsAre vs ns) (hl:ns.length<=sizeLine) (hr:Room k callerA)
 (hT:∀P∈ts.map (·.1),∃cc,s₁.heap.TableAt cc P #[]) (hPK:∀P∈ts.map (·.1),K.lookup P=none) (htab:Ch K=ts.map λt=>(t.1,t.2.1,⟨t.2.2.1,t.2.2.2,0,0⟩))
 (Fn:∀base:Heap,K.In base->base.Ns mainGlobals mg->(∀b o,b∉ts.map (·.1)->b≠a->s₁.heap.get? b=some o->base.get? b=some o)->FnOk Pg w K mg base CX0 k fa fd [x] (spF K 1 F)) (hbind:∀(s:Shared) (u:Value),BindsTo s fd ⟨[u],[]⟩ [(x,u)])
 (hF:∃hd',F [.ro ns] []=some (.im (.bl true),hd')):
 codeAny (model Pg w) callerA (.call (.ref fa) ⟨[.ref a],[]⟩) (λr s'=>r=.ok (.ret (.bool true))/\OldK s₁.heap s'.heap/\s'.os=s₁.os/\AllBare s'.gens) s₁:=by
 have rv:=Jr hi;have lenV:=hi.length;have hP:∀P∈ts.map (·.1),s₁.heap.get? P=some (tabObj #[]):=λP h=>let ⟨cc,t⟩:=hT P h;t.2
 have haP:a∉ts.map (·.1):=λz=>by rw[hP a z]at ha;cases ha
 have core:∀H:Hp,(∀b,b∉ts.map (·.1)->H b=none∨∃o xs,H b=some (.frz o (.lst xs)))->(∀P∈ts.map (·.1),H P=some (.tbl #[]))->SqL K H a (ns.map V.int)->HOk Pg w H s₁.heap->(∀b,H b≠none->b=a∨b∈ts.map (·.1))->(H a≠none->K.lookup a=none) ->
  codeAny (model Pg w) callerA (.call (.ref fa) ⟨[.ref a],[]⟩) (λr s'=>r=.ok (.ret (.bool true))/\OldK s₁.heap s'.heap/\s'.os=s₁.os/\AllBare s'.gens) s₁:=by
  intro H hO hHP hS hok hA hK;have base_of:∀{b:Addr} {o:Obj},s₁.heap.get? b=some o->H b=none->(Fv s₁.heap H).get? b=some o:=λe n=>TC e n;have noA:∀{b:Addr} {o:Obj} {es:Array DictEntry} {ep:Nat},s₁.heap.get? b=some o->o.data=.dict es ep->H b=none:=λ{b o es ep} e d=>by
   cases q:H b with
   |none=>rfl
   |some u=>
    rcases hA b (by rw[q];simp)with e'|e'
    .subst e';rw[ha]at e;cases e;have d':Data.seq vs.toArray _=Data.dict es ep:=d;cases d'
    .rw[hP b e']at e;cases e;cases d
  have nsK:∀{b:Addr} {m:Str->Option Value},s₁.heap.Ns b m->(Fv s₁.heap H).Ns b m:=λ{b m} ⟨o,es,ep,e,d,r⟩=>⟨o,es,ep,base_of e (noA e d),d,r⟩
  have hKb:K.In (Fv s₁.heap H):=λb o e=>base_of (KX b o e) (by
   cases q:H b with
   |none=>rfl
   |some u=>
    rcases hA b (by rw[q];simp)with e'|e'
    .subst e';rw[hK (by rw[q];simp)]at e;cases e
    .rw[hPK b e']at e;cases e)
  have hM:Mod K mg (Fv s₁.heap H):=⟨hKb,nsK hns,⟨mb,nsK hb,hbb⟩,let ⟨mc,h1,h2⟩:=hlim;⟨mc,nsK h1,h2⟩⟩
  have e0:Env0 Pg w K mg (Fv s₁.heap H) callerA [] s₁ H:=⟨rfl,hM,λb o e=>Vn e,Nat.le_of_eq (Qc _ _),trivial,λb hb=>absurd (show b∈([]:List Addr)from hb) (by simp),hok,.of_eq hg⟩
  have hsp:spF K 1 F [.ref a] H (λv _=>v=.bl true) λ_ _ _=>False:=by
   obtain⟨hd',e⟩:=hF;refine⟨rfl,[],[],[.ro ns],.im (.bl true),hd',⟨rfl,List.nodup_nil,λy hy=>?_,λn o a h=>by simp at h⟩,?_,e,λρ' H' v _ _ r=>?_⟩
   .rw[htab]at hy;obtain⟨t,ht,rfl⟩:=mem_map.mp hy;exact⟨#[],hHP t.1 (mem_map.mpr ⟨t,ht,rfl⟩),.inl rfl⟩
   .simp only[RDs,RD];refine⟨_,_,rfl,⟨a,rfl,ZV hS λys z=>?_⟩,rfl⟩;rcases hO a haP with q|⟨o,ys,q⟩<;>(rw[q]at z;cases z)
   .simpa only[RD,RI]using r
  refine codeAny_mono ((Fn _ hKb (nsK hns) λb o n1 n2 e=>base_of e (by
   cases q:H b with
   |none=>rfl
   |some u=>
    rcases hA b (by rw[q];simp)with e'|e'
    .exact absurd e' n2
    .exact absurd e' n1)).run callerA [] s₁ H ⟨[.ref a],[]⟩ [.ref a] [.ref a] _ _ hr e0 (hbind s₁ (.ref a)) (.cons rfl .nil) hsp) λr s' h=>?_
  cases r with
  |error e=>exact h.elim
  |ok fl=>
   cases fl with
   |next=>exact False.elim h
   |brk=>exact False.elim h
   |cont=>exact False.elim h
   |ret u=>
    obtain⟨v,H',os,bare,un,hok',r',q⟩:=h;have q':v=.bl true:=q;subst q';obtain rfl:u=Value.bool true:=r';have keep:∀b o,b∉ts.map (·.1)->s₁.heap.get? b=some o->s'.heap.get? b=some o:=λb o nb e=>by
     cases q:H b with
     |none=>exact un.keep b o e q (by intro z;exact absurd (show b∈([]:List Addr)from z) (by simp)) (by simp)
     |some u=>
      rcases hO b nb with z|⟨ob,xs,z⟩
      .rw[q]at z;cases z
      .have z2:=un.frzs b ob _ z;obtain⟨e1,_⟩:=hok b _ z;obtain⟨e2,_⟩:=hok' b _ z2;rw[e]at e1;cases e1;exact e2
    refine⟨rfl,⟨λb o e=>?_,λb o e=>?_⟩,os,bare⟩
    .by_cases nb:b∈ts.map (·.1)
     .obtain⟨cc,tb⟩:=hT b nb;obtain⟨more,hm⟩:=un.tbls b #[] (hHP b nb);have hb':s'.heap.get? b=some (tabObj (#[]++more)):=hok' b _ hm;rw[hP b nb]at e;cases e;exact .inr (.inl ⟨tb.isCodeTable,rfl,#[],more,rfl,hb'⟩)
     .exact .inl (keep b o nb e)
    .by_cases nb:b∈ts.map (·.1)
     .obtain⟨more,hm⟩:=un.tbls b #[] (hHP b nb);exact⟨_,hok' b _ hm⟩
     .exact⟨o,keep b o nb e⟩
 cases hk:K.lookup a with
 |some o=>
  have e:=KX a o hk;rw[ha]at e;cases e;refine core (λb=>if b∈ts.map (·.1)then some (.tbl #[])else none) (λb nb=>.inl (if_neg nb)) (λP hp=>if_pos hp) (.inr ⟨_,vs.toArray,_,hk,rfl,rfl,rfl,by rw[size_toArray,lenV];exact hl,by simpa using rv⟩) (λb u z=>?_) (λb z=>?_) λz=>absurd (if_neg haP) z
  .by_cases hb:b∈ts.map (·.1)
   .have z':=(if_pos hb).symm.trans z;cases z';exact hP b hb
   .have z':=(if_neg hb).symm.trans z;cases z'
  .by_cases hb:b∈ts.map (·.1)
   .exact .inr hb
   .exact absurd (if_neg hb) z
 |none=>
  refine core (λb=>if b∈ts.map (·.1)then some (.tbl #[])else if b=a then some (.frz { cls:=.type "list",data:=.seq vs.toArray } (.lst (ns.map V.int)))else none) (λb nb=>?_) (λP hp=>if_pos hp) (.inl (.inr ⟨{ cls:=.type "list",data:=.seq vs.toArray },(if_neg haP).trans (if_pos rfl)⟩)) (λb u z=>?_) (λb z=>?_) λ_=>hk
  .rw[if_neg nb];by_cases hb:b=a
   .exact .inr ⟨_,_,if_pos hb⟩
   .exact .inl (if_neg hb)
  .by_cases hp:b∈ts.map (·.1)
   .have z':=(if_pos hp).symm.trans z;cases z';exact hP b hp
   .have z:=(if_neg hp).symm.trans z;by_cases hb:b=a
    .have z':=(if_pos hb).symm.trans z;cases z';subst hb;exact⟨ha,by rw[length_map];exact hl,vs,_,rv,ha⟩
    .have z':=(if_neg hb).symm.trans z;cases z'
  .by_cases hp:b∈ts.map (·.1)
   .exact .inr hp
   .by_cases hb:b=a
    .exact .inl hb
    .exact absurd ((if_neg hp).trans (if_neg hb)) z
def walkL{l:PySem.W.OpenLaw}{n k:Nat}{q:Program}{loose:List Str}{XP:(Str->Option Value)->Heap->Prop}{YP:World->Heap->Prop}{d:DefRec}{K:Params->PySem.W.Frag}{F:List D->Hd->Option (D×Hd)}(xs:List (Str×Str×Nat×Nat))
 (hn:l.most=some n) (hn2:n<=sizeLine) (hdf:d.params.defaults=[]) (hr:Room k callerA) (hdr:∀x∈xs,∃dr,(recsOf q).find? (λe=>e.name==x.1)=some dr)
 (hF:∀ns:List Int,∃hd',F [.ro ns] []=some (.im (.bl true),hd'))
 (hY:∀(w:World) (h:Heap),YP w h->(K w.params).In h)
 (G:∀(w:World) (mg:Str->Option Value) (fa:Addr) (h:Heap) (c P:Str->Addr),(K w.params).In h->h.Ns mainGlobals mg->mg d.name=some (.ref fa) ->
  (∀x∈xs,h.get? (P x.1)=some (tabObj #[])/\CodeHd h (c x.1) (P x.1)/\∃a o fd,mg x.1=some (.ref a)/\h.get? a=some o/\o.data=.func fd/\fd.code=.ref (c x.1)) ->
  (∃g,(K w.params).lookup mainGlobals=some g)/\∃fd:FuncData,(∀(s:Shared) (u:Value),BindsTo s fd ⟨[u],[]⟩ [("_law_script",u)])/\
   ∀base:Heap,(BK (K w.params) (xs.map λx=>(P x.1,x.2))).In base->base.Ns mainGlobals mg->(∀x∈xs,CodeHd base (c x.1) (P x.1))->(∀x∈xs,base.BuiltinsAt mg (P x.1))->FnOk l.prog w (BK (K w.params) (xs.map λx=>(P x.1,x.2))) mg base CX0 k fa fd ["_law_script"] (spF (BK (K w.params) (xs.map λx=>(P x.1,x.2))) 1 F)):
 PySem.W.WalkO q loose XP YP l.row.toRowW d [] (λf vs=>PySem.call f vs):=by
 refine Att.attach_call hn hdf λw s₀ s₁ mg mb fa o pm cd doc a vs ns Gr Y ho hd hcd hmg hobj hints hlen hg=>?_;have KX:=hY w _ Y;have each:∀x:Str,∃cp:Addr×Addr,(∃y∈xs,y.1=x)->(∃cc,s₁.heap.TableAt cc cp.2 #[])/\CodeHd s₁.heap cp.1 cp.2/\∃a o fd,mg x=some (.ref a)/\s₁.heap.get? a=some o/\o.data=.func fd/\fd.code=.ref cp.1:=by
  intro x;by_cases hx:∃y∈xs,y.1=x
  .obtain⟨y,hy,rfl⟩:=hx;obtain⟨dr,hdr⟩:=hdr y hy;have hnm:dr.name=y.1:=beq_iff_eq.mp (List.find?_some (p:=λe:DefRec=>e.name==y.1) hdr);obtain⟨a',o',fd',c,P,h1,h2,h3,h4,h5,h6⟩:=Gr.T.tab dr (List.mem_of_find?_eq_some hdr);rw[hnm]at h1;exact⟨(c,P),λ_=>⟨⟨_,h6⟩,CodeHd.of h5 h6,a',o',fd',h1,h2,h3,h4⟩⟩
  .exact⟨(0,0),λh=>absurd h hx⟩
 obtain⟨cp,hcp⟩:=Classical.skolem.mp each;have hcp:∀x∈xs,(∃cc,s₁.heap.TableAt cc (cp x.1).2 #[])/\CodeHd s₁.heap (cp x.1).1 (cp x.1).2/\∃a o fd,mg x.1=some (.ref a)/\s₁.heap.get? a=some o/\o.data=.func fd/\fd.code=.ref (cp x.1).1:=λx hx=>hcp x.1 ⟨x,hx,rfl⟩;have hts:∀P∈(xs.map λx=>((cp x.1).2,x.2)).map (·.1),∃x∈xs,P=(cp x.1).2:=λP hP=>by
  obtain⟨t,ht,rfl⟩:=mem_map.mp hP;obtain⟨x,hx,rfl⟩:=mem_map.mp ht;exact⟨x,hx,rfl⟩
 have hP:∀x∈xs,s₁.heap.get? (cp x.1).2=some (tabObj #[]):=λx hx=>by
  obtain⟨⟨cc,t⟩,_⟩:=hcp x hx;exact t.2
 have hmP:mainGlobals∉(xs.map λx=>((cp x.1).2,x.2)).map (·.1):=λz=>by
  obtain⟨x,hx,ez⟩:=hts _ z;obtain⟨o,es,ep,e,dd,_⟩:=Gr.T.g;rw[ez,hP x hx]at e;cases e;cases dd
 obtain⟨⟨g,hgl⟩,fd,hb,hFn⟩:=G w mg fa _ (λx=>(cp x).1) (λx=>(cp x).2) KX Gr.T.g hmg λx hx=>⟨hP x hx,(hcp x hx).2⟩
 refine QP (ts:=xs.map λx=>((cp x.1).2,x.2)) (K:=BK (K w.params) (xs.map λx=>((cp x.1).2,x.2))) (Vr KX hgl hmP) Gr.T.g Gr.T.b Gr.T.builtins Gr.T.nolimit hg hobj hints (le_trans hlen hn2) hr (λP hp=>by obtain⟨x,hx,rfl⟩:=hts P hp;exact(hcp x hx).1) (λP hp=>Vq hmP hp) (GP _ _) (λbase kb nb keep=>hFn base kb nb (λx hx=>?_) λx hx=>?_) hb (hF ns)
 .obtain⟨oc,vs',file,tf,flags,tg,inF,text,tt,e1,r1,r2,r3,r4,r5,r6,r7,r8,hne⟩:=(hcp x hx).2.1;have hn:(cp x.1).1∉(xs.map λx=>((cp x.1).2,x.2)).map (·.1):=λz=>by
   obtain⟨y,hy,ez⟩:=hts _ z;rw[ez,hP y hy]at e1;cases e1;cases r1
  exact⟨oc,vs',file,tf,flags,tg,inF,text,tt,keep (cp x.1).1 oc hn (λz=>by rw[z,hobj]at e1;cases e1;exact absurd (show Value.type "list"=Value.type "code" from r1) (by decide)) e1,r1,r2,r3,r4,r5,r6,r7,r8,hne⟩
 .obtain⟨bm,ob,b1,b2,b3,b4,b5,b6⟩:=Gr.T.bmain;have nP:∀y∈xs,bm≠(cp y.1).2:=λy hy z=>by rw[z,hP y hy]at b3;cases b3;cases b4
  have hn:bm∉(xs.map λx=>((cp x.1).2,x.2)).map (·.1):=λz=>by
   obtain⟨y,hy,ez⟩:=hts _ z;exact nP y hy ez
  refine⟨bm,ob,b1,b2,λz=>?_,nP x hx,keep bm ob hn (λz=>by rw[z,hobj]at b3;cases b3;exact absurd (show Value.type "list"=Value.type "module" from b4) (by decide)) b3,b4,b5,b6⟩;obtain⟨o,es,ep,e,dd,_⟩:=Gr.T.g;rw[<- z,b3]at e;cases e;rw[b6]at dd;cases dd
def Rf(o:Obj):Option Addr:=match o.data with
 | .fields vs=>(match (vs[11]?:Option Value)with
  |some (Value.ref P)=>some P
  | _=>none)
 |_=>none
def Wd{K:PySem.W.Frag}{h:Heap}{c P p:Addr}{o:Obj}(X:K.In h)(hc:CodeHd h c P)(k:K.lookup c=some o)(e:Rf o=some p):P=p:=by
 obtain⟨o',vs,file,tf,flags,tg,inF,text,tt,e1,e2,e3,e4,_⟩:=hc;have:=X _ _ k;rw[e1]at this;cases this;simp only[Rf,e3,e4]at e;exact Option.some.inj e
end L2
namespace L2
open PySem PySem.W PyProof.Rows
abbrev FD:=List D->Hd->Option (D×Hd)
structure En where
 P:Program
 w:World
 K:PySem.W.Frag
 mg:Str->Option Value
 base:Heap
structure Df where
 x:Str
 st:Stmt
 ps:List Str
 k:Nat
 F:FD
def Dn(E:En)(e:Df):Prop:=∃f fd,DefAt E.K E.mg e.x e.st f fd e.ps
def Dl(E:En)(e:Df)(ps:Pos):Prop:=∃f fd c P,DefAt E.K E.mg e.x e.st f fd e.ps/\LamC E.K E.mg E.base fd c P ((e.x++".<locals>.")++"<lambda>") ps
def Kn(E:En)(e:Df):Prop:=∃f fd,DefAt E.K E.mg e.x e.st f fd e.ps/\FnOk E.P E.w E.K E.mg E.base CX0 e.k f fd e.ps (spF E.K e.ps.length e.F)/\∀ds hd z,e.F ds hd=some z->ds.length=e.ps.length
def okK{E:En}{x:Str}{st:Stmt}{ps N:List Str}{j k:Nat}{m:MS}{F:FD}(D:Dn E ⟨x,st,ps,k,F⟩)(S:FnScope N ps (AB st))(hF:F=mkF ps.length N.length m)(hk:k=j+1)
 (h:∀(f:Addr) (cdv:Value) (A:Around) (outer:List Env) (s:Shared) (H:Hp) (Ek:XK),Room j (A.deeper (envOfC x (AB st) s.heap.objs.size f cdv))->∃t,QSs E.K (FM CX0 E.P E.w E.K E.mg E.base N x (AB st) f cdv A outer s H Ek).nox (BJ st) t m):Kn E ⟨x,st,ps,k,F⟩:=by
 obtain⟨f,fd,D⟩:=D;subst hF;subst hk;exact⟨f,fd,D,Vm D S (h f),NU⟩
def okL{E:En}{x:Str}{st:Stmt}{ps N:List Str}{j k:Nat}{m:MS}{F:FD}{pos:Pos}(D:Dl E ⟨x,st,ps,k,F⟩ pos)(S:FnScope N ps (AB st))(hF:F=mkF ps.length N.length m)(hk:k=j+1)
 (h:∀(f c P:Addr) (fd:FuncData) (LC:LamC E.K E.mg E.base fd c P ((x++".<locals>.")++"<lambda>") pos) (cdv:Value) (A:Around) (outer:List Env) (s:Shared) (H:Hp) (Ek:XK),fd.code=cdv->Room j (A.deeper (envOfC x (AB st) s.heap.objs.size f cdv))->∃t,QSs E.K (FM CX0 E.P E.w E.K E.mg E.base N x (AB st) f cdv A outer s H Ek).nox (BJ st) t m):Kn E ⟨x,st,ps,k,F⟩:=by
 obtain⟨f,fd,c,P,D,LC⟩:=D;subst hF;subst hk;exact⟨f,fd,D,Sx D S (h f c P fd LC),NU⟩
section
variable{K:PySem.W.Frag}{X:Cx}{e:Expr}{es:List Expr}{t:TA}{m:MA}{x:Str}{j k:Nat}{ps:List Str}{F:FD}{st:Stmt}{p pos:Pos}
def qcW(w:Nat)(G:Kn ⟨X.prog,X.w,X.K,X.mg,X.base⟩ ⟨x,st,ps,j,F⟩)(hr:Room k X.A)(ha:QA K X (e::es) t m)
 (hjk:j<=k:=by first|decide|omega) (hg:Gl X x:=by rfl) (hdb:(x==("__debug__":Str))=false:=by decide) (he:starEach (e::es) X.env=(false,eval e X.env)::starEach es X.env:=by rfl) (hpl:(backTo pos (starEach es X.env)).any (·.1)=false:=by rfl) (hK:X.K=K:=by rfl):
 QE K X (.Call (.Name x p) (e::es) [] pos) (Ey (spF K ps.length F) [] E0 t) (A9 w F m):=by
 subst hK;obtain⟨f,fd,D,G,l⟩:=G;exact Se _ w G hr D ha l hjk hg hdb he hpl
def qcG(G:Kn ⟨X.prog,X.w,X.K,X.mg,X.base⟩ ⟨x,st,ps,j,F⟩)(hr:Room k X.A)(ha:QA K X (e::es) t m)
 (hjk:j<=k:=by first|decide|omega) (hg:Gl X x:=by rfl) (hdb:(x==("__debug__":Str))=false:=by decide) (he:starEach (e::es) X.env=(false,eval e X.env)::starEach es X.env:=by rfl) (hpl:(backTo pos (starEach es X.env)).any (·.1)=false:=by rfl) (hK:X.K=K:=by rfl):
 QE K X (.Call (.Name x p) (e::es) [] pos) (Ey (spF K ps.length F) [] E0 t) (EB F m):=by
 subst hK;obtain⟨f,fd,D,G,l⟩:=G;exact Sf _ G hr D ha l hjk hg hdb he hpl
variable{c P:Addr}{scope:Scope}{ix:List Nat}{params:Arguments}{body:Expr}{lpos kpos:Pos}{te tb:TE}{mi mb:ME}{fd:FuncData}{cdv:Value}{q:Str}
def Sj(a:Arguments):Str:=match a.args with
 |x::_=>x.arg
 |[]=>""
def XW{src:Ls->Hd->Option (List Int×Hd)}(LC:LamC X.K X.mg X.base fd c P q lpos)(hcd:fd.code=cdv)(hr:Room k X.A)(hm:X.mg "sorted"=none)(he:QSrc K X e te src)
 (hb:∀(f:Addr) (cd:Value) (s:Shared) (H:Hp),QE K (lCx X X.A.in1.in1 (Sj params::frN X ix) (X.env.qual++"<lambda>") scope f cd (Ai X.env.cells scope.names []) s H) body tb mb)
 (hcv:X.env.code=cdv:=by rfl) (hq:q=X.env.qual++"<lambda>":=by rfl) (S:CSc X scope (frN X ix) ix:=by exact⟨rfl,by decide +kernel,rfl,rfl,rfl,by decide +kernel⟩) (L:LSc scope (Sj params):=by exact⟨rfl,rfl,rfl,rfl⟩) (h3:3<=k:=by decide)
 (hbind:∀(cl:List (Str×Addr)) (pm cd ctv us:Value),bindArgs (kla_fn "<lambda>" (X.env.qual++"<lambda>") params body scope cl pm cd ctv) ⟨[us],[]⟩=pure [(Sj params,us)]:=by exact λ_ _ _ _ _=>rfl)
 (hcm:X.calm=true:=by rfl) (hg:Gl X "sorted":=by rfl) (hdef:defaultsOf params X.env=([],[]):=by rfl) (hs:starEach [e] X.env=[(false,eval e X.env)]:=by rfl) (hK:X.K=K:=by rfl):
 QN K X (.Call (.Name "sorted" p) [e] [⟨some "key",.Lambda params body scope lpos,kpos⟩] pos) (IQ K P (X.env.qual++"<lambda>") lpos ix te tb) (E9 src ix mb):=by
 subst hq;exact SX K ⟨hcv.trans (hcd.symm.trans LC.code),LC.hd,LC.bl⟩ (hK ▸ LC.ti) S L hr h3 hm he hb hbind hcm hg hdef hs hK
end
def FnAt(K:PySem.W.Frag)(n:Str)(s:Stmt)(f:Addr)(cd:Value):Prop:=∃oc kV dc pm ct od an sl,PySem.W.nsIn K mainGlobals n=some (some (.ref f))/\K.lookup f=some ⟨oc,od,.func (PySem.W.fnOf n n (CU s) (BJ s) (AB s) .none kV dc pm an cd ct),sl⟩/\PySem.W.codeIn K cd n=true/\PySem.W.keepIn K (.ref f)=true
def Fe(K:PySem.W.Frag)(e:Df):Prop:=∃f cd,FnAt K e.x e.st f cd
def Fla(K:PySem.W.Frag)(e:Df)(p:Addr):Prop:=∃f ca ob,FnAt K e.x e.st f (.ref ca)/\K.lookup ca=some ob/\Rf ob=some p
abbrev Xs:=List (Str×Str×Nat×Nat)
def HX(xs:Xs)(mg:Str->Option Value)(h:Heap)(c P:Str->Addr):Prop:=∀x∈xs,h.get? (P x.1)=some (tabObj #[])/\CodeHd h (c x.1) (P x.1)/\∃a o fd,mg x.1=some (.ref a)/\h.get? a=some o/\o.data=.func fd/\fd.code=.ref (c x.1)
abbrev tbs(xs:Xs)(P:Str->Addr):List Tb:=xs.map λx=>(P x.1,x.2)
abbrev enM(l:PySem.W.OpenLaw)(w:World)(K:PySem.W.Frag)(xs:Xs)(P:Str->Addr)(mg:Str->Option Value)(base:Heap):En:=⟨l.prog,w,BK K (tbs xs P),mg,base⟩
def Bd(e:Df):Prop:=∀(kV doc pm:Value) (an:Option Addr) (cdv ct:Value) (us:List Value),us.length=e.ps.length->bindArgs (PySem.W.fnOf e.x e.x (CU e.st) (BJ e.st) (AB e.st) .none kV doc pm an cdv ct) ⟨us,[]⟩=pure (e.ps.zip us)
section
variable{K:PySem.W.Frag}{h:Heap}{mg:Str->Option Value}{xs:Xs}{c P:Str->Addr}(X:K.In h)(G:h.Ns mainGlobals mg)(hx:HX xs mg h c P)
include hx in
theorem am:∀P'∈(tbs xs P).map (·.1),h.get? P'=some (tabObj #[]):=λP' hp=>by
 obtain⟨t,ht,rfl⟩:=mem_map.mp hp;obtain⟨x,hxx,rfl⟩:=mem_map.mp ht;exact(hx x hxx).1
include X G hx in
theorem FnAt.def{e:Df}{f:Addr}{cd:Value}(H:FnAt K e.x e.st f cd)(b:Bd e):∃fd,DefAt (BK K (tbs xs P)) mg e.x e.st f fd e.ps/\fd.code=cd:=by
 obtain⟨oc,kV,dc,pm,ct,od,an,sl,a,l,cc,k⟩:=H;have F:=Fun.mark (ts:=tbs xs P) (Z2 (st:=e.st) l cc k) X (am hx);exact⟨_,⟨F,PySem.W.mg_of X G a,F.binds b⟩,rfl⟩
include X G hx in
theorem Fe.dn{e:Df}(H:Fe K e)(b:Bd e)(l:PySem.W.OpenLaw)(w:World)(base:Heap):Dn (enM l w K xs P mg base) e:=by
 obtain⟨f,cd,H⟩:=H;obtain⟨fd,D,_⟩:=H.def X G hx b;exact⟨f,fd,D⟩
include X G hx in
theorem Fla.code{e:Df}{p:Addr}(H:Fla K e p){q:Str}{i j:Nat}(hm:(e.x,q,i,j)∈xs):P e.x=p/\∃f,FnAt K e.x e.st f (.ref (c e.x)):=by
 obtain⟨f,ca,ob,⟨oc,kV,dc,pm,ct,od,an,sl,a,l,cc,k⟩,t,v⟩:=H;obtain⟨_,hh,a',ob',fd,h1,h2,h3,h4⟩:=hx _ hm;have e1:=h1.symm.trans (PySem.W.mg_of X G a);cases e1;have e2:=h2.symm.trans (X _ _ l);cases e2;cases h3;have e3:Value.ref ca=.ref (c e.x):=h4;cases e3;exact⟨Wd X hh t v,f,⟨_,_,_,_,_,_,_,_,a,l,cc,k⟩⟩
include X G hx in
theorem Fla.dl{e:Df}{p:Addr}(H:Fla K e p)(b:Bd e){q:Str}{i j:Nat}(hm:(e.x,q,i,j)∈xs){i' j':Nat}(l:PySem.W.OpenLaw)(w:World){base:Heap}(hd:∀x∈xs,CodeHd base (c x.1) (P x.1))(bl:∀x∈xs,base.BuiltinsAt mg (P x.1))(nd:((Ch (BK K (tbs xs P))).map (·.1)).Nodup)(hq:q=(e.x++".<locals>.")++"<lambda>"):
 Dl (enM l w K xs P mg base) e ⟨i,j,i',j'⟩:=by
 obtain⟨_,f,H⟩:=H.code X G hx hm;obtain⟨fd,D,e1⟩:=H.def X G hx b;subst hq;exact⟨f,fd,_,_,D,⟨e1,hd _ hm,bl _ hm,⟨i,j,0,0⟩,by rw[GP];exact mem_map.mpr ⟨(P e.x,_,i,j),mem_map.mpr ⟨_,hm,rfl⟩,rfl⟩,nd,rfl,rfl⟩⟩
def Zx{ps:List Addr}(h:(xs.map λx=>P x.1)=ps)(n:ps.Nodup):((Ch (BK K (tbs xs P))).map (·.1)).Nodup:=by
 rw[GP,map_map,map_map];subst h;exact n
end
def Zs(K:PySem.W.Frag):Prop:=∀n∈(["list","tuple","len","range","repr","sum","min","max","abs","all","any","sorted","zip","isinstance","int","bool","str","set","enumerate","reversed","dict"]:List Str),PySem.W.nsIn K mainGlobals n=some none
def Zs.blt{K:PySem.W.Frag}(Z:Zs K){h:Heap}{mg:Str->Option Value}(X:K.In h)(G:h.Ns mainGlobals mg):BltA mg:=by
 constructor<;>exact PySem.W.mg_none_of X G (Z _ (by simp))
def bd1{e:Df}(hl:e.ps.length=1:=by rfl)(h:∀(kV doc pm:Value) (an:Option Addr) (cdv ct:Value) a,bindArgs (PySem.W.fnOf e.x e.x (CU e.st) (BJ e.st) (AB e.st) .none kV doc pm an cdv ct) ⟨[a],[]⟩=pure (e.ps.zip [a]):=by intros;rfl):Bd e:=λ_ _ _ _ _ _ us hu=>match us,hu.trans hl with|[_],_=>h ..
def bd2{e:Df}(hl:e.ps.length=2:=by rfl)(h:∀(kV doc pm:Value) (an:Option Addr) (cdv ct:Value) a b,bindArgs (PySem.W.fnOf e.x e.x (CU e.st) (BJ e.st) (AB e.st) .none kV doc pm an cdv ct) ⟨[a,b],[]⟩=pure (e.ps.zip [a,b]):=by intros;rfl):Bd e:=λ_ _ _ _ _ _ us hu=>match us,hu.trans hl with|[_,_],_=>h ..
def bd3{e:Df}(hl:e.ps.length=3:=by rfl)(h:∀(kV doc pm:Value) (an:Option Addr) (cdv ct:Value) a b c,bindArgs (PySem.W.fnOf e.x e.x (CU e.st) (BJ e.st) (AB e.st) .none kV doc pm an cdv ct) ⟨[a,b,c],[]⟩=pure (e.ps.zip [a,b,c]):=by intros;rfl):Bd e:=λ_ _ _ _ _ _ us hu=>match us,hu.trans hl with|[_,_,_],_=>h ..
def bd4{e:Df}(hl:e.ps.length=4:=by rfl)(h:∀(kV doc pm:Value) (an:Option Addr) (cdv ct:Value) a b c d,bindArgs (PySem.W.fnOf e.x e.x (CU e.st) (BJ e.st) (AB e.st) .none kV doc pm an cdv ct) ⟨[a,b,c,d],[]⟩=pure (e.ps.zip [a,b,c,d]):=by intros;rfl):Bd e:=λ_ _ _ _ _ _ us hu=>match us,hu.trans hl with|[_,_,_,_],_=>h ..
def Al{N ps:List Str}{sc:Scope}(h:(decide (sc.kind=.function)&&!sc.isCoroutine&&!sc.isGenerator&&ndB N&&(N.take ps.length==ps)&&(ps.all λx=>sc.names.lookup x==some .local||sc.names.lookup x==some .cell)&&sc.names.all λy=>y.2 != .free)=true):FnScope N ps sc:=by
 simp only[Bool.and_eq_true,all_eq_true,Bool.or_eq_true,beq_iff_eq,decide_eq_true_eq,Bool.not_eq_true',bne_iff_ne]at h;obtain⟨⟨⟨⟨⟨⟨h1,h2⟩,h3⟩,h4⟩,h5⟩,h6⟩,h7⟩:=h;exact⟨h1,h2,h3,FW h4,h5,h6,h7⟩
abbrev HG(l:PySem.W.OpenLaw)(w:World)(K:PySem.W.Frag)(xs:Xs)(mg:Str->Option Value)(c P:Str->Addr)(fa:Addr)(e:Df):Prop:=(∃g,K.lookup mainGlobals=some g)/\∃fd:FuncData,(∀(s:Shared) (v:Value),BindsTo s fd ⟨[v],[]⟩ [("_law_script",v)])/\∀base:Heap,(BK K (tbs xs P)).In base->base.Ns mainGlobals mg->(∀x∈xs,CodeHd base (c x.1) (P x.1))->(∀x∈xs,base.BuiltinsAt mg (P x.1))->FnOk l.prog w (BK K (tbs xs P)) mg base CX0 e.k fa fd ["_law_script"] (spF (BK K (tbs xs P)) 1 e.F)
def TD{l:PySem.W.OpenLaw}{w:World}{K:PySem.W.Frag}{h:Heap}{mg:Str->Option Value}{fa:Addr}{xs:Xs}{c P:Str->Addr}{e:Df}(X:K.In h)(G:h.Ns mainGlobals mg)(hfa:mg e.x=some (.ref fa))(hx:HX xs mg h c P)(H:Fe K e)(b:Bd e)(hps:e.ps=(["_law_script"]:List Str))
 (ok:∀base:Heap,(∀x∈xs,CodeHd base (c x.1) (P x.1))->(∀x∈xs,base.BuiltinsAt mg (P x.1))->Kn (enM l w K xs P mg base) e):
 HG l w K xs mg c P fa e:=by
 obtain⟨f,cd,H⟩:=H;obtain⟨fd,D,_⟩:=H.def X G hx b;obtain⟨oc,kV,dc,pm,ct,od,an,sl,a,lk,cc,k⟩:=H;have hg:∃g,K.lookup mainGlobals=some g:=by
  cases e:K.lookup mainGlobals with
  |some g=>exact⟨g,rfl⟩
  |none=>unfold PySem.W.nsIn at a;rw[e]at a;cases a
 have e1:=hfa.symm.trans D.mg;cases e1;refine⟨hg,fd,λs v=>?_,λbase _ _ hd bl=>?_⟩
 .obtain⟨⟨oc',od',kV',dc',pm',an',cd',ct',sl',rfl,_,_⟩,_⟩:=D.fn;have:=b kV' dc' pm' an' cd' ct' [v] (by rw[hps];rfl);rw[hps]at this;exact .of_eq this
 .obtain⟨f',fd',D',F',_⟩:=ok base hd bl;have e2:=D.mg.symm.trans D'.mg;cases e2;obtain⟨⟨oc',od',kV',dc',pm',an',cd',ct',sl',h1,h2,_⟩,_⟩:=D.fn;obtain⟨⟨oc2,od2,kV2,dc2,pm2,an2,cd2,ct2,sl2,h3,h4,_⟩,_⟩:=D'.fn;have e3:=h2.symm.trans h4;cases e3;rw[hps]at F';exact F'
end L2
namespace Ru
def psum{L M:List Int}(h:L.Perm M):L.sum=M.sum:=by
 induction h with
 |nil=>rfl
 |cons x _ ih=>simp[ih]
 |swap x y l=>simp;omega
 |trans _ _ ih1 ih2=>exact ih1.trans ih2
section
variable{α:Type}[DecidableEq α]
def CV(ln:α->Int):Int->List α->α->Int
 |_,[],_=>0
 |t,x::r,i=>if i=x then t+ln x else CV ln (t+ln x) r i
def JR{ln:α->Int}:∀{dn:List α} {t:Int} {x:α} {rest:List α},x∉dn->CV ln t (dn++x::rest) x=t+(dn.map ln).sum+ln x
 |[],t,x,rest,_=>by simp[CV]
 |y::r,t,x,rest,h=>by
  have h1:x≠y:=λe=>h (by simp[e]);rw[cons_append,CV,if_neg h1,JR (λq=>h (mem_cons_of_mem _ q)),map_cons,sum_cons];omega
def edd{ln:α->Int}(h0:∀i,0<=ln i){d:Int}:∀{L:List α} {t:Int} {P:List α},P.Nodup->(∀i∈P,i∈L)->P≠[]->(∀i∈P,CV ln t L i<=d)->t+(P.map ln).sum<=d
 |[],t,P,_,hs,hne,_=>by
  cases P with
  |nil=>exact absurd rfl hne
  |cons p r=>exact absurd (hs p (by simp)) (by simp)
 |x::r,t,P,nd,hs,hne,he=>by
  by_cases hx:x∈P
  .have es:(P.map ln).sum=ln x+((P.erase x).map ln).sum:=by
    have:=psum ((List.perm_cons_erase hx).map ln);simpa using this
   by_cases hP:P.erase x=[]
   .have:=he x hx;rw[CV,if_pos rfl]at this;rw[es,hP];simpa using this
   .have:=edd h0 (L:=r) (t:=t+ln x) (P:=P.erase x) (nd.erase x) (λi hi=>by
     have h1:=(nd.mem_erase_iff).mp hi;rcases mem_cons.mp (hs i h1.2)with q|q
     .exact absurd q h1.1
     .exact q) hP (λi hi=>by
     have h1:=(nd.mem_erase_iff).mp hi;have:=he i h1.2;rw[CV,if_neg h1.1]at this;exact this)
    rw[es];omega
  .have ne:∀i∈P,i≠x:=λi hi e=>hx (e ▸ hi);have:=edd h0 (L:=r) (t:=t+ln x) (P:=P) nd (λi hi=>by
    rcases mem_cons.mp (hs i hi)with q|q
    .exact absurd q (ne i hi)
    .exact q) hne (λi hi=>by
    have:=he i hi;rw[CV,if_neg (ne i hi)]at this;exact this)
   have:=h0 x;omega
end
def K1{ln:Int->Int}{lN:Nat->Int}(h:∀k:Nat,ln k=lN k)(k:Nat):∀(o:List Nat) (t:Int),CV ln t (o.map λj:Nat=>(j:Int)) (k:Int)=CV lN t o k
 |[],t=>rfl
 |x::r,t=>by
  rw[map_cons,CV,CV,h,K1 h k r];by_cases e:k=x
  .simp[e]
  .rw[if_neg (by omega),if_neg e]
def JK{f:Int->Int}(h0:∀i,0<=f i){S L:List Int}(h:S.Sublist L):(S.map f).sum<=(L.map f).sum:=by
 induction h with
 |slnil=>simp
 |cons a _ ih=>have:=h0 a;simp;omega
 |cons_cons a _ ih=>simp;omega
def Js{f:Int->Int}{p:Int->Prop}[DecidablePred p]:∀L:List Int,(L.map λi=>if p i then 0 else f i).sum=(L.map f).sum-((L.filter λi=>decide (p i)).map f).sum
 |[]=>rfl
 |x::r=>by
  have ih:=Js (f:=f) (p:=p) r;by_cases h:p x
  .simp[h]at ih ⊢;omega
  .simp[h]at ih ⊢;omega
end Ru
namespace L2
open PySem PySem.W PyProof.Rows
def feE{K:PySem.W.Frag}{e:Df}{n:Str}{s:Stmt}(h:Ea.Fe K n s)(hn:e.x=n:=by rfl)(hs:e.st=s:=by rfl):Fe K e:=by subst hn;subst hs;exact h
def flE{K:PySem.W.Frag}{e:Df}{n:Str}{s:Stmt}{p:Addr}(h:Ea.Fl K n s p)(hn:e.x=n:=by rfl)(hs:e.st=s:=by rfl):Fla K e p:=by subst hn;subst hs;exact h
def zsE{K:PySem.W.Frag}(h:Ea.Zs K):Zs K:=h
end L2
namespace T40
open PySem L2
abbrev Hi:Stmt:=top 5
def LV:FnScope ["thing"] ["thing"] (AB Hi):=Al (by kernel_rfl)
@[reducible] def My:MS:=(AN (EU (C5 .int (A0 0)) (Fs (C5 .bool (A0 0)))))
def DB:FD:=mkF 1 1 My
abbrev E3:Df:=⟨"is_number",Hi,["thing"],1,DB⟩
abbrev GJ:Stmt:=top 6
def JP:FnScope ["many","thing"] ["many","thing"] (AB GJ):=Al (by kernel_rfl)
@[reducible] def Kd:MS:=(AN (EU (C5 .tuple (A0 1)) (mOp gEq (mCB (f1 true BR) (A2 (A0 1) A4)) (A0 0))))
def CT:FD:=mkF 2 2 Kd
abbrev EM:Df:=⟨"is_tuple_of",GJ,["many","thing"],1,CT⟩
abbrev IX:Stmt:=top 8
def Mn:FnScope ["rows","t","told","begin","amount"] ["rows","t"] (AB IX):=Al (by kernel_rfl)
@[reducible] def ci:MS:=(A8 (AM 2 (mC (.int 0)))
 (A8 (BI (Ak (A0 0)) (Av 2 (AH (AA 3) (AH (AA 4) Aw)))
  (A8 (Aa (AD (mOp gGt (A0 3) (A0 1)))
  (AN (A0 2))
  AS)
 (AM 2 (A0 4))))
 (AN (A0 2))))
def cb:FD:=mkF 2 5 ci
abbrev G6:Df:=⟨"steps_at",IX,["rows","t"],1,cb⟩
abbrev Jz:Stmt:=top 9
def OH:FnScope ["cost","t","word","above"] ["cost","t"] (AB Jz):=Al (by kernel_rfl)
@[reducible] def cj:MS:=(A8 (AM 2 (mOp gIx (A0 0) (mC (.int 0))))
 (A8 (Aa (AD (mOp gEq (A0 2) (mC (.str "steps"))))
  (AN (A9 0 cb (A2 (mOp gIx (A0 0) (mC (.int 1))) (A2 (A0 1) A4))))
  AS)
 (A8 (Aa (AD (mOp gEq (A0 2) (mC (.str "ends"))))
  (AN (mOp Du (mOp gIx (A0 0) (mC (.int 1))) (A0 1)))
  AS)
 (A8 (AM 3 (mOp BM (A0 1) (mOp gIx (A0 0) (mC (.int 1)))))
 (A8 (Aa (AD (mOp gEq (A0 2) (mC (.str "late"))))
  (AN (A0 3))
  AS)
 (A8 (Aa (AD (mOp gLe (A0 3) (mC (.int 0))))
  (AN (mC (.int 0)))
  AS)
 (A8 (Aa (AD (mOp gEq (A0 2) (mC (.str "tardy"))))
  (AN (mOp Du (mOp gIx (A0 0) (mC (.int 2))) (A0 3)))
  AS)
 (AN (mOp gIx (A0 0) (mC (.int 2)))))))))))
def Rw:FD:=mkF 2 4 cj
abbrev Gx:Df:=⟨"cost_at",Jz,["cost","t"],2,Rw⟩
abbrev GF:Stmt:=top 11
def JL:FnScope ["works","coming"] ["works"] (AB GF):=Al (by kernel_rfl)
@[reducible] def KZ:MS:=(A8 (AM 1 (mOp gIx (mOp gIx (A0 0) (mC (.int 0))) (mC (.int 1))))
 (A8 (Aa (BX (BQ Go (Ao 1 [1] (Ak (A0 0)) (AA 0) Bi (mOp gEq (mOp gIx (A0 0) (mC (.int 1))) (A0 1)))))
  (AN (A0 1))
  AS)
 (AN (mC .non))))
def DF:FD:=mkF 1 2 KZ
abbrev EJ:Df:=⟨"same_coming",GF,["works"],1,DF⟩
abbrev GU:Stmt:=top 12
def KS:FnScope ["works","coming"] ["works"] (AB GU):=Al (by kernel_rfl)
@[reducible] def Lz:MS:=(A8 (AM 1 (A9 0 DF (A2 (A0 0) A4)))
 (A8 (Aa (AD (B0 false (A0 1)))
  Cj
  AS)
 (AN (A0 1))))
def Dc:FD:=mkF 1 2 Lz
abbrev Eu:Df:=⟨"one_coming",GU,["works"],2,Dc⟩
abbrev DR:Stmt:=top 13
def FQ:FnScope ["works","word"] ["works","word"] (AB DR):=Al (by kernel_rfl)
@[reducible] def Fp:MS:=(Aa (BX (BQ MC (Ao 1 [1] (Ak (A0 0)) (AA 0) Bi (mOp gNe (mOp gIx (mOp gIx (A0 0) (mC (.int 2))) (mC (.int 0))) (A0 1)))))
 Cj
 AS)
def Ba:FD:=mkF 2 2 Fp
abbrev CJ:Df:=⟨"refuse_other_costs",DR,["works","word"],1,Ba⟩
abbrev Hh:Stmt:=top 14
def LU:FnScope ["work"] ["work"] (AB Hh):=Al (by kernel_rfl)
@[reducible] def Mx:MS:=(AN (mOp gIx (mOp gIx (A0 0) (mC (.int 2))) (Ft (mC (.int 1)))))
def D9:FD:=mkF 1 1 Mx
abbrev E2:Df:=⟨"weight_of",Hh,["work"],1,D9⟩
abbrev GI:Stmt:=top 16
def JO:FnScope ["works","coming"] ["works"] (AB GI):=Al (by kernel_rfl)
@[reducible] def Kc:MS:=(A8 (AM 1 (A9 0 Dc (A2 (A0 0) A4)))
 (A8 (Bp (A9 0 Ba (A2 (A0 0) (A2 (mC (.str "miss")) A4))))
 (AN (A0 1))))
def Bu:FD:=mkF 1 2 Kc
abbrev CQ:Df:=⟨"late_coming",GI,["works"],3,Bu⟩
abbrev K0:Stmt:=top 17
def OI:FnScope ["works"] ["works"] (AB K0):=Al (by kernel_rfl)
@[reducible] def QL:MS:=(AN (B5 (NV (A2 (mCB (f1 true BR) (A2 (A0 0) A4)) A4) [0] (As (A2 (mOp gIx (mOp gIx (mOp gIx (A0 1) (A0 0)) (mC (.int 2))) (mC (.int 1))) (A2 (A0 0) A4))))))
def Cv:FD:=mkF 1 1 QL
abbrev Cr:Df:=⟨"by_dues",K0,["works"],4,Cv⟩
abbrev GK:Stmt:=top 18
def JQ:FnScope ["works"] ["works"] (AB GK):=Al (by kernel_rfl)
@[reducible] def Ke:MS:=(AN (BQ DU (Ao 1 [] (Ak (A0 0)) (AA 0) Bi (A9 0 D9 (A2 (A0 0) A4)))))
def BV:FD:=mkF 1 1 Ke
abbrev Bs:Df:=⟨"full_weight",GK,["works"],2,BV⟩
abbrev Ju:Stmt:=top 19
def OC:FnScope ["one","other"] ["one","other"] (AB Ju):=Al (by kernel_rfl)
@[reducible] def QD:MS:=(AN (I0 (B0 false (A0 1)) (EU (B0 true (A0 0)) (mOp gLe (A0 0) (A0 1)))))
def Cu:FD:=mkF 2 2 QD
abbrev EE:Df:=⟨"no_more",Ju,["one","other"],1,Cu⟩
abbrev GT:Stmt:=top 20
def KR:FnScope ["row","work","w","length","coming","word","due","weight","end"] ["row","work","w"] (AB GT):=Al (by kernel_rfl)
@[reducible] def Ly:MS:=(A8 (EI (A0 1) (Av 3 (AH (AA 3) (AH (AA 4) (AH (Av 3 (AH (AA 5) (AH (AA 6) (AH (AA 7) Aw)))) Aw)))))
 (A8 (Aa (mOr (AD (mOp gLt (A0 2) (A0 7))) (AD (B0 false (mOp gIx (A0 0) (mOp BM (A0 2) (A0 7))))))
  (AN (mC .non))
  AS)
 (A8 (AM 8 (mOp AY (mOp gIx (A0 0) (mOp BM (A0 2) (A0 7))) (A0 3)))
 (AN (mIf (AD (mOp gLe (A0 8) (A0 6))) (A0 8) (mC .non))))))
def Ct:FD:=mkF 3 9 Ly
abbrev DW:Df:=⟨"put_behind",GT,["row","work","w"],1,Ct⟩
abbrev EO:Stmt:=top 21
def GS:FnScope ["table"] ["table"] (AB EO):=Al (by kernel_rfl)
@[reducible] def Hg:MS:=(AN (BQ FJ (Ao 2 [] (BY (Ak (mOp gIx (A0 0) (Ft (mC (.int 1)))))) (Av 2 (AH (AA 0) (AH (AA 1) Aw))) (AD (B0 true (A0 1))) (A0 0))))
def BW:FD:=mkF 1 1 Hg
abbrev C1:Df:=⟨"greatest_weight",EO,["table"],1,BW⟩
abbrev F0:Stmt:=top 22
def Hs:FnScope ["works","thing","path","many","k","row","w","entry"] ["works","thing","path"] (AB F0):=Al (by kernel_rfl)
@[reducible] def Ip:MS:=(A8 (Aa (CC (BX (A9 0 CT (A2 (mOp AY (mCB (f1 true BR) (A2 (A0 0) A4)) (mC (.int 1))) (A2 (A0 1) A4)))))
 Cj
 AS)
 (A8 (AM 3 (mOp AY (A9 0 BV (A2 (A0 0) A4)) (mC (.int 1))))
 (BI (BY (Ak (A0 1))) (Av 2 (AH (AA 4) (AH (AA 5) Aw)))
  (A8 (Aa (CC (BX (A9 0 CT (A2 (A0 3) (A2 (A0 5) A4)))))
  Cj
  AS)
 (BI (BY (Ak (A0 5))) (Av 2 (AH (AA 6) (AH (AA 7) Aw)))
  (Aa (DT (AD (B0 true (A0 7))) (CC (BX (A9 0 DB (A2 (A0 7) A4)))))
  Cj
  AS))))))
def Cc:FD:=mkF 3 8 Ip
abbrev DX:Df:=⟨"look_at_shape",F0,["works","thing","path"],3,Cc⟩
abbrev GG:Stmt:=top 23
def JM:FnScope ["work","above","row","path","w","entry"] ["work","above","row","path"] (AB GG):=Al (by kernel_rfl)
@[reducible] def Ka:MS:=(BI (BY (Ak (A0 2))) (Av 2 (AH (AA 4) (AH (AA 5) Aw)))
 (A8 (Aa (CC (BX (A9 0 Cu (A2 (A0 5) (A2 (mOp gIx (A0 1) (A0 4)) A4)))))
 Cj
 AS)
 (Aa (CC (BX (A9 0 Cu (A2 (A0 5) (A2 (A9 0 Ct (A2 (A0 1) (A2 (A0 0) (A2 (A0 4) A4)))) A4)))))
  Cj
  AS)))
def DG:FD:=mkF 4 6 Ka
abbrev EK:Df:=⟨"look_at_row",GG,["work","above","row","path"],2,DG⟩
abbrev El:Stmt:=top 24
def Hf:FnScope ["works","table","path","k","j"] ["works","table","path"] (AB El):=Al (by kernel_rfl)
@[reducible] def Hz:MS:=(A8 (Aa (CC (BX (A9 0 Cu (A2 (mOp gIx (mOp gIx (A0 1) (mC (.int 0))) (mC (.int 0))) (A2 (A9 0 Bu (A2 (A0 0) A4)) A4)))))
 Cj
 AS)
 (BI (FZ (CZ (A9 0 Cv (A2 (A0 0) A4)))) (Av 2 (AH (AA 3) (AH (AA 4) Aw)))
  (Bp (A9 0 DG (A2 (mOp gIx (A0 0) (A0 4)) (A2 (mOp gIx (A0 1) (mOp BM (A0 3) (mC (.int 1)))) (A2 (mOp gIx (A0 1) (A0 3)) (A2 (mOp Ox (A0 2) (As (A2 (A0 3) A4))) A4))))))))
def CL:FD:=mkF 3 5 Hz
abbrev DL:Df:=⟨"look_at_places",El,["works","table","path"],5,CL⟩
abbrev GV:Stmt:=top 25
def KU:FnScope ["works","thing"] ["works","thing"] (AB GV):=Al (by kernel_rfl)
@[reducible] def M0:MS:=(A8 (Bp (A9 0 Bu (A2 (A0 0) A4)))
 (A8 (Bp (A9 0 Cc (A2 (A0 0) (A2 (A0 1) (A2 (As A4) A4)))))
 (A8 (Bp (A9 0 CL (A2 (A0 0) (A2 (A0 1) (A2 (As A4) A4)))))
 (AN (mOp BM (A9 0 BV (A2 (A0 0) A4)) (A9 0 BW (A2 (A0 1) A4)))))))
def Dd:FD:=mkF 2 2 M0
abbrev Ev:Df:=⟨"lets_table",GV,["works","thing"],6,Dd⟩
abbrev IZ:Stmt:=top 27
def Mp:FnScope ["above","work","row","w","kept","more"] ["above","work"] (AB IZ):=Al (by kernel_rfl)
@[reducible] def Of:MS:=(A8 (AM 2 (B5 (CY A4)))
 (A8 (BI (BY (Ak (A0 0))) (Av 2 (AH (AA 3) (AH (AA 4) Aw)))
  (A8 (AM 5 (A9 0 Ct (A2 (A0 0) (A2 (A0 1) (A2 (A0 3) A4)))))
 (Bp (mMt BF (A0 2) (A2 (mIf (BX (A9 0 Cu (A2 (A0 4) (A2 (A0 5) A4)))) (A0 4) (A0 5)) A4)))))
 (AN (mCB (f1 true B9) (A2 (A0 2) A4)))))
def Ec:FD:=mkF 2 6 Of
abbrev G8:Df:=⟨"next_row",IZ,["above","work"],2,Ec⟩
abbrev IW:Stmt:=top 28
def Mm:FnScope ["works","coming","rows","j"] ["works"] (AB IW):=Al (by kernel_rfl)
@[reducible] def Od:MS:=(A8 (AM 1 (A9 0 Bu (A2 (A0 0) A4)))
 (A8 (AM 2 (B5 (CY (A2 (mOp AY (As (A2 (A0 1) A4)) (HP (As (A2 (mC .non) A4)) (A9 0 BV (A2 (A0 0) A4)))) A4))))
 (A8 (BI (CZ (A9 0 Cv (A2 (A0 0) A4))) (AA 3)
  (Bp (mMt BF (A0 2) (A2 (A9 0 Ec (A2 (mOp gIx (A0 2) (Ft (mC (.int 1)))) (A2 (mOp gIx (A0 0) (A0 3)) A4))) A4))))
 (AN (mCB (f1 true B9) (A2 (A0 2) A4))))))
def Db:FD:=mkF 1 4 Od
abbrev EY:Df:=⟨"table_of",IW,["works"],5,Db⟩
abbrev Jw:Stmt:=top 29
def OE:FnScope ["works","w","table","some","k","j"] ["works","w"] (AB Jw):=Al (by kernel_rfl)
@[reducible] def QJ:MS:=(A8 (AM 2 (A9 0 Db (A2 (A0 0) A4)))
 (A8 (Aa (mOr (AD (mOp gLt (A0 1) (mC (.int 0)))) (mOr (AD (mOp gGt (A0 1) (A9 0 BV (A2 (A0 0) A4)))) (AD (B0 false (mOp gIx (mOp gIx (A0 2) (Ft (mC (.int 1)))) (A0 1))))))
  (AN (mC .non))
  AS)
 (A8 (AM 3 (B5 (CY A4)))
 (A8 (BI (Jd (CZ (A9 0 Cv (A2 (A0 0) A4)))) (Av 2 (AH (AA 4) (AH (AA 5) Aw)))
  (Aa (AD (mOp gNe (mOp gIx (mOp gIx (A0 2) (mOp AY (A0 4) (mC (.int 1)))) (A0 1)) (mOp gIx (mOp gIx (A0 2) (A0 4)) (A0 1))))
  (A8 (Bp (mMt BF (A0 3) (A2 (A0 5) A4)))
 (Gj 1 (λi j=>i-j) (A9 0 D9 (A2 (mOp gIx (A0 0) (A0 5)) A4))))
  AS))
 (AN (BQ B9 (C4 (CZ (A0 3)))))))))
def FC:FD:=mkF 2 6 QJ
abbrev Gu:Df:=⟨"in_time",Jw,["works","w"],6,FC⟩
abbrev GX:Stmt:=top 31
def KY:FnScope ["works","table","some","first"] ["works"] (AB GX):=Al (by kernel_rfl)
@[reducible] def M2:MS:=(A8 (AM 1 (A9 0 Db (A2 (A0 0) A4)))
 (A8 (AM 2 (A9 0 FC (A2 (A0 0) (A2 (A9 0 BW (A2 (A0 1) A4)) A4))))
 (A8 (AM 3 (B5 (Ao 1 [2] (CZ (A9 0 Cv (A2 (A0 0) A4))) (AA 0) (AD (mOp (gIn false) (A0 0) (A0 1))) (A0 0))))
 (AN (As (A2 (BQ B9 (Gi (A0 3) (B5 (Ao 1 [2] (Er (A2 (mCB (f1 true BR) (A2 (A0 0) A4)) A4)) (AA 0) (AD (mOp (gIn true) (A0 0) (A0 1))) (A0 0))))) (A2 (A0 1) A4)))))))
def Dh:FD:=mkF 1 4 M2
abbrev Ex:Df:=⟨"late_order",GX,["works"],7,Dh⟩
abbrev Ib:Stmt:=top 33
def Mr:FnScope ["works","wishes","thing"] ["works","wishes","thing"] (AB Ib):=Al (by kernel_rfl)
@[reducible] def Oh:MS:=(A8 (Aa (mOr (CC (BX (C5 .tuple (A0 2)))) (CC (BX (BQ Go (Ao 1 [] (Ak (A0 2)) (AA 0) Bi (A9 0 DB (A2 (A0 0) A4)))))))
 (AN (mC (.bl false)))
 AS)
 (A8 (Aa (AD (ET true (C4 (Ak (A0 2))) (Fr (A2 (mCB (f1 true BR) (A2 (A0 0) A4)) A4))))
  (AN (mC (.bl false)))
  AS)
 (AN (BQ Go (Ao 2 [2] (Ak (A0 1)) (Av 2 (AH (AA 0) (AH (AA 1) Aw))) Bi (mOp gLt (M4 HZ (A0 2) (A2 (A0 0) A4)) (M4 HZ (A0 2) (A2 (A0 1) A4))))))))
def Ed:FD:=mkF 3 3 Oh
abbrev G9:Df:=⟨"is_order",Ib,["works","wishes","thing"],2,Ed⟩
abbrev Tg:Stmt:=top 34
def Wh:FnScope ["works","order","pieces","end","work","length","coming","cost","begin"] ["works","order"] (AB Tg):=Al (by kernel_rfl)
@[reducible] def cr:MS:=(A8 (AM 2 (B5 (CY A4)))
 (A8 (AM 3 (mC (.int 0)))
 (A8 (BI (Ak (A0 1)) (AA 4)
  (A8 (EI (mOp gIx (A0 0) (A0 4)) (Av 3 (AH (AA 5) (AH (AA 6) (AH (AA 7) Aw)))))
 (A8 (AM 8 (mCB EW (A2 (A0 6) (A2 (A0 3) A4))))
 (A8 (AM 3 (mOp AY (A0 8) (A0 5)))
 (Bp (mMt BF (A0 2) (A2 (As (A2 (A0 4) (A2 (A0 8) (A2 (A0 3) A4)))) A4)))))))
 (AN (mCB (f1 true B9) (A2 (A0 2) A4))))))
def cm:FD:=mkF 2 9 cr
abbrev P0:Df:=⟨"run",Tg,["works","order"],1,cm⟩
abbrev Jy:Stmt:=top 36
def OG:FnScope ["works","plan","ends","work","begin","end"] ["works","plan"] (AB Jy):=Al (by kernel_rfl)
@[reducible] def cg:MS:=(A8 (AM 2 (B5 (Ao 1 [] (Ak (A0 0)) (AA 0) Bi (mC (.int 0)))))
 (A8 (BI (Ak (A0 1)) (Av 3 (AH (AA 3) (AH (AA 4) (AH (AA 5) Aw))))
  (ES (A0 2) (A0 3) (A0 5)))
 (AN (mCB (f1 true B9) (A2 (A0 2) A4)))))
def F_ends_of:FD:=mkF 2 6 cg
abbrev Gw:Df:=⟨"ends_of",Jy,["works","plan"],1,F_ends_of⟩
abbrev Ie:Stmt:=top 38
def Mt:FnScope ["works","ends"] ["works","ends"] (AB Ie):=Al (by kernel_rfl)
@[reducible] def cf:MS:=(AN (BQ B9 (Ao 2 [] (Fq (Ak (A0 0)) (Ak (A0 1))) (Av 2 (AH (AA 0) (AH (AA 1) Aw))) Bi (A9 0 Rw (A2 (mOp gIx (A0 0) (mC (.int 2))) (A2 (A0 1) A4))))))
def ce:FD:=mkF 2 2 cf
abbrev GB:Df:=⟨"costs_of",Ie,["works","ends"],3,ce⟩
abbrev NA:Stmt:=top 39
def S4:FnScope ["works","ends","question","costs"] ["works","ends","question"] (AB NA):=Al (by kernel_rfl)
@[reducible] def ck:MS:=(A8 (AM 3 (A9 0 ce (A2 (A0 0) (A2 (A0 1) A4))))
 (A8 (Aa (AD (mOp gEq (A0 2) (mC (.str "greatest"))))
  (AN (mCB (f1 true FJ) (A2 (A0 3) A4)))
  AS)
 (AN (mCB (f1 true DU) (A2 (A0 3) A4)))))
def F_worth:FD:=mkF 3 4 ck
abbrev Jj:Df:=⟨"worth",NA,["works","ends","question"],4,F_worth⟩
abbrev LW:Stmt:=top 41
def Pb:FnScope ["_law_script"] ["_law_script"] (AB LW):=Al (by kernel_rfl)
@[reducible] def T0:MS:=(AN (Kv [((mC (.str "cells")),(B5 (Gh (M3 (A0 0) HQ (Ku (mC (.int 63))))))),((mC (.str "at")),(mC (.int 0))),((mC (.str "rest")),(mC (.int 0))),((mC (.str "count")),(mC (.int 0)))]))
def GD:FD:=mkF 1 1 T0
abbrev ID:Df:=⟨"_law_source",LW,["_law_script"],1,GD⟩
abbrev Pe:Stmt:=top 42
def US:FnScope ["_law_source_here","_law_many","_law_found","_law_cells","_law_cell","_law_mixed"] ["_law_source_here","_law_many"] (AB Pe):=Al (by kernel_rfl)
@[reducible] def Yn:MS:=(A8 (F4 (A0 0) (mC (.str "count")) (mOp AY (mOp CI (A0 0) (mC (.str "count"))) (mC (.int 1))))
 (A8 (Aa (AD (mOp gGt (mOp CI (A0 0) (mC (.str "rest"))) (mC (.int 0))))
  (A8 (AM 2 (mOp Fx (mOp CI (A0 0) (mC (.str "rest"))) (A0 1)))
 (A8 (F4 (A0 0) (mC (.str "rest")) (mOp Fy (mOp CI (A0 0) (mC (.str "rest"))) (A0 1)))
 (AN (A0 2))))
  AS)
 (A8 (AM 3 (mOp CI (A0 0) (mC (.str "cells"))))
 (A8 (AM 4 (mIf (AD (F3 true (A0 3) (CY A4))) (mOp gIx (A0 3) (mOp Fx (mOp CI (A0 0) (mC (.str "at"))) (mCB (f1 true BR) (A2 (A0 3) A4)))) (mC (.int 11))))
 (A8 (F4 (A0 0) (mC (.str "at")) (mOp AY (mOp CI (A0 0) (mC (.str "at"))) (mC (.int 1))))
 (A8 (Aa (DT (AD (mOp gGe (A0 4) (mOp TH (mC (.int 10)) (mC (.int 18))))) (AD (mOp gLe (mOp CI (A0 0) (mC (.str "at"))) (mCB (f1 true BR) (A2 (A0 3) A4)))))
  (A8 (F4 (A0 0) (mC (.str "rest")) (mOp Fy (A0 4) (A0 1)))
 (AN (mOp Fx (A0 4) (A0 1))))
  AS)
 (A8 (AM 5 (mOp AY (mOp Fx (A0 4) (mC (.int 1073741827))) (mOp Du (mC (.int 611953)) (mOp CI (A0 0) (mC (.str "count"))))))
 (A8 (AM 5 (mOp Fx (mOp AY (mOp AY (mOp Du (A0 5) (A0 5)) (mOp Du (mC (.int 3)) (mOp CI (A0 0) (mC (.str "count"))))) (mC (.int 7))) (mC (.int 2147483543))))
 (A8 (AM 5 (mOp Fx (mOp AY (mOp AY (mOp Du (A0 5) (A0 5)) (mOp Du (mC (.int 69069)) (mOp CI (A0 0) (mC (.str "count"))))) (mC (.int 1))) (mC (.int 2147483497))))
 (AN (mOp Fx (mOp Fy (A0 5) (mC (.int 256))) (A0 1))))))))))))
def Au:FD:=mkF 2 6 Yn
abbrev J8:Df:=⟨"_law_pick",Pe,["_law_source_here","_law_many"],1,Au⟩
abbrev GW:Stmt:=top 43
def KW:FnScope ["_law_source_here","_law_most","_law_many","_law_coming","_law_longest","_law_heaviest","_law_span","_law_works","_law_k","_law_way","_law_length","_law_due","_law_weight","_law_work"] ["_law_source_here","_law_most"] (AB GW):=Al (by kernel_rfl)
@[reducible] def M1:MS:=(A8 (AM 2 (mOp AY (mC (.int 1)) (A9 2 Au (A2 (A0 0) (A2 (A0 1) A4)))))
 (A8 (AM 3 (A9 2 Au (A2 (A0 0) (A2 (mC (.int 61)) A4))))
 (A8 (AM 4 (IA (CY (A2 (mC (.int 20)) (A2 (mC (.int 5)) (A2 (mC (.int 2)) A4)))) (A9 2 Au (A2 (A0 0) (A2 (mC (.int 3)) A4)))))
 (A8 (AM 5 (IA (CY (A2 (mC (.int 9)) (A2 (mC (.int 3)) (A2 (mC (.int 1)) A4)))) (A9 2 Au (A2 (A0 0) (A2 (mC (.int 3)) A4)))))
 (A8 (AM 6 (mOp AY (mC (.int 2)) (mOp Fy (mOp Du (A0 2) (A0 4)) (mOp AY (mC (.int 1)) (A9 2 Au (A2 (A0 0) (A2 (mC (.int 2)) A4)))))))
 (A8 (AM 7 (B5 (CY A4)))
 (A8 (BI (Er (A2 (A0 2) A4)) (AA 8)
  (A8 (AM 9 (A9 2 Au (A2 (A0 0) (A2 (mC (.int 6)) A4))))
 (A8 (AM 10 (mOp AY (mC (.int 1)) (A9 2 Au (A2 (A0 0) (A2 (A0 4) A4)))))
 (A8 (AM 11 (mOp AY (mOp BM (A0 3) (mC (.int 1))) (A9 2 Au (A2 (A0 0) (A2 (A0 6) A4)))))
 (A8 (AM 12 (A9 2 Au (A2 (A0 0) (A2 (mOp AY (A0 5) (mC (.int 1))) A4))))
 (A8 (Aa (AD (mOp gEq (A0 9) (mC (.int 0))))
  (AM 11 (mOp BM (A9 2 Au (A2 (A0 0) (A2 (mC (.int 500)) A4))) (mC (.int 99))))
  AS)
 (A8 (Aa (DT (AD (mOp gEq (A0 9) (mC (.int 1)))) (AD (mOp gGt (A0 8) (mC (.int 0)))))
  (AM 11 (mOp gIx (mOp gIx (mOp gIx (A0 7) (A9 2 Au (A2 (A0 0) (A2 (A0 8) A4)))) (mC (.int 2))) (mC (.int 1))))
  AS)
 (A8 (AM 13 (As (A2 (A0 10) (A2 (A0 3) (A2 (As (A2 (mC (.str "miss")) (A2 (A0 11) (A2 (A0 12) A4)))) A4)))))
 (A8 (Aa (DT (AD (mOp gEq (A0 9) (mC (.int 2)))) (AD (mOp gGt (A0 8) (mC (.int 0)))))
  (AM 13 (mOp gIx (A0 7) (A9 2 Au (A2 (A0 0) (A2 (A0 8) A4)))))
  AS)
 (Bp (mMt BF (A0 7) (A2 (A0 13) A4))))))))))))
 (AN (mCB (f1 true B9) (A2 (A0 7) A4))))))))))
def Dg:FD:=mkF 2 14 M1
abbrev Ew:Df:=⟨"_law_late_works",GW,["_law_source_here","_law_most"],2,Dg⟩
abbrev Ti:Stmt:=top 44
def Wj:FnScope ["_law_source_here","_law_works","_law_way","_law_days","_law_j","_law_found","_law_k","_law_length","_law_coming","_law_cost","_law_later"] ["_law_source_here","_law_works"] (AB Ti):=Al (by kernel_rfl)
@[reducible] def Zz:MS:=(A8 (AM 2 (A9 2 Au (A2 (A0 0) (A2 (mC (.int 3)) A4))))
 (A8 (AM 3 (mOp BM (A9 2 Au (A2 (A0 0) (A2 (mC (.int 1999)) A4))) (mC (.int 999))))
 (A8 (AM 4 (A9 2 Au (A2 (A0 0) (A2 (mCB (f1 true BR) (A2 (A0 1) A4)) A4))))
 (A8 (AM 5 (B5 (CY A4)))
 (A8 (BI (BY (Ak (A0 1))) (Av 2 (AH (AA 6) (AH (Av 3 (AH (AA 7) (AH (AA 8) (AH (AA 9) Aw)))) Aw)))
  (Aa (AD (mOp gEq (A0 2) (mC (.int 2))))
  (Bp (mMt BF (A0 5) (A2 (As (A2 (A0 7) (A2 (mC (.int 0)) (A2 (As (A2 (mC (.str "miss")) (A2 (mOp BM (A0 3) (A9 2 Au (A2 (A0 0) (A2 (mC (.int 61)) A4)))) (A2 (mC (.int 1)) A4)))) A4)))) A4)))
  (A8 (AM 10 (mIf (mOr (AD (mOp gEq (A0 2) (mC (.int 0)))) (AD (mOp gEq (A0 6) (A0 4)))) (A0 3) (mC (.int 0))))
 (Bp (mMt BF (A0 5) (A2 (As (A2 (A0 7) (A2 (A0 8) (A2 (As (A2 (mC (.str "miss")) (A2 (mOp AY (mOp gIx (A0 9) (mC (.int 1))) (A0 10)) (A2 (mOp gIx (A0 9) (mC (.int 2))) A4)))) A4)))) A4))))))
 (AN (mCB (f1 true B9) (A2 (A0 5) A4))))))))
def L7:FD:=mkF 2 11 Zz
abbrev P2:Df:=⟨"_law_far",Ti,["_law_source_here","_law_works"],2,L7⟩
abbrev Ia:Stmt:=top 45
def Mq:FnScope ["_law_works"] ["_law_works"] (AB Ia):=Al (by kernel_rfl)
@[reducible] def Og:MS:=(AN (B5 (Ao 1 [] (EH (DK (EH (Ao 1 [0] (Er (A2 (mCB (f1 true BR) (A2 (A0 0) A4)) A4)) (AA 0) Bi (As (A2 (mOp gIx (mOp gIx (mOp gIx (A0 1) (A0 0)) (mC (.int 2))) (mC (.int 1))) (A2 (A0 0) A4))))))) (AA 0) Bi (mOp gIx (A0 0) (mC (.int 1))))))
def De:FD:=mkF 1 1 Og
abbrev EZ:Df:=⟨"_law_by_dues",Ia,["_law_works"],1,De⟩
abbrev Pd:Stmt:=top 46
def UR:FnScope ["_law_works","_law_found","_law_row","_law_k","_law_length","_law_coming","_law_cost","_law_fitting"] ["_law_works"] (AB Pd):=Al (by kernel_rfl)
@[reducible] def Ym:MS:=(A8 (AM 1 (B5 (CY (A2 (As (A2 (mC (.int 0)) (A2 (mC (.int 0)) (A2 (mOp gIx (mOp gIx (A0 0) (mC (.int 0))) (mC (.int 1))) (A2 (B5 (CY A4)) A4))))) A4))))
 (A8 (BI (BY (CZ (A9 0 De (A2 (A0 0) A4)))) (Av 2 (AH (AA 2) (AH (AA 3) Aw)))
  (A8 (EI (mOp gIx (A0 0) (A0 3)) (Av 3 (AH (AA 4) (AH (AA 5) (AH (AA 6) Aw)))))
 (A8 (AM 7 (B5 (Ao 1 [4,6] (CZ (A0 1)) (AA 0) (AD (mOp gLe (mOp AY (mOp gIx (A0 0) (mC (.int 2))) (A0 1)) (mOp gIx (A0 2) (mC (.int 1))))) (A0 0))))
 (AM 1 (B5 (Gi (A0 1) (B5 (Ao 1 [2,6,4,3] (CZ (A0 7)) (AA 0) Bi (As (A2 (mOp AY (A0 1) (mC (.int 1))) (A2 (mOp AY (mOp gIx (A0 0) (mC (.int 1))) (mOp gIx (A0 2) (mC (.int 2)))) (A2 (mOp AY (mOp gIx (A0 0) (mC (.int 2))) (A0 3)) (A2 (B5 (Gi (mOp gIx (A0 0) (mC (.int 3))) (B5 (CY (A2 (A0 4) A4))))) A4)))))))))))))
 (AN (A0 1))))
def JG:FD:=mkF 1 8 Ym
abbrev MR:Df:=⟨"_law_sets",Pd,["_law_works"],2,JG⟩
abbrev Jx:Stmt:=top 47
def OF:FnScope ["_law_above","_law_w","_law_work","_law_length","_law_coming","_law_cost","_law_entry"] ["_law_above","_law_w","_law_work"] (AB Jx):=Al (by kernel_rfl)
@[reducible] def QK:MS:=(A8 (EI (A0 2) (Av 3 (AH (AA 3) (AH (AA 4) (AH (AA 5) Aw)))))
 (A8 (AM 6 (mOp gIx (A0 0) (A0 1)))
 (A8 (Aa (DT (AD (mOp gGe (A0 1) (mOp gIx (A0 5) (mC (.int 2))))) (DT (AD (B0 true (mOp gIx (A0 0) (mOp BM (A0 1) (mOp gIx (A0 5) (mC (.int 2))))))) (AD (mOp gLe (mOp AY (mOp gIx (A0 0) (mOp BM (A0 1) (mOp gIx (A0 5) (mC (.int 2))))) (A0 3)) (mOp gIx (A0 5) (mC (.int 1)))))))
  (Aa (mOr (AD (B0 false (A0 6))) (AD (mOp gLt (mOp AY (mOp gIx (A0 0) (mOp BM (A0 1) (mOp gIx (A0 5) (mC (.int 2))))) (A0 3)) (A0 6))))
  (AN (mOp AY (mOp gIx (A0 0) (mOp BM (A0 1) (mOp gIx (A0 5) (mC (.int 2))))) (A0 3)))
  AS)
  AS)
 (AN (A0 6)))))
def FE:FD:=mkF 3 7 QK
abbrev Gv:Df:=⟨"_law_highest",Jx,["_law_above","_law_w","_law_work"],1,FE⟩
abbrev Ic:Stmt:=top 48
def Ms:FnScope ["_law_thing"] ["_law_thing"] (AB Ic):=Al (by kernel_rfl)
@[reducible] def Oi:MS:=(AN (I0 (B0 false (A0 0)) (EU (C5 .int (A0 0)) (Fs (C5 .bool (A0 0))))))
def Ee:FD:=mkF 1 1 Oi
abbrev GA:Df:=⟨"_law_is_entry",Ic,["_law_thing"],1,Ee⟩
abbrev NB:Stmt:=top 49
def S5:FnScope ["_law_works","_law_thing","_law_path","_law_full","_law_k","_law_row","_law_w","_law_entry"] ["_law_works","_law_thing","_law_path"] (AB NB):=Al (by kernel_rfl)
@[reducible] def Vt:MS:=(A8 (AM 3 (BQ DU (Ao 1 [] (Ak (A0 0)) (AA 0) Bi (mOp gIx (mOp gIx (A0 0) (mC (.int 2))) (mC (.int 2))))))
 (A8 (Aa (mOr (CC (BX (C5 .tuple (A0 1)))) (AD (mOp gNe (mCB (f1 true BR) (A2 (A0 1) A4)) (mOp AY (mCB (f1 true BR) (A2 (A0 0) A4)) (mC (.int 1))))))
  (AN (A0 2))
  AS)
 (A8 (BI (BY (Ak (A0 1))) (Av 2 (AH (AA 4) (AH (AA 5) Aw)))
  (A8 (Aa (mOr (CC (BX (C5 .tuple (A0 5)))) (AD (mOp gNe (mCB (f1 true BR) (A2 (A0 5) A4)) (mOp AY (A0 3) (mC (.int 1))))))
  (AN (mOp AY (A0 2) (As (A2 (A0 4) A4))))
  AS)
 (BI (BY (Ak (A0 5))) (Av 2 (AH (AA 6) (AH (AA 7) Aw)))
  (Aa (CC (BX (A9 0 Ee (A2 (A0 7) A4))))
  (AN (mOp AY (A0 2) (As (A2 (A0 4) (A2 (A0 6) A4)))))
  AS))))
 (AN (mC .non)))))
def He:FD:=mkF 3 8 Vt
abbrev Jk:Df:=⟨"_law_shape",NB,["_law_works","_law_thing","_law_path"],2,He⟩
abbrev LX:Stmt:=top 50
def Pc:FnScope ["_law_works","_law_table","_law_path","_law_k","_law_number","_law_w","_law_entry","_law_above"] ["_law_works","_law_table","_law_path"] (AB LX):=Al (by kernel_rfl)
@[reducible] def T1:MS:=(A8 (Aa (mOr (AD (B0 false (mOp gIx (mOp gIx (A0 1) (mC (.int 0))) (mC (.int 0))))) (AD (mOp gGt (mOp gIx (mOp gIx (A0 1) (mC (.int 0))) (mC (.int 0))) (mOp gIx (mOp gIx (A0 0) (mC (.int 0))) (mC (.int 1))))))
 (AN (As (A2 (mOp AY (A0 2) (As (A2 (mC (.int 0)) (A2 (mC (.int 0)) A4)))) (A2 (mC (.str "begin")) A4))))
 AS)
 (A8 (BI (BY (CZ (A9 0 De (A2 (A0 0) A4)))) (Av 2 (AH (AA 3) (AH (AA 4) Aw)))
  (BI (BY (Ak (mOp gIx (A0 1) (mOp AY (A0 3) (mC (.int 1)))))) (Av 2 (AH (AA 5) (AH (AA 6) Aw)))
  (A8 (AM 7 (mOp gIx (mOp gIx (A0 1) (A0 3)) (A0 5)))
 (A8 (Aa (DT (AD (B0 true (A0 7))) (mOr (AD (B0 false (A0 6))) (AD (mOp gGt (A0 6) (A0 7)))))
  (AN (As (A2 (mOp AY (A0 2) (As (A2 (mOp AY (A0 3) (mC (.int 1))) (A2 (A0 5) A4)))) (A2 (mC (.str "kept")) A4))))
  AS)
 (A8 (AM 7 (A9 0 FE (A2 (mOp gIx (A0 1) (A0 3)) (A2 (A0 5) (A2 (mOp gIx (A0 0) (A0 4)) A4)))))
 (Aa (DT (AD (B0 true (A0 7))) (mOr (AD (B0 false (A0 6))) (AD (mOp gGt (A0 6) (A0 7)))))
  (AN (As (A2 (mOp AY (A0 2) (As (A2 (mOp AY (A0 3) (mC (.int 1))) (A2 (A0 5) A4)))) (A2 (mC (.str "more")) A4))))
  AS))))))
 (AN (mC .non))))
def GE:FD:=mkF 3 8 T1
abbrev IE:Df:=⟨"_law_places",LX,["_law_works","_law_table","_law_path"],2,GE⟩
abbrev Pf:Stmt:=top 51
def UT:FnScope ["_law_table"] ["_law_table"] (AB Pf):=Al (by kernel_rfl)
@[reducible] def Yp:MS:=(AN (BQ FJ (Ao 2 [] (BY (Ak (mOp gIx (A0 0) (Ft (mC (.int 1)))))) (Av 2 (AH (AA 0) (AH (AA 1) Aw))) (AD (B0 true (A0 1))) (A0 0))))
def Mk:FD:=mkF 1 1 Yp
abbrev MU:Df:=⟨"_law_last",Pf,["_law_table"],1,Mk⟩
abbrev GH:Stmt:=top 52
def JN:FnScope ["_law_works","_law_ends"] ["_law_works","_law_ends"] (AB GH):=Al (by kernel_rfl)
@[reducible] def Kb:MS:=(AN (BQ DU (Ao 2 [] (Fq (Ak (A0 0)) (Ak (A0 1))) (Av 2 (AH (AA 0) (AH (AA 1) Aw))) (AD (mOp gGt (A0 1) (mOp gIx (mOp gIx (A0 0) (mC (.int 2))) (mC (.int 1))))) (mOp gIx (mOp gIx (A0 0) (mC (.int 2))) (mC (.int 2))))))
def DH:FD:=mkF 2 2 Kb
abbrev EL:Df:=⟨"_law_late_weight",GH,["_law_works","_law_ends"],1,DH⟩
abbrev IY:Stmt:=top 53
def Mo:FnScope ["_law_works","_law_order","_law_ends","_law_now","_law_k"] ["_law_works","_law_order"] (AB IY):=Al (by kernel_rfl)
@[reducible] def Oe:MS:=(A8 (AM 2 (B5 (Je (CY (A2 (mC (.int 0)) A4)) (mCB (f1 true BR) (A2 (A0 0) A4)))))
 (A8 (AM 3 (mC (.int 0)))
 (A8 (BI (Ak (A0 1)) (AA 4)
  (A8 (AM 3 (mOp AY (mCB EW (A2 (A0 3) (A2 (mOp gIx (mOp gIx (A0 0) (A0 4)) (mC (.int 1))) A4))) (mOp gIx (mOp gIx (A0 0) (A0 4)) (mC (.int 0)))))
 (ES (A0 2) (A0 4) (A0 3))))
 (AN (mCB (f1 true B9) (A2 (A0 2) A4))))))
def Eb:FD:=mkF 2 5 Oe
abbrev G7:Df:=⟨"_law_run_ends",IY,["_law_works","_law_order"],1,Eb⟩
abbrev Jv:Stmt:=top 54
def OD:FnScope ["_law_many","_law_order","_law_k"] ["_law_many","_law_order"] (AB Jv):=Al (by kernel_rfl)
@[reducible] def QH:MS:=(A8 (Aa (mOr (CC (BX (C5 .tuple (A0 1)))) (AD (mOp gNe (mCB (f1 true BR) (A2 (A0 1) A4)) (A0 0))))
 (AN (mC (.bl false)))
 AS)
 (A8 (BI (Ak (A0 1)) (AA 2)
  (Aa (mOr (CC (BX (C5 .int (A0 2)))) (BX (C5 .bool (A0 2))))
  (AN (mC (.bl false)))
  AS))
 (AN (ET false (C4 (Ak (A0 1))) (Fr (A2 (A0 0) A4))))))
def FB:FD:=mkF 2 3 QH
abbrev Gs:Df:=⟨"_law_is_line",Jv,["_law_many","_law_order"],1,FB⟩
abbrev Th:Stmt:=top 55
def Wi:FnScope ["_law_script","_law_source_here","_law_works","_law_turn","_law_full","_law_least","_law_told","_law_order","_law_table"] ["_law_script"] (AB Th):=Al (by kernel_rfl)
@[reducible] def Zy:MS:=(A8 (AM 1 (EB GD (A2 (A0 0) A4)))
 (A8 (AM 2 (As A4))
 (A8 (BI (Er (A2 (mC (.int 3)) A4)) (AA 3)
  (Gg (A8 (AM 2 (mIf (AD (mOp gLt (A0 3) (mC (.int 2)))) (A9 2 Dg (A2 (A0 1) (A2 (mC (.int 8)) A4))) (A9 2 L7 (A2 (A0 1) (A2 (A0 2) A4)))))
 (A8 (AM 4 (BQ DU (Ao 1 [] (Ak (A0 2)) (AA 0) Bi (mOp gIx (mOp gIx (A0 0) (mC (.int 2))) (mC (.int 2))))))
 (A8 (AM 5 (mOp BM (A0 4) (BQ FJ (Ao 1 [] (CZ (EB JG (A2 (A0 2) A4))) (AA 0) Bi (mOp gIx (A0 0) (mC (.int 1)))))))
 (A8 (AM 6 (A9 0 Dh (A2 (A0 2) A4)))
 (A8 (Aa (mOr (CC (BX (C5 .tuple (A0 6)))) (mOr (AD (mOp gNe (mCB (f1 true BR) (A2 (A0 6) A4)) (mC (.int 2)))) (CC (BX (A9 0 FB (A2 (mCB (f1 true BR) (A2 (A0 2) A4)) (A2 (mOp gIx (A0 6) (mC (.int 0))) A4)))))))
  (AN (mC (.bl false)))
  AS)
 (A8 (EI (A0 6) (Av 2 (AH (AA 7) (AH (AA 8) Aw))))
 (A8 (Aa (AD (mOp gNe (A9 0 DH (A2 (A0 2) (A2 (A9 0 Eb (A2 (A0 2) (A2 (A0 7) A4))) A4))) (A0 5)))
  (AN (mC (.bl false)))
  AS)
 (A8 (Aa (mOr (AD (B0 true (A9 0 He (A2 (A0 2) (A2 (A0 8) (A2 (As A4) A4)))))) (AD (B0 true (A9 0 GE (A2 (A0 2) (A2 (A0 8) (A2 (As A4) A4)))))))
  (AN (mC (.bl false)))
  AS)
 (A8 (Aa (mOr (AD (mOp gNe (mOp BM (A0 4) (A9 0 Mk (A2 (A0 8) A4))) (A0 5))) (AD (mOp gNe (A9 0 Dd (A2 (A0 2) (A2 (A0 8) A4))) (A0 5))))
  (AN (mC (.bl false)))
  AS)
 (A8 (Aa (AD (Jf true true (A9 0 Ed (A2 (A0 2) (A2 (As A4) (A2 (A0 7) A4))))))
  (AN (mC (.bl false)))
  AS)
 (Aa (AD (mOp gNe (A9 0 F_worth (A2 (A0 2) (A2 (A9 0 F_ends_of (A2 (A0 2) (A2 (A9 0 cm (A2 (A0 2) (A2 (A0 7) A4))) A4))) (A2 (mC (.str "sum")) A4)))) (A0 5)))
  (AN (mC (.bl false)))
  AS)))))))))))))
 (AN (mC (.bl true))))))
def cq:FD:=mkF 1 9 Zy
abbrev P1:Df:=⟨"law",Th,["_law_script"],8,cq⟩
set_option maxHeartbeats 0 in
def oks{E:En}(B:BltA E.mg):(Dn E E3->Kn E E3)/\
 (Dn E EM->Kn E EM)/\
 (Dn E G6->Kn E G6)/\
 (Dn E Gx->Kn E G6->Kn E Gx)/\
 (Dn E EJ->Kn E EJ)/\
 (Dn E Eu->Kn E EJ->Kn E Eu)/\
 (Dn E CJ->Kn E CJ)/\
 (Dn E E2->Kn E E2)/\
 (Dn E CQ->Kn E Eu->Kn E CJ->Kn E CQ)/\
 (Dl E Cr ⟨62,41,62,70⟩->Kn E Cr)/\
 (Dn E Bs->Kn E E2->Kn E Bs)/\
 (Dn E EE->Kn E EE)/\
 (Dn E DW->Kn E DW)/\
 (Dn E C1->Kn E C1)/\
 (Dn E DX->Kn E E3->Kn E EM->Kn E Bs->Kn E DX)/\
 (Dn E EK->Kn E EE->Kn E DW->Kn E EK)/\
 (Dn E DL->Kn E CQ->Kn E Cr->Kn E EE->Kn E EK->Kn E DL)/\
 (Dn E Ev->Kn E CQ->Kn E Bs->Kn E C1->Kn E DX->Kn E DL->Kn E Ev)/\
 (Dn E G8->Kn E EE->Kn E DW->Kn E G8)/\
 (Dn E EY->Kn E CQ->Kn E Cr->Kn E Bs->Kn E G8->Kn E EY)/\
 (Dn E Gu->Kn E E2->Kn E Cr->Kn E Bs->Kn E EY->Kn E Gu)/\
 (Dn E Ex->Kn E Cr->Kn E C1->Kn E EY->Kn E Gu->Kn E Ex)/\
 (Dn E G9->Kn E E3->Kn E G9)/\
 (Dn E P0->Kn E P0)/\
 (Dn E Gw->Kn E Gw)/\
 (Dn E GB->Kn E Gx->Kn E GB)/\
 (Dn E Jj->Kn E GB->Kn E Jj)/\
 (Dn E ID->Kn E ID)/\
 (Dn E J8->Kn E J8)/\
 (Dn E Ew->Kn E J8->Kn E Ew)/\
 (Dn E P2->Kn E J8->Kn E P2)/\
 (Dn E EZ->Kn E EZ)/\
 (Dn E MR->Kn E EZ->Kn E MR)/\
 (Dn E Gv->Kn E Gv)/\
 (Dn E GA->Kn E GA)/\
 (Dn E Jk->Kn E GA->Kn E Jk)/\
 (Dn E IE->Kn E EZ->Kn E Gv->Kn E IE)/\
 (Dn E MU->Kn E MU)/\
 (Dn E EL->Kn E EL)/\
 (Dn E G7->Kn E G7)/\
 (Dn E Gs->Kn E Gs)/\
 (Dn E P1->Kn E Ev->Kn E Ex->Kn E G9->Kn E P0->Kn E Gw->Kn E Jj->Kn E ID->Kn E Ew->Kn E P2->Kn E MR->Kn E Jk->Kn E IE->Kn E MU->Kn E EL->Kn E G7->Kn E Gs->Kn E P1):=by
 refine⟨λD=>okK D LV rfl rfl λ_ _ _ _ _ _ _ hr=>?_,
  λD=>okK D JP rfl rfl λ_ _ _ _ _ _ _ hr=>?_,
  λD=>okK D Mn rfl rfl λ_ _ _ _ _ _ _ hr=>?_,
  λD _=>okK D OH rfl rfl λ_ _ _ _ _ _ _ hr=>?_,
  λD=>okK D JL rfl rfl λ_ _ _ _ _ _ _ hr=>?_,
  λD _=>okK D KS rfl rfl λ_ _ _ _ _ _ _ hr=>?_,
  λD=>okK D FQ rfl rfl λ_ _ _ _ _ _ _ hr=>?_,
  λD=>okK D LU rfl rfl λ_ _ _ _ _ _ _ hr=>?_,
  λD _ _=>okK D JO rfl rfl λ_ _ _ _ _ _ _ hr=>?_,
  λD=>okL D OI rfl rfl λ_ _ _ _ LC _ _ _ _ _ _ hcd hr=>?_,
  λD _=>okK D JQ rfl rfl λ_ _ _ _ _ _ _ hr=>?_,
  λD=>okK D OC rfl rfl λ_ _ _ _ _ _ _ hr=>?_,
  λD=>okK D KR rfl rfl λ_ _ _ _ _ _ _ hr=>?_,
  λD=>okK D GS rfl rfl λ_ _ _ _ _ _ _ hr=>?_,
  λD _ _ _=>okK D Hs rfl rfl λ_ _ _ _ _ _ _ hr=>?_,
  λD _ _=>okK D JM rfl rfl λ_ _ _ _ _ _ _ hr=>?_,
  λD _ _ _ _=>okK D Hf rfl rfl λ_ _ _ _ _ _ _ hr=>?_,
  λD _ _ _ _ _=>okK D KU rfl rfl λ_ _ _ _ _ _ _ hr=>?_,
  λD _ _=>okK D Mp rfl rfl λ_ _ _ _ _ _ _ hr=>?_,
  λD _ _ _ _=>okK D Mm rfl rfl λ_ _ _ _ _ _ _ hr=>?_,
  λD _ _ _ _=>okK D OE rfl rfl λ_ _ _ _ _ _ _ hr=>?_,
  λD _ _ _ _=>okK D KY rfl rfl λ_ _ _ _ _ _ _ hr=>?_,
  λD _=>okK D Mr rfl rfl λ_ _ _ _ _ _ _ hr=>?_,
  λD=>okK D Wh rfl rfl λ_ _ _ _ _ _ _ hr=>?_,
  λD=>okK D OG rfl rfl λ_ _ _ _ _ _ _ hr=>?_,
  λD _=>okK D Mt rfl rfl λ_ _ _ _ _ _ _ hr=>?_,
  λD _=>okK D S4 rfl rfl λ_ _ _ _ _ _ _ hr=>?_,
  λD=>okK D Pb rfl rfl λ_ _ _ _ _ _ _ hr=>?_,
  λD=>okK D US rfl rfl λ_ _ _ _ _ _ _ hr=>?_,
  λD _=>okK D KW rfl rfl λ_ _ _ _ _ _ _ hr=>?_,
  λD _=>okK D Wj rfl rfl λ_ _ _ _ _ _ _ hr=>?_,
  λD=>okK D Mq rfl rfl λ_ _ _ _ _ _ _ hr=>?_,
  λD _=>okK D UR rfl rfl λ_ _ _ _ _ _ _ hr=>?_,
  λD=>okK D OF rfl rfl λ_ _ _ _ _ _ _ hr=>?_,
  λD=>okK D Ms rfl rfl λ_ _ _ _ _ _ _ hr=>?_,
  λD _=>okK D S5 rfl rfl λ_ _ _ _ _ _ _ hr=>?_,
  λD _ _=>okK D Pc rfl rfl λ_ _ _ _ _ _ _ hr=>?_,
  λD=>okK D UT rfl rfl λ_ _ _ _ _ _ _ hr=>?_,
  λD=>okK D JN rfl rfl λ_ _ _ _ _ _ _ hr=>?_,
  λD=>okK D Mo rfl rfl λ_ _ _ _ _ _ _ hr=>?_,
  λD=>okK D OD rfl rfl λ_ _ _ _ _ _ _ hr=>?_,
  λD _ _ _ _ _ _ _ _ _ _ _ _ _ _ _ _=>okK D Wi rfl rfl λ_ _ _ _ _ _ _ hr=>?_⟩
 all_goals (refine' ⟨_,_⟩;rotate_left;repeat' (first
  |((with_reducible show QE _ _ _ _ _);first|exact qv _ _|(first|exact Y0 _|exact Xp _|exact Zj _|exact Xu _)|((with_reducible show QE _ _ _ _ (mOp _ _ _));first|((with_reducible show QE _ _ _ _ (mOp gIx _ _));refine' Zf _ _ _)|((with_reducible show QE _ _ _ _ (mOp CI _ _));refine' VH _ (U4 hr) _ _)|((with_reducible show QE _ _ _ _ (mOp AY _ _));refine' Fo _ ((Q6).or (Lp _)) (Dm Pu NK) _ _)|((with_reducible show QE _ _ _ _ (mOp BM _ _));refine' Fo _ YX XH _ _)|((with_reducible show QE _ _ _ _ (mOp Du _ _));refine' Fo _ Yc XJ _ _)|((with_reducible show QE _ _ _ _ (mOp Fx _ _));refine' Fo _ Yd XM _ _)|((with_reducible show QE _ _ _ _ (mOp Fy _ _));refine' Fo _ Vj Um _ _)|((with_reducible show QE _ _ _ _ (mOp TH _ _));refine' Fo _ YZ XI _ _)|((with_reducible show QE _ _ _ _ (mOp Ox _ _));refine' Fo _ (((Q6).or (Lp _)).or (Vl _)) (Dm (Dm Pu NK) Uo) _ _)|((with_reducible show QE _ _ _ _ (mOp gLt _ _));refine' Ik _ U1 Tn _ _)|((with_reducible show QE _ _ _ _ (mOp gLe _ _));refine' Ik _ U2 To _ _)|((with_reducible show QE _ _ _ _ (mOp gEq _ _));refine' Ik _ ((U3).or (Ja _ hr.units)) (Dm Ps Pt) _ _)|((with_reducible show QE _ _ _ _ (mOp gNe _ _));refine' Ik _ ((U0).or (JZ _ hr.units)) (Dm Pq Pr) _ _))|refine' Xo _ _|((with_reducible show QE _ _ _ _ (B5 _));refine' Xv _ _)|refine' Xw _ _|((with_reducible show QE _ _ _ _ (A9 _ _ _));first|refine' qcW _ (by assumption) hr _|refine' qcW _ (by assumption) (hr.in1.deeper _) _)|((with_reducible show QE _ _ _ _ (EB _ _));refine' qcG (by assumption) hr _)|((with_reducible show QE _ _ _ _ (BQ _ _));first|((with_reducible show QE _ _ _ _ (BQ Go _));refine' Ks _ (KK _ rfl) Pm B.all L2.bt_all _)|((with_reducible show QE _ _ _ _ (BQ MC _));refine' Ks _ (KJ _ rfl) Pl B.any L2.bt_any _)|((with_reducible show QE _ _ _ _ (BQ DU _));refine' Ks _ ((KG _ rfl).or (JC _ rfl)) Pj B.sum L2.bt_sum _)|((with_reducible show QE _ _ _ _ (BQ FJ _));refine' Ks _ ((KI _ rfl).or (JD _ rfl)) Pk B.max L2.bt_max _)|((with_reducible show QE _ _ _ _ (BQ B9 _));refine' Zh _ (Hn _) Ld B.tuple L2.bt_tuple _))|((with_reducible show QE _ _ _ _ (mCB _ _));first|((with_reducible show QE _ _ _ _ (mCB (f1 _ Go) _));refine' HM _ (KK _ rfl) (JU Pm) B.all L2.bt_all _)|((with_reducible show QE _ _ _ _ (mCB (f1 _ MC) _));refine' HM _ (KJ _ rfl) (JU Pl) B.any L2.bt_any _)|((with_reducible show QE _ _ _ _ (mCB (f1 _ DU) _));refine' HM _ ((KG _ rfl).or (JC _ rfl)) (JU Pj) B.sum L2.bt_sum _)|((with_reducible show QE _ _ _ _ (mCB (f1 _ BR) _));refine' HM _ (Qz _) (JU X8) B.len L2.bt_len _)|((with_reducible show QE _ _ _ _ (mCB (f1 _ FJ) _));refine' HM _ ((KI _ rfl).or (JD _ rfl)) (JU Pk) B.max L2.bt_max _)|((with_reducible show QE _ _ _ _ (mCB EW _));refine' HM _ (Qy rfl) Uf B.max L2.bt_max _)|((with_reducible show QE _ _ _ _ (mCB (f1 _ B9) _));refine' Zi _ (Hn _) (JU Ld) B.tuple L2.bt_tuple _))|((with_reducible show QE _ _ _ _ (IA _ _));refine' Xy _ _ _)|((with_reducible show QE _ _ _ _ (HP _ _));refine' VD _ _ _)|refine' Sd _ _ _ _|((with_reducible show QE _ _ _ _ (mMt _ _ _));first|((with_reducible show QE _ _ _ _ (mMt BF _ _));refine' Ze _ PySem.F.slot_list_append PySem.F.type_list_append K4 Pi _ _))|((with_reducible show QE _ _ _ _ (M4 HZ _ _));refine' Xx _ PySem.F.slot_tuple_index PySem.F.type_tuple_index QB Ph _ _)|refine' VG _ _|((with_reducible show QE _ _ _ _ (C5 _ _));first|((with_reducible show QE _ _ _ _ (C5 .int _));refine' Lk _ .int B.isinstance B.int _)|((with_reducible show QE _ _ _ _ (C5 .bool _));refine' Lk _ .bool B.isinstance B.bool _)|((with_reducible show QE _ _ _ _ (C5 .tuple _));refine' Lk _ .tuple B.isinstance B.tuple _))|((with_reducible show QE _ _ _ _ (B0 _ _));first|refine' Xz _ _|refine' VE _ _)|((with_reducible show QE _ _ _ _ (ET _ _ _));refine' VF _ (Yg _ hr.units) _ _)|((with_reducible show QE _ _ _ _ (EU _ _));refine' Y3 _ _ _)|((with_reducible show QE _ _ _ _ (I0 _ _));refine' Zd _ _ _)|((with_reducible show QE _ _ _ _ (Fs _));refine' Xr _ _)|refine' Xq _ _)
  |((with_reducible show QA _ _ _ _ _);first|refine' VI _ _ _|exact Y4 _)
  |((with_reducible show QT _ _ _ _ _);first|((with_reducible show QT _ _ _ _ (AD (mOp _ _ _)));first|((with_reducible show QT _ _ _ _ (AD (mOp gLt _ _)));refine' E7 _ U1 Tn _ _)|((with_reducible show QT _ _ _ _ (AD (mOp gLe _ _)));refine' E7 _ U2 To _ _)|((with_reducible show QT _ _ _ _ (AD (mOp gGt _ _)));refine' E7 _ Zu ZZ _ _)|((with_reducible show QT _ _ _ _ (AD (mOp gGe _ _)));refine' E7 _ Zv Za _ _)|((with_reducible show QT _ _ _ _ (AD (mOp gEq _ _)));refine' E7 _ ((U3).or (Ja _ hr.units)) (Dm Ps Pt) _ _)|((with_reducible show QT _ _ _ _ (AD (mOp gNe _ _)));refine' E7 _ ((U0).or (JZ _ hr.units)) (Dm Pq Pr) _ _)|((with_reducible show QT _ _ _ _ (AD (mOp (gIn false) _ _)));refine' E7 _ (Ye _) Tq _ _)|((with_reducible show QT _ _ _ _ (AD (mOp (gIn true) _ _)));refine' E7 _ (Q3 _) Tq _ _))|refine' XU _ _|((with_reducible show QT _ _ _ _ (BX _));refine' SR _ _)|((with_reducible show QT _ _ _ _ (DT _ _));refine' QW.toT _)|((with_reducible show QT _ _ _ _ (mOr _ _));refine' QW.toT _)|((with_reducible show QT _ _ _ _ (AD (Jf _ _ _)));refine' Ut _ _)|((with_reducible show QT _ _ _ _ (AD (B0 _ _)));first|refine' XV _ _|refine' Us _ _)|((with_reducible show QT _ _ _ _ (AD (F3 _ _ _)));refine' Uv _ (Q4 _ hr.units) _ _)|((with_reducible show QT _ _ _ _ (AD (ET _ _ _)));refine' Uu _ (Q4 _ hr.units) _ _))
  |((with_reducible show QW _ _ _ _ _);first|refine' Ur _ _|refine' XS _ _|refine' XT _ _ _|refine' Zb _ _ _)
  |((with_reducible show QN _ _ _ _ _);first|((with_reducible show QN _ _ _ _ (E9 _ _ _));refine' XW LC hcd hr B.sorted _ (λ_ _ _ _=>_))|refine' Xf _ _|((with_reducible show QN _ _ _ _ (Ao _ _ _ _ _ _));refine' qnA _ (λ_ _ _=>_) (λ_ _ _=>_) (λ_ _ _=>_))|((with_reducible show QN _ _ _ _ (Je _ _));refine' Xe _ _ _)|((with_reducible show QN _ _ _ _ (Gi _ _));refine' Xg _ _ _)|((with_reducible show QN _ _ _ _ (M3 _ _ _));refine' Xd _ _ _ _)|((with_reducible show QN _ _ _ _ (DK _));refine' OW _ B.sorted _)|((with_reducible show QN _ _ _ _ (C4 _));first|(refine' OV _ B.sorted _;rotate_left;refine' Lj _ _)|refine' OX _ B.sorted _)|((with_reducible show QN _ _ _ _ (Fr _));refine' SY _ B.list B.range _)|((with_reducible show QN _ _ _ _ (Gh _));refine' SZ _ B.list _))
  |((with_reducible show QI _ _ _ _ _ _);first|((with_reducible show QI _ _ _ _ _ (Er _));refine' V8 _ B.range _)|((with_reducible show QI _ _ _ _ _ (Ak _));refine' Xi _ _)|((with_reducible show QI _ _ _ _ _ (CZ _));refine' V9 _ _)|((with_reducible show QI _ _ _ _ _ (EH _));refine' Xk _ _)|((with_reducible show QI _ _ _ _ _ (BY _));first|refine' Sa _ B.enumerate (Lj _ _)|refine' VA _ B.enumerate _)|((with_reducible show QI _ _ _ _ _ (FZ _));refine' Sb _ B.enumerate _)|((with_reducible show QI _ _ _ _ _ (Jd _));refine' Xj _ B.enumerate B.list B.reversed _)|((with_reducible show QI _ _ _ _ _ (Fq _ _));refine' Xh _ B.zip _ _))
  |((with_reducible show QSrc _ _ _ _ _);first|refine' SU _ B.range _)
  |((with_reducible show QR _ _ _ _ _ _);first|((with_reducible show QR _ _ _ _ _ (EH _));refine' Xc _ _)|((with_reducible show QR _ _ _ _ _ (CZ _));refine' V3 _ _)|((with_reducible show QR _ _ _ _ _ (Ak _));refine' Lj _ _))
  |((with_reducible show QG _ _ _ _ _);first|exact qgA|refine' Xl _ rfl _)
  |((with_reducible show QGs _ _ _ _ _);first|exact VB _|refine' Sc _ _ _)
  |((with_reducible show QF _ _ _ _ _);first|exact Xn _|refine' Xm _ _)
  |((with_reducible show QO _ _ _ _ _);first|exact V6 _|refine' V5 _ _)
  |((with_reducible show QPs _ _ _ _ _ _ _);first|exact V4 _|refine' SW _ _ _ _)
  |((with_reducible show QSs _ _ _ _ _);first|((with_reducible show QSs _ _ _ _ (A8 _ _));refine' SS _ _ _)|((with_reducible show QSs _ _ _ _ (Gg _));refine' Pv _ _)|(first|exact Ux _|refine' Uw _ _))
  | ((with_reducible show QS _ _ _ _ _);first|((with_reducible show QS _ _ _ _ (AM _ (B5 (Ao _ _ _ _ _ _))));first|refine' af _ (λ_ _ _=>_) (λ_ _ _=>_) (λ_ _ _=>_)|refine' qsA _)|((with_reducible show QS _ _ _ _ (AM _ _));refine' qsA _)|refine' Zc _ _ _ _|refine' XY _ _|refine' XZ _ rfl _ _ _|refine' V1 _ _|((with_reducible show QS _ _ _ _ (F4 _ _ _));refine' V2 _ (U4 hr) _ _ _)|((with_reducible show QS _ _ _ _ (ES _ _ _));refine' V0 _ _ _ _)|((with_reducible show QS _ _ _ _ (Gj _ _ _));refine' Zk Z1 _)|refine' Xb _ _ _|exact Uz _|((with_reducible show QS _ _ _ _ Cj);exact SV _))))
open Bd
structure Sp where
 cells:List Int
 a:Int
 rs:Int
 cn:Int
def Bf(t:Sp):List (Key×D):=[(.inr "cells",.mu 0),(.inr "at",.im (.int t.a)),(.inr "rest",.im (.int t.rs)),(.inr "count",.im (.int t.cn))]
def sp(t:Sp):Hd:=[.lst (t.cells.map λi=>.im (.int i)),.dic (Bf t)]
@[simp] theorem sp0(t:Sp):(sp t)[0]?=some (.lst (t.cells.map λi=>.im (.int i))):=rfl
@[simp] theorem sp1(t:Sp):(sp t)[1]?=some (.dic (Bf t)):=rfl
@[simp] theorem cH(t t':Sp)(h:t'.cells=t.cells):(sp t).set 1 (.dic (Bf t'))=sp t':=by unfold sp;rw[h];rfl
def CF:(("cells":Str)="at")=False:=by simp[eq_iff_iff];decide
def Bm:(("cells":Str)="rest")=False:=by simp[eq_iff_iff];decide
def BU:(("cells":Str)="count")=False:=by simp[eq_iff_iff];decide
def CH:(("at":Str)="cells")=False:=by simp[eq_iff_iff];decide
def Cl:(("at":Str)="rest")=False:=by simp[eq_iff_iff];decide
def CG:(("at":Str)="count")=False:=by simp[eq_iff_iff];decide
def Bk:(("rest":Str)="cells")=False:=by simp[eq_iff_iff];decide
def Ck:(("rest":Str)="at")=False:=by simp[eq_iff_iff];decide
def Bj:(("rest":Str)="count")=False:=by simp[eq_iff_iff];decide
def BT:(("count":Str)="cells")=False:=by simp[eq_iff_iff];decide
def CD:(("count":Str)="at")=False:=by simp[eq_iff_iff];decide
def Bl:(("count":Str)="rest")=False:=by simp[eq_iff_iff];decide
section
variable(t:Sp)(v:Int)
@[simp] theorem aZ:Cg (Bf t) (.inr "cells")=some (.mu 0):=by simp[Cg,Bf]
@[simp] theorem cI:Cg (Bf t) (.inr "at")=some (.im (.int t.a)):=by simp[Cg,Bf,CF,Bm,BU,CH,Cl,CG,Bk,Ck,Bj,BT,CD,Bl]
@[simp] theorem bD:Cg (Bf t) (.inr "rest")=some (.im (.int t.rs)):=by simp[Cg,Bf,CF,Bm,BU,CH,Cl,CG,Bk,Ck,Bj,BT,CD,Bl]
@[simp] theorem aY:Cg (Bf t) (.inr "count")=some (.im (.int t.cn)):=by simp[Cg,Bf,CF,Bm,BU,CH,Cl,CG,Bk,Ck,Bj,BT,CD,Bl]
@[simp] theorem ba:DS (Bf t) (.inr "at") (.im (.int v))=Bf { t with a:=v }:=by simp[DS,Bf,CF,Bm,BU,CH,Cl,CG,Bk,Ck,Bj,BT,CD,Bl]
@[simp] theorem aX:DS (Bf t) (.inr "rest") (.im (.int v))=Bf { t with rs:=v }:=by simp[DS,Bf,CF,Bm,BU,CH,Cl,CG,Bk,Ck,Bj,BT,CD,Bl]
@[simp] theorem aQ:DS (Bf t) (.inr "count") (.im (.int v))=Bf { t with cn:=v }:=by simp[DS,Bf,CF,Bm,BU,CH,Cl,CG,Bk,Ck,Bj,BT,CD,Bl]
@[simp] theorem bc:(Bf t).length=4:=rfl
end
def o1:DE 1073741827:=by unfold DE;decide
def o2:DE 2147483543:=by unfold DE;decide
def o3:DE 2147483497:=by unfold DE;decide
def o4:J9 256:=by unfold J9;decide
def o5(j:Int):Dw 611953 j:=DP (by decide) (by decide)
def o6(j:Int):Dw 3 j:=DP (by decide) (by decide)
def o7(j:Int):Dw 69069 j:=DP (by decide) (by decide)
def mx1(c n:Int):Int:=c%1073741827+611953*n
def mx2(x n:Int):Int:=(x*x+3*n+7)%2147483543
def mx3(x n:Int):Int:=(x*x+69069*n+1)%2147483497
def VU(τ:Sp)(many:Int)(h0:0<many)(h1:many<1073741824)(n0:0<=τ.cn)(n1:τ.cn<=100000):∃r τ',Au [.mu 1,.im (.int many)] (sp τ)=some (.im (.int r),sp τ')/\0<=r/\r<many/\τ'.cn=τ.cn+1:=by
 have hm:DE many:=h0;have hv:J9 many:=⟨h0,h1⟩
 by_cases hl:τ.rs>0
 .refine⟨τ.rs%many,{ τ with cn:=τ.cn+1,rs:=τ.rs/many },?_,(ER many h0).1,(ER many h0).2,rfl⟩;simp[Au,mkF,hl,hm,hv]
 .have key:∀cell:Int,(if τ.cells=[]then cell=11 else atI (τ.cells.map λi=>D.im (.int i)) (τ.a%(τ.cells.length:Int))=some (.im (.int cell))) ->
   ∃r τ',Au [.mu 1,.im (.int many)] (sp τ)=some (.im (.int r),sp τ')/\0<=r/\r<many/\τ'.cn=τ.cn+1:=by
   intro cell hcell;have b1:=ER (x:=cell) 1073741827 (by decide);have b2:=ER (x:=mx1 cell (τ.cn+1)*mx1 cell (τ.cn+1)+3*(τ.cn+1)+7) 2147483543 (by decide);have c1:∀j,Dw (mx1 cell (τ.cn+1)) j:=λj=>DP (by unfold mx1;omega) (by unfold mx1;omega);have c2:∀j,Dw (mx2 (mx1 cell (τ.cn+1)) (τ.cn+1)) j:=λj=>DP (by unfold mx2;omega) (by unfold mx2;omega);by_cases hb:cell>=1000000000000000000/\τ.a+1<=(τ.cells.length:Int)
   .refine⟨cell%many,{ τ with cn:=τ.cn+1,a:=τ.a+1,rs:=cell/many },?_,(ER many h0).1,(ER many h0).2,rfl⟩;by_cases hc:τ.cells=[]
    .rw[if_pos hc]at hcell;subst hcell;omega
    .rw[if_neg hc]at hcell;have hl0:0<τ.cells.length:=D0 hc;have hl0':DE (τ.cells.length:Int):=by unfold DE;omega
     simp[Au,mkF,hl,hm,hv,o1,o2,o3,o4,o5,o6,o7,po1,F3,pyD,DZ,Do,I.pys,Fg,hc,hcell,hl0',hb.1,hb.2,BR]
   .refine⟨mx3 (mx2 (mx1 cell (τ.cn+1)) (τ.cn+1)) (τ.cn+1)/256%many,{ τ with cn:=τ.cn+1,a:=τ.a+1 },?_,(ER many h0).1,(ER many h0).2,rfl⟩;have hb':1000000000000000000<=cell->¬ τ.a+1<=(τ.cells.length:Int):=λa b=>hb ⟨a,b⟩;unfold mx1 at c1 c2;unfold mx2 at c2;unfold mx3 mx2 mx1;by_cases hc:τ.cells=[]
    .rw[if_pos hc]at hcell;subst hcell;simp only[Int.reduceMod]at c1 c2;simp[Au,mkF,hl,hm,hv,o1,o2,o3,o4,o5,o6,o7,po1,F3,pyD,DZ,Do,I.pys,Fg,ZI,hc,BR,c1,c2]
    .rw[if_neg hc]at hcell;have hl0:0<τ.cells.length:=D0 hc;have hl0':DE (τ.cells.length:Int):=by unfold DE;omega
     by_cases hd:1000000000000000000<=cell
     .simp[Au,mkF,hl,hm,hv,o1,o2,o3,o4,o5,o6,o7,po1,F3,pyD,DZ,Do,I.pys,Fg,hc,hcell,hl0',BR,c1,c2,hd,hb' hd]
     .simp[Au,mkF,hl,hm,hv,o1,o2,o3,o4,o5,o6,o7,po1,F3,pyD,DZ,Do,I.pys,Fg,hc,hcell,hl0',BR,c1,c2,hd]
  by_cases hc:τ.cells=[]
  .exact key 11 (by rw[if_pos hc])
  .obtain⟨c,e⟩:=aM hc τ.a;exact key c (by rw[if_neg hc];exact e)
def T(k:Nat)(a b:MO):Prop:=∃τ:Sp,0<=τ.cn/\τ.cn+k<=100000/\sp τ=[a,b]
def tap:Tap T Au where
 cl:=by
  rintro k a b ⟨τ,_,_,e⟩;cases e;simp[clO,Cs,Bf,FN,clD]
 le:=by
  rintro j k a b ⟨τ,h1,h2,e⟩ h;exact⟨τ,h1,by omega,e⟩
 pick:=by
  rintro k a b many ⟨τ,n0,n1,e⟩ h0 h1;obtain⟨r,τ',eq,p1,p2,c⟩:=VU τ many h0 h1 n0 (by push_cast at n1;omega);refine⟨r,.lst (τ'.cells.map λi=>.im (.int i)),.dic (Bf τ'),p1,p2,?_,τ',by omega,by push_cast at n1;omega,rfl⟩;rw[<- e];exact eq
def Rx(ns:List Int):WF GD [.ro ns] [] λd x=>d=.mu 1/\∃a b,T 90000 a b/\x=[a,b]:=by
 obtain⟨cs,e⟩:=TN ns none (some 63);exact⟨.mu 1,_,by simp[GD,mkF,e,FY,DS,CF,Bm,BU,CH,Cl,CG,Bk,Ck,Bj,BT,CD,Bl];rfl,rfl,_,_,⟨⟨cs,0,0,0⟩,(show(0:Int)<=0 by decide),(show(0:Int)+(90000:Nat)<=100000 by decide),rfl⟩,rfl⟩
structure Wm where
 len:Int
 com:Int
 due:Int
 wt:Int
def wmI(w:Wm):I:=.tup [.int w.len,.int w.com,.tup [.str "miss",.int w.due,.int w.wt]]
abbrev wmD(w:Wm):D:=.im (wmI w)
abbrev AO(ws:List Wm):I:=.tup (ws.map wmI)
def Ay(ws:List Wm):(ws.map wmI).map D.im=ws.map wmD:=by rw[map_map];rfl
def okM(B c:Int)(w:Wm):Prop:=(1<=w.len/\w.len<=20)/\w.com=c/\(-B<=w.due/\w.due<=B)/\0<=w.wt/\w.wt<=9
def okMs(B c:Int)(ws:List Wm):Prop:=ws≠[]/\ws.length<=8/\(0<=c/\c<=60)/\∀w∈ws,okM B c w
def at3{r:Int}(h0:0<=r)(h1:r<3)(x y z:D):∃d,(d=x∨d=y∨d=z)/\atI [x,y,z] r=some d:=by
 have:r=0∨r=1∨r=2:=by omega
 rcases this with rfl|rfl|rfl
 .exact⟨x,.inl rfl,Dv (j:=0) rfl⟩
 .exact⟨y,.inr (.inl rfl),Dv (j:=1) rfl⟩
 .exact⟨z,.inr (.inr rfl),Dv (j:=2) rfl⟩
abbrev Lw(c lo hv sp:Int)(m:Int)(z8 z9 z10 z11 z12 z13:Option D):Ls:=[some (.mu 1),some (.im (.int 8)),some (.im (.int m)),some (.im (.int c)),some (.im (.int lo)),some (.im (.int hv)),some (.im (.int sp)),some (.mu 2),z8,z9,z10,z11,z12,z13]
inductive I_late_works_w(n k:Nat)(c lo hv sn:Int)(r:List D)(ls:Ls)(hd:Hd):Prop
 |mk (j:Nat) (ws:List Wm) (a b:MO) (z8 z9 z10 z11 z12 z13:Option D) (h0:r=Ar (j:Int) (k-j)) (h1:j<=k) (h2:ws.length=j) (h3:(∀w∈ws,okM 500 c w)) (h4:ls=Lw c lo hv sn (k:Int) z8 z9 z10 z11 z12 z13) (h5:hd=[a,b,.lst (ws.map wmD)]) (h6:T (n+10*(k-j)) a b):I_late_works_w n k c lo hv sn r ls hd
inductive J_d1(c lo hv sn:Int)(k j n:Nat)(way ln wt:Int)(z13:Option D)(ws:List Wm)(f:Fl)(x:Hd):Prop
 |mk (due:Int) (a b:MO) (h0:f=Fl.nx (Lw c lo hv sn (k:Int) (some (.im (.int (j:Int)))) (some (.im (.int way))) (some (.im (.int (1+ln)))) (some (.im (.int due))) (some (.im (.int wt))) z13)) (h1:x=[a,b,.lst (ws.map wmD)]) (h2:(-500<=due/\due<=500)) (h3:T (n+10*(k-(j+1))+5) a b):J_d1 c lo hv sn k j n way ln wt z13 ws f x
inductive J_d2(c lo hv sn:Int)(k j n:Nat)(way ln wt:Int)(z13:Option D)(ws:List Wm)(f:Fl)(x:Hd):Prop
 |mk (due:Int) (a b:MO) (h0:f=Fl.nx (Lw c lo hv sn (k:Int) (some (.im (.int (j:Int)))) (some (.im (.int way))) (some (.im (.int (1+ln)))) (some (.im (.int due))) (some (.im (.int wt))) z13)) (h1:x=[a,b,.lst (ws.map wmD)]) (h2:(-500<=due/\due<=500)) (h3:T (n+10*(k-(j+1))+4) a b):J_d2 c lo hv sn k j n way ln wt z13 ws f x
inductive J_d3(c lo hv sn:Int)(k j n:Nat)(way ln due wt:Int)(ws:List Wm)(f:Fl)(x:Hd):Prop
 |mk (w:Wm) (a b:MO) (h0:f=Fl.nx (Lw c lo hv sn (k:Int) (some (.im (.int (j:Int)))) (some (.im (.int way))) (some (.im (.int (1+ln)))) (some (.im (.int due))) (some (.im (.int wt))) (some (wmD w)))) (h1:x=[a,b,.lst (ws.map wmD)]) (h2:okM 500 c w) (h3:T (n+10*(k-(j+1))+3) a b):J_d3 c lo hv sn k j n way ln due wt ws f x
def M5(n:Nat):∀a b,T (n+100) a b->WF Dg [.mu 1,.im (.int 8)] [a,b] λd x=>∃i a' b' g,d=.im i/\(∃ws c,i=AO ws/\okMs 500 c ws)/\T n a' b'/\x=a'::b'::g:=by
 intro a b hT;unfold Dg;refine Am rfl ?_;refine AC (AQ (A6 (AG ?_)));refine tap.draw hT rfl (by first|decide|omega) (by first|decide|omega) λm a b hT pm qm=>?_;refine B7 (A5 (AC (AQ ?_)));refine tap.draw hT rfl (by first|decide|omega) (by first|decide|omega) λc a b hT pc qc=>?_;refine A5 (AC (AQ (PN (Cf (A3 (AG (A3 (AG (A3 (AG (A7 ⟨ED,?_⟩)))))))))));refine tap.draw hT rfl (by first|decide|omega) (by first|decide|omega) λr2 a b hT pr2 qr2=>?_;obtain⟨d2,hd2,ed2⟩:=at3 pr2 qr2 (.im (.int 20)) (.im (.int 5)) (.im (.int 2));refine⟨_,_,rfl,ed2,?_⟩;obtain⟨lo,rfl,hlo⟩:∃t,d2=.im (.int t)/\(2<=t/\t<=20):=by
  rcases hd2 with rfl|rfl|rfl<;>exact⟨_,rfl,by omega,by omega⟩
 refine A5 (AC (AQ (PN (Cf (A3 (AG (A3 (AG (A3 (AG (A7 ⟨ED,?_⟩)))))))))));refine tap.draw hT rfl (by first|decide|omega) (by first|decide|omega) λr3 a b hT pr3 qr3=>?_;obtain⟨d3,hd3,ed3⟩:=at3 pr3 qr3 (.im (.int 9)) (.im (.int 3)) (.im (.int 1));refine⟨_,_,rfl,ed3,?_⟩;obtain⟨hv,rfl,hhv⟩:∃t,d3=.im (.int t)/\(1<=t/\t<=9):=by
  rcases hd3 with rfl|rfl|rfl<;>exact⟨_,rfl,by omega,by omega⟩
 refine A5 (AC (AQ (A6 (AG (A6 (A6 (A1 rfl (A1 rfl ?_))))))));refine WU (DP (by omega) (by omega)) ?_;refine A6 (AG ?_);refine tap.draw hT rfl (by first|decide|omega) (by first|decide|omega) λr4 a b hT pr4 qr4=>?_;refine B7 ?_;refine UH ⟨by omega,by omega⟩ ?_;refine B7 (A5 (AC (AQ (BO (Cf (A7 ⟨CP,A5 (AC (BN (Nt (A3 (A1 rfl (A7 ⟨_,rfl,?_⟩))))))⟩))))));have hsp:0<=(1+m)*lo/(1+r4)/\(1+m)*lo/(1+r4)<=160:=by
  have h1:0<=(1+m)*lo:=Int.mul_nonneg (by omega) (by omega);have h2:(1+m)*lo<=8*lo:=Int.mul_le_mul_of_nonneg_right (by omega) (by omega);refine⟨Int.ediv_nonneg h1 (by omega),?_⟩;have:(1+m)*lo/(1+r4)<=(1+m)*lo:=Int.ediv_le_self _ h1;omega
 generalize hS:2+(1+m)*lo/(1+r4)=sn at *;refine⟨HK (by omega) (by omega),?_⟩;obtain⟨k,hk⟩:=Int.eq_ofNat_of_zero_le (show 0<=1+m by omega);rw[hk,toNat_natCast];change WP (Aq _ _ _ _ (Lw c lo hv sn (k:Int) none none none none none none) [a,b,.lst []]) _;have hT:T (n+10*(k-0)) a b:=tap.le hT (by omega);refine B8 (I_late_works_w n k c lo hv sn) ⟨0,[],a,b,none,none,none,none,none,none,rfl,by omega,rfl,by simp,rfl,rfl,hT⟩ ?_ ?_
 .rintro d r ls hd ⟨j,ws,a,b,z8,z9,z10,z11,z12,z13,er,hj,hl,hws,rfl,rfl,hT⟩;obtain⟨m',hm⟩:∃m,k-j=m+1:=by
   cases q:k-j with
   |zero=>rw[q]at er;cases er
   |succ m=>exact⟨m,rfl⟩
  rw[hm,Ar]at er;obtain⟨rfl,rfl⟩:=List.cons.inj er;have hT:T (n+10*(k-(j+1))+10) a b:=tap.le hT (by omega);refine⟨Lw c lo hv sn (k:Int) (some (.im (.int (j:Int)))) z9 z10 z11 z12 z13,rfl,?_⟩;have atw:∀r:Int,0<=r->r<j->∃w∈ws,atI (ws.map wmD) r=some (wmD w):=by
   intro r h0 h1;obtain⟨i,hi⟩:=Int.eq_ofNat_of_zero_le h0;have hi':i<ws.length:=by omega
   exact⟨ws[i],List.getElem_mem hi',Jo hi (by simp[hi'])⟩
  refine AC (AQ ?_);refine tap.draw hT rfl (by first|decide|omega) (by first|decide|omega) λway a b hT pway qway=>?_;refine A5 (AC (AQ (A6 (AG ?_))));refine tap.draw hT rfl (by first|decide|omega) (by first|decide|omega) λln a b hT pln qln=>?_;refine B7 (A5 (AC (AQ (A6 (A6 (A1 rfl (AG (Cd ?_))))))));refine tap.draw hT rfl (by first|decide|omega) (by first|decide|omega) λdu a b hT pdu qdu=>?_;refine B7 (A5 (AC (AQ ?_)));refine tap.draw hT (many:=hv+1) (rest:=[.lst (ws.map wmD)]) (by simp) (by omega) (by omega) λwt a b hT pwt qwt=>A5 ?_;change WS _ (Lw c lo hv sn (k:Int) (some (.im (.int (j:Int)))) (some (.im (.int way))) (some (.im (.int (1+ln)))) (some (.im (.int (c-1+du)))) (some (.im (.int wt))) z13) [a,b,.lst (ws.map wmD)] _
  -- the due
  refine AC (WP.mono (Q:=J_d1 c lo hv sn k j n way ln wt z13 ws) (Ad (AJ (A6 (A1 rfl (AG (E5 ⟨_,rfl,λhc=>?_,λhc=>AU ⟨_,a,b,rfl,rfl,by omega,tap.le hT (by omega)⟩⟩)))))) ?_)
  .refine AQ (A6 ?_);refine tap.draw hT rfl (by first|decide|omega) (by first|decide|omega) λr5 a b hT pr5 qr5=>?_;exact AG (Cd ⟨r5-99,a,b,rfl,rfl,by omega,tap.le hT (by omega)⟩)
  rintro f x ⟨due,a,b,rfl,rfl,hdu,hT⟩;refine A5 ?_;refine AC (WP.mono (Q:=J_d2 c lo hv sn k j n way ln wt z13 ws) (Ad (FO (AJ (A6 (A1 rfl (AG (E5 ⟨_,rfl,?_⟩))))))) ?_)
  .by_cases h1:way=1
   .rw[if_pos (by simpa using h1)];refine AJ (A6 (A1 rfl (AG (HF ⟨_,rfl,λhc=>?_,λhc=>AU ⟨due,a,b,rfl,rfl,hdu,tap.le hT (by omega)⟩⟩))));have hc:0<(j:Int):=by simpa using hc
    refine AQ (A6 (A6 (A6 (A1 rfl ?_))));refine tap.draw hT (many:=(j:Int)) (rest:=[.lst (ws.map wmD)]) (by simp) (by omega) (by omega) λr a b hT pr qr=>?_;obtain⟨w,hw,ew⟩:=atw r pr qr;have okw:=hws w hw;refine AI rfl ew (AG (AI (ds:=[.im (.int w.len),.im (.int w.com),.im (.tup [.str "miss",.int w.due,.int w.wt])]) rfl (Ca _ _ _ _) (AG (AI (ds:=[.im (.str "miss"),.im (.int w.due),.im (.int w.wt)]) rfl (DM _ _ _) ⟨w.due,a,b,rfl,rfl,okw.2.2.1,hT⟩))))
   .rw[if_neg (by simpa using h1)];exact⟨(λh=>by cases h),λ_=>AU ⟨due,a,b,rfl,rfl,hdu,tap.le hT (by omega)⟩⟩
  rintro f x ⟨due,a,b,rfl,rfl,hdu,hT⟩;refine A5 ?_;refine AC (AQ (B2 (A3 (A1 rfl (A3 (A1 rfl (A3 (B2 (A3 (AG (A3 (A1 rfl (A3 (A1 rfl (A7 ⟨ED,A7 ⟨ED,A5 ?_⟩⟩)))))))))))))));have okn:okM 500 c ⟨1+ln,c,due,wt⟩:=⟨by dsimp only;omega,rfl,hdu,by dsimp only;omega⟩
  have e0:Ab [.im (.int (1+ln)),.im (.int c),Ab [.im (.str "miss"),.im (.int due),.im (.int wt)]]=wmD ⟨1+ln,c,due,wt⟩:=rfl;rw[e0];change WS _ (Lw c lo hv sn (k:Int) (some (.im (.int (j:Int)))) (some (.im (.int way))) (some (.im (.int (1+ln)))) (some (.im (.int due))) (some (.im (.int wt))) (some (wmD ⟨1+ln,c,due,wt⟩))) [a,b,.lst (ws.map wmD)] _;refine AC (WP.mono (Q:=J_d3 c lo hv sn k j n way ln due wt ws) (Ad (FO (AJ (A6 (A1 rfl (AG (E5 ⟨_,rfl,?_⟩))))))) ?_)
  .by_cases h1:way=2
   .rw[if_pos (by simpa using h1)];refine AJ (A6 (A1 rfl (AG (HF ⟨_,rfl,λhc=>?_,λhc=>AU ⟨_,a,b,rfl,rfl,okn,tap.le hT (by omega)⟩⟩))));have hc:0<(j:Int):=by simpa using hc
    refine AQ (A6 (A1 rfl ?_));refine tap.draw hT (many:=(j:Int)) (rest:=[.lst (ws.map wmD)]) (by simp) (by omega) (by omega) λr a b hT pr qr=>?_;obtain⟨w,hw,ew⟩:=atw r pr qr;exact AI rfl ew ⟨w,a,b,rfl,rfl,hws w hw,hT⟩
   .rw[if_neg (by simpa using h1)];exact⟨(λh=>by cases h),λ_=>AU ⟨_,a,b,rfl,rfl,okn,tap.le hT (by omega)⟩⟩
  rintro f x ⟨w,a,b,rfl,rfl,okw,hT⟩;refine A5 (C2 (HH (A1 rfl ⟨⟨_,rfl⟩,A3 (A1 rfl (A7 (FP rfl (Cq (by simp;omega)) ?_)))⟩)));exact⟨AR _,j+1,ws++[w],a,b,_,_,_,_,_,_,by rw[show((j:Int)+1)=((j+1:Nat):Int) by omega,show m'=k-(j+1) by omega],by omega,by simp[hl],λz hz=>by rcases mem_append.mp hz with q|q;exact hws z q;rw[mem_singleton]at q;subst q;exact okw,rfl,by simp,tap.le hT (by omega)⟩
 .rintro ls hd ⟨j,ws,a,b,z8,z9,z10,z11,z12,z13,er,hj,hl,hws,rfl,rfl,hT⟩;have:j=k:=by
   cases q:k-j with
   |zero=>omega
   |succ m=>rw[q]at er;cases er
  subst this;refine A5 (AZ (Bo (A3 (A1 rfl (A7 (Bv rfl rfl ?_))))));rw[<- Ay,Bz];exact⟨_,a,b,_,rfl,⟨ws,c,rfl,λz=>by rw[z]at hl;simp at hl;omega,by omega,by omega,hws⟩,tap.le hT (by omega),rfl⟩
abbrev enD(q:D×Nat):D:=Ab [.im (.int (q.2:Int)),q.1]
def aG(n:Nat){ws:List Wm}{c:Int}(ok:okMs 500 c ws):∀a b,T (n+20) a b->WF L7 [.mu 1,.im (AO ws)] [a,b] λd x=>∃i a' b' g,d=.im i/\(∃ws c,i=AO ws/\okMs 2000 c ws)/\T n a' b'/\x=a'::b'::g:=by
 intro a b hT;obtain⟨hne,hl8,hc,hws⟩:=ok;have hl0:0<ws.length:=D0 hne;unfold L7;refine Am rfl ?_;refine AC (AQ ?_);refine tap.draw hT rfl (by first|decide|omega) (by first|decide|omega) λway a b hT pway qway=>?_;refine A5 (AC (AQ (A6 ?_)));refine tap.draw hT rfl (by first|decide|omega) (by first|decide|omega) λdy a b hT pdy qdy=>?_;refine AG (Cd (A5 (AC (AQ ?_))));refine tap.draw hT (many:=(ws.length:Int)) (rest:=[]) (by simp[BR]) (by omega) (by omega) λjj a b hT pj qj=>A5 ?_;refine AC (AQ (BO (Cf (A7 ⟨CP,A5 ?_⟩))));refine AC (BN (C3 (Bq (A1 rfl ⟨ws.map wmD,by rw[<- Ay];rfl,?_⟩))));change WP (Aq _ _ _ (((ws.map wmD).zipIdx 0).map enD) [some (.mu 1),some (.im (AO ws)),some (.im (.int way)),some (.im (.int (dy-999))),some (.im (.int jj)),some (.mu 2),none,none,none,none,none] [a,b,.lst []]) _;have hT:T (n+(ws.length-0)) a b:=tap.le hT (by omega);refine B8 (λr ls hd=>∃(dn rest fs:List Wm) (a b:MO) (z6 z7 z8 z9 z10:Option D),ws=dn++rest/\r=((rest.map wmD).zipIdx dn.length).map enD/\fs.length=dn.length/\(∀w∈fs,okM 2000 (if way=2 then 0 else c) w)/\ls=[some (.mu 1),some (.im (AO ws)),some (.im (.int way)),some (.im (.int (dy-999))),some (.im (.int jj)),some (.mu 2),z6,z7,z8,z9,z10]/\hd=[a,b,.lst (fs.map wmD)]/\T (n+(ws.length-dn.length)) a b) ⟨[],ws,[],a,b,none,none,none,none,none,rfl,rfl,rfl,by simp,rfl,rfl,hT⟩ ?_ ?_
 .rintro d r ls hd ⟨dn,rest,fs,a,b,z6,z7,z8,z9,z10,e1,er,hf,hfs,rfl,rfl,hT⟩;cases rest with
  |nil=>cases er
  |cons w rest=>
   rw[map_cons,zipIdx_cons,map_cons]at er;obtain⟨rfl,rfl⟩:=List.cons.inj er;have hlen:ws.length=dn.length+(rest.length+1):=by rw[e1];simp
   have hT:T (n+(ws.length-(dn++[w]).length)+1) a b:=tap.le hT (by simp;omega);have okw:=hws w (by rw[e1];simp);refine⟨[some (.mu 1),some (.im (AO ws)),some (.im (.int way)),some (.im (.int (dy-999))),some (.im (.int jj)),some (.mu 2),some (.im (.int (dn.length:Int))),some (.im (.int w.len)),some (.im (.int w.com)),some (.im (.tup [.str "miss",.int w.due,.int w.wt])),z10],rfl,?_⟩;refine Ad (AJ (A6 (A1 rfl (AG (E5 ⟨_,rfl,λh2=>?_,λh2=>?_⟩)))))
   .have h2:way=2:=by simpa using h2
    refine C2 (HH (A1 rfl ⟨⟨_,rfl⟩,A3 (B2 (A3 (A1 rfl (A3 (AG (A3 (B2 (A3 (AG (A3 (A6 (A1 rfl ?_)) ))))))))))⟩));refine tap.draw hT rfl (by first|decide|omega) (by first|decide|omega) λr5 a b hT pr5 qr5=>?_;refine Cd (A3 (AG (A7 ⟨ED,A7 ⟨ED,A7 (FP rfl (Cq (by simp;omega)) ?_)⟩⟩)));have okn:okM 2000 (if way=2 then 0 else c) ⟨w.len,0,dy-999-r5,1⟩:=⟨okw.1,by rw[if_pos h2],by dsimp only;omega,by dsimp only;omega⟩
    exact⟨AR _,dn++[w],rest,fs++[⟨w.len,0,dy-999-r5,1⟩],a,b,_,_,_,_,_,by rw[e1];simp,by simp,by simp[hf],λz hz=>by rcases mem_append.mp hz with q|q;exact hfs z q;rw[mem_singleton]at q;subst q;exact okn,rfl,by simp[wmI],hT⟩
   .have h2:way≠2:=by simpa using h2
    refine AC (AQ (WP.mono (Q:=λd x=>∃lt:Int,d=.im (.int lt)/\x=[a,b,.lst (fs.map wmD)]/\-999<=lt/\lt<=999) (LF (C0 (AJ (A6 (A1 rfl (AG (E5 ⟨_,rfl,?_⟩))))))) ?_))
    .by_cases h0:way=0
     .rw[if_pos (by simpa using h0)];exact⟨λ_=>A1 rfl ⟨_,rfl,rfl,by omega,by omega⟩,λh=>by cases h⟩
     .rw[if_neg (by simpa using h0)];exact AJ (A6 (A1 rfl (A1 rfl (E5 ⟨_,rfl,λ_=>A1 rfl ⟨_,rfl,rfl,by omega,by omega⟩,λ_=>AG ⟨0,rfl,rfl,by omega,by omega⟩⟩))))
    rintro d x ⟨lt,rfl,rfl,l1,l2⟩;refine A5 (C2 (HH (A1 rfl ⟨⟨_,rfl⟩,A3 (B2 (A3 (A1 rfl (A3 (A1 rfl (A3 (B2 (A3 (AG (A3 (A6 (A6 (A1 rfl (AG (AI (ds:=[.im (.str "miss"),.im (.int w.due),.im (.int w.wt)]) rfl (DM _ _ _) (A1 rfl (B7 (A3 (A6 (A1 rfl (AG (AI (ds:=[.im (.str "miss"),.im (.int w.due),.im (.int w.wt)]) rfl (Ca _ _ _ _) (A7 ⟨ED,A7 ⟨ED,A7 (FP rfl (Cq (by simp;omega)) ?_)⟩⟩)))))))))))))))))))))))⟩)));have okn:okM 2000 (if way=2 then 0 else c) ⟨w.len,w.com,w.due+lt,w.wt⟩:=⟨okw.1,by rw[if_neg h2];exact okw.2.1,by have:=okw.2.2.1;dsimp only;omega,okw.2.2.2⟩
    exact⟨AR _,dn++[w],rest,fs++[⟨w.len,w.com,w.due+lt,w.wt⟩],a,b,_,_,_,_,_,by rw[e1];simp,by simp,by simp[hf],λz hz=>by rcases mem_append.mp hz with q|q;exact hfs z q;rw[mem_singleton]at q;subst q;exact okn,rfl,by simp[wmI],tap.le hT (by omega)⟩
 .rintro ls hd ⟨dn,rest,fs,a,b,z6,z7,z8,z9,z10,e1,er,hf,hfs,rfl,rfl,hT⟩;have:rest=[]:=by cases rest with
   |nil=>rfl
   |cons t r=>cases er
  subst this;rw[append_nil]at e1;subst e1;refine A5 (AZ (Bo (A3 (A1 rfl (A7 (Bv rfl rfl ?_))))));rw[<- Ay,Bz];refine⟨_,a,b,_,rfl,⟨fs,_,rfl,λz=>by rw[z]at hf;simp at hf;exact hne (length_eq_zero_iff.mp hf.symm),by omega,?_,hfs⟩,tap.le hT (by omega),rfl⟩;split<;>omega
def Cm(ns:List Int):Az (intD ns)=some ns:=by
 induction ns with
 |nil=>rfl
 |cons n r ih=>simp[intD]at ih ⊢
def DC{ws:List Wm}{k:Nat}(hk:k<ws.length):atI (ws.map wmD) (k:Int)=some (wmD ws[k]):=Jo rfl (by simp[hk])
def TR{B c:Int}{ws:List Wm}(ok:okMs B c ws):WF Dc [.im (AO ws)] [] λd x=>d=.im (.int c):=by
 obtain⟨hne,hl8,hc,hws⟩:=ok;have hl0:0<ws.length:=D0 hne;unfold Dc;refine Am rfl ?_;refine AC (AQ (AK (A3 (A1 rfl (A7 ⟨by simp,?_⟩)))));have e0:(ws[0]).com=c:=(hws _ (List.getElem_mem hl0)).2.1;have S:WF DF [.im (AO ws)] [] λd x=>d=.im (.int c):=by
  unfold DF;refine Am rfl ?_;refine AC (AQ (A6 (A6 (A1 rfl (AG (AI (by rw[BP,Ay]) (DC (k:=0) hl0) ?_))))));refine AG (AI (ds:=[.im (.int (ws[0]).len),.im (.int (ws[0]).com),.im (.tup [.str "miss",.int (ws[0]).due,.int (ws[0]).wt])]) rfl (DM _ _ _) (A5 ?_));rw[e0];refine AC (Ad (B6 (CN (BC (Bq (A1 rfl ⟨_,rfl,?_⟩))))));rw[Ay];refine⟨Af (by simp;omega),?_⟩;refine Bc wmD (λ_=>some (.im (.bl true))) (λ_ ls=>∃x,ls=[some x,some (.im (.int c))]) _ (AR _) ?_ ?_
  .rintro p hp ls hls;refine⟨[some (wmD p),some (.im (.int c))],by rcases hls with rfl|⟨_,x,rfl⟩<;>rfl,⟨_,rfl⟩,D4 ⟨rfl,?_⟩⟩;rw[if_pos rfl];refine⟨_,rfl,A6 (A6 (A1 rfl (AG (AI (ds:=[.im (.int p.len),.im (.int p.com),.im (.tup [.str "miss",.int p.due,.int p.wt])]) rfl (DM _ _ _) (A1 rfl (E5 ⟨rfl,?_⟩))))))⟩;simp[(hws p hp).2.1]
  have e:(ws.filterMap λ_=>some (D.im (.bl true)))=blD (ws.map λ_=>true):=by simp[blD]
  rw[e];refine⟨_,by rw[Go,IH];rfl,_,rfl,?_⟩;refine⟨λ_=>?_,(λh=>by simp at h)⟩;exact AZ (A1 rfl rfl)
 refine S.mono ?_;rintro d x rfl;refine⟨_,rfl,A5 ?_⟩;refine AC (Ad (AJ ?_));refine WP.eq (z:=.im (.bl false)) (h:=[]) (by simp[B0]) ⟨_,rfl,(λh=>by cases h),λ_=>AU (A5 ?_)⟩;exact AZ (A1 rfl rfl)
def SG{B c:Int}{ws:List Wm}(ok:okMs B c ws):WF Ba [.im (AO ws),.im (.str "miss")] [] λd x=>d=.im .non:=by
 have hl8:=ok.2.1;unfold Ba;refine Am rfl ?_;refine Ad (B6 (CN (BC (Bq (A1 rfl ⟨_,rfl,?_⟩)))));rw[Ay];refine⟨Af (by simp;omega),?_⟩;refine Bc wmD (λ_=>some (.im (.bl false))) (λ_ ls=>∃x,ls=[some x,some (.im (.str "miss"))]) _ (AR _) ?_ ?_
 .rintro p hp ls hls;refine⟨[some (wmD p),some (.im (.str "miss"))],by rcases hls with rfl|⟨_,x,rfl⟩<;>rfl,⟨_,rfl⟩,D4 ⟨rfl,?_⟩⟩;rw[if_pos rfl];refine⟨_,rfl,A6 (A6 (A6 (A1 rfl (AG (AI (ds:=[.im (.int p.len),.im (.int p.com),.im (.tup [.str "miss",.int p.due,.int p.wt])]) rfl (Ca _ _ _ _) (AG (AI (ds:=[.im (.str "miss"),.im (.int p.due),.im (.int p.wt)]) rfl (TY _ _) (A1 rfl (WQ ⟨rfl,?_⟩)))))))))⟩;simp
 have e:(ws.filterMap λ_=>some (D.im (.bl false)))=blD (ws.map λ_=>false):=by simp[blD]
 rw[e];refine⟨_,by rw[MC,IH];rfl,_,rfl,?_⟩;exact⟨(λh=>by simp at h),λ_=>AU rfl⟩
def M6{B c:Int}{ws:List Wm}(ok:okMs B c ws):WF Bu [.im (AO ws)] [] λd x=>d=.im (.int c):=by
 unfold Bu;refine Am rfl ?_;refine AC (AQ (AK (A3 (A1 rfl (A7 ⟨by simp,(TR ok).mono ?_⟩)))));rintro d x rfl;refine⟨_,rfl,A5 ?_⟩;refine AC (C2 (AK (A3 (A1 rfl (A3 (AG (A7 ⟨by simp,(SG ok).mono ?_⟩)))))));rintro d x rfl;exact⟨_,rfl,A5 (AZ (A1 rfl rfl))⟩
def LD(p:Wm):WF D9 [wmD p] [] λd x=>d=.im (.int p.wt):=by
 unfold D9;refine Am rfl ?_;refine AZ (A6 (A6 (A1 rfl (AG (AI (ds:=[.im (.int p.len),.im (.int p.com),.im (.tup [.str "miss",.int p.due,.int p.wt])]) rfl (Ca _ _ _ _) ?_)))));refine IL (AG ⟨_,rfl,?_⟩);refine AI (ds:=[.im (.str "miss"),.im (.int p.due),.im (.int p.wt)]) (e:=.im (.int p.wt)) rfl ?_ rfl;rfl
abbrev AT(ws:List Wm):Int:=(ws.map Wm.wt).sum
def J0{B c:Int}{ws:List Wm}(ok:okMs B c ws):WF BV [.im (AO ws)] [] λd x=>d=.im (.int (AT ws)):=by
 have hl8:=ok.2.1;unfold BV;refine Am rfl ?_;refine AZ (CN (BC (Bq (A1 rfl ⟨_,rfl,?_⟩))));rw[Ay];refine⟨Af (by simp;omega),?_⟩;refine Bc wmD (λw=>some (.im (.int w.wt))) (λ_ ls=>∃x,ls=[some x]) _ (AR _) ?_ ?_
 .rintro p hp ls hls;refine⟨[some (wmD p)],by rcases hls with rfl|⟨_,x,rfl⟩<;>rfl,⟨_,rfl⟩,D4 ⟨rfl,?_⟩⟩;rw[if_pos rfl];refine⟨_,rfl,AK (A3 (A1 rfl (A7 ⟨by simp[wmI],(LD p).mono ?_⟩)))⟩;rintro d y rfl;exact⟨_,rfl,rfl,rfl⟩
 have e:(ws.filterMap λw=>some (D.im (.int w.wt)))=intD (ws.map Wm.wt):=by simp[intD]
 rw[e];exact⟨_,by unfold DU;rw[Cm];rfl,rfl⟩
def Ah(ws:List Wm)(k:Nat):Int:=(ws[k]?.map Wm.due).getD 0
def BA(ws:List Wm):List (Int×Int):=(List.range ws.length).map λk:Nat=>(Ah ws k,(k:Int))
def AX(ws:List Wm):List Int:=(C9 (BA ws)).map (·.2)
def Gy{ws:List Wm}{k:Nat}(hk:k<ws.length):(ws[k]).due=Ah ws k:=by simp[Ah,hk]
def Ff{B c:Int}{ws:List Wm}(ok:okMs B c ws)(hB:B<=2000){k:Nat}(hk:k<ws.length):pok (Ah ws k,(k:Int)):=by
 have:=(ok.2.2.2 _ (List.getElem_mem hk)).2.2.1;rw[Gy hk]at this;have:=ok.2.1;unfold pok;dsimp only;omega
def Py{p q:Int×Int}(hp:pok p)(hq:pok q)(h:Ac p=Ac q):p=q:=by
 unfold pok at hp hq;unfold Ac at h;have:p.1=q.1:=by omega
 have:p.2=q.2:=by omega
 exact Prod.ext (by assumption) (by assumption)
def YW{B c:Int}{ws:List Wm}(ok:okMs B c ws)(hB:B<=2000){ms:List Int}(pm:ms.Perm ((List.range ws.length).map λk:Nat=>(k:Int)))(pw:ms.Pairwise λa b=>Ac (Ah ws a.toNat,a)<=Ac (Ah ws b.toNat,b)):ms=AX ws:=by
 have p1:(ms.map λn:Int=>(Ah ws n.toNat,n)).Perm (BA ws):=by
  have:=pm.map λn:Int=>(Ah ws n.toNat,n)
  rw[map_map]at this;exact this
 have p2:(C9 (BA ws)).Perm (BA ws):=mergeSort_perm ..;have w2:(C9 (BA ws)).Pairwise λa b=>Ac a<=Ac b:=by
  have:=pairwise_mergeSort (le:=λa b:Int×Int=>decide (Ac a<=Ac b)) (by intro a b c h1 h2;simp at *;omega) (by intro a b;simp;omega) (BA ws);exact this.imp (by simp)
 have w1:(ms.map λn:Int=>(Ah ws n.toNat,n)).Pairwise λa b=>Ac a<=Ac b:=pairwise_map.mpr pw;have okd:∀a∈BA ws,pok a:=λa ha=>by
  obtain⟨k,hk,rfl⟩:=mem_map.mp ha;exact Ff ok hB (by simpa using hk)
 have e:(ms.map λn:Int=>(Ah ws n.toNat,n))=C9 (BA ws):=(p1.trans p2.symm).eq_of_pairwise (le:=λa b=>Ac a<=Ac b) (λa b ha hb h1 h2=>Py (okd a (p1.mem_iff.mp ha)) (okd b (p2.mem_iff.mp hb)) (le_antisymm h1 h2)) w1 w2;unfold AX;rw[<- e,map_map];have:((λx:Int×Int=>x.2) ∘ λn:Int=>(Ah ws n.toNat,n))=id:=rfl;rw[this,map_id]
def F9{B c:Int}{ws:List Wm}(ok:okMs B c ws)(hB:B<=2000):WF Cv [.im (AO ws)] [] λd x=>d=.mu 0/\x=[.lst (intD (AX ws))]:=by
 have hl8:=ok.2.1;unfold Cv;refine Am rfl ?_;refine AZ (BO (PP (A3 (Bo (A3 (A1 rfl (A7 (Bv rfl rfl (A7 ⟨ws.length,by simp,by omega,λn=>(Ah ws n.toNat,n),λk hk=>Ff ok hB hk,λa ha b hb e=>?_,λk hk=>?_,λms pm pw=>?_⟩)))))))))
 .have:=Py (p:=(Ah ws ((a:Int)).toNat,(a:Int))) (q:=(Ah ws ((b:Int)).toNat,(b:Int))) (Ff ok hB ha) (Ff ok hB hb) e;have:=congrArg Prod.snd this;dsimp only at this;omega
 .have w:WE (As (A2 (mOp gIx (mOp gIx (mOp gIx (A0 1) (A0 0)) (mC (.int 2))) (mC (.int 1))) (A2 (A0 0) A4))) [some (.im (.int (k:Int))),some (.im (AO ws))] [] λd x=>d=B1 (Ah ws k,(k:Int))/\x=[]:=by
   refine B2 (A3 (A6 (A6 (A6 (A1 rfl (A1 rfl (AI (by rw[BP,Ay]) (DC hk) (AG (AI (ds:=[.im (.int (ws[k]).len),.im (.int (ws[k]).com),.im (.tup [.str "miss",.int (ws[k]).due,.int (ws[k]).wt])]) rfl (Ca _ _ _ _) (AG (AI (ds:=[.im (.str "miss"),.im (.int (ws[k]).due),.im (.int (ws[k]).wt)]) rfl (DM _ _ _) (A3 (A1 rfl (A7 ⟨MN,?_,rfl⟩))))))))))))));rw[Gy hk];rfl
  obtain⟨d,x,e,rfl,rfl⟩:=w;exact e
 .rw[YW ok hB pm pw];exact⟨rfl,rfl⟩
def Iu{B c:Int}{ws:List Wm}(ok:okMs B c ws)(hB:B<=2000):WF De [.im (AO ws)] [] λd x=>d=.mu 0/\x=[.lst (intD (AX ws))]:=by
 have hl8:=ok.2.1;unfold De;refine Am rfl ?_;refine AZ (BO (BC (aW ?_)));have hs:WA (DK (EH (Ao 1 [0] (Er (A2 (mCB (f1 true BR) (A2 (A0 0) A4)) A4)) (AA 0) Bi (As (A2 (mOp gIx (mOp gIx (mOp gIx (A0 1) (A0 0)) (mC (.int 2))) (mC (.int 1))) (A2 (A0 0) A4)))))) [some (.im (AO ws))] [] λds x=>ds=(C9 (BA ws)).map B1/\x=[]:=by
  have h0:WA (Ao 1 [0] (Er (A2 (mCB (f1 true BR) (A2 (A0 0) A4)) A4)) (AA 0) Bi (As (A2 (mOp gIx (mOp gIx (mOp gIx (A0 1) (A0 0)) (mC (.int 2))) (mC (.int 1))) (A2 (A0 0) A4)))) [some (.im (AO ws))] [] λds x=>ds=(BA ws).map B1/\x=[]:=by
   refine BC (Nt (A3 (Bo (A3 (A1 rfl (A7 (Bv rfl rfl (A7 ⟨(ws.length:Int),by simp,HK (by omega) (by omega),?_⟩))))))));rw[toNat_natCast,EQ];refine⟨Af (by simp[Ge];omega),?_⟩;refine Bc (λk:Nat=>D.im (.int (k:Int))) (λk=>some (B1 (Ah ws k,(k:Int)))) (λ_ ls=>∃x,ls=[some x,some (.im (AO ws))]) _ (AR _) ?_ ?_
   .rintro k hk ls hls;have hk:k<ws.length:=by simpa using hk
    refine⟨[some (.im (.int (k:Int))),some (.im (AO ws))],by rcases hls with rfl|⟨_,x,rfl⟩<;>rfl,⟨_,rfl⟩,D4 ⟨rfl,?_⟩⟩;rw[if_pos rfl];refine⟨_,rfl,B2 (A3 (A6 (A6 (A6 (A1 rfl (A1 rfl (AI (by rw[BP,Ay]) (DC hk) (AG (AI (ds:=[.im (.int (ws[k]).len),.im (.int (ws[k]).com),.im (.tup [.str "miss",.int (ws[k]).due,.int (ws[k]).wt])]) rfl (Ca _ _ _ _) (AG (AI (ds:=[.im (.str "miss"),.im (.int (ws[k]).due),.im (.int (ws[k]).wt)]) rfl (DM _ _ _) (A3 (A1 rfl (A7 ⟨MN,rfl,?_⟩))))))))))))))⟩;rw[Gy hk];rfl
   .simp[BA]
  obtain⟨ds,x,e,rfl,rfl⟩:=h0;refine⟨_,_,?_,rfl,rfl⟩;have okd:∀a∈BA ws,pok a:=λa ha=>by
   obtain⟨k,hk,rfl⟩:=mem_map.mp ha;exact Ff ok hB (by simpa using hk)
  have hl:(BA ws).length<64:=by simp[BA];omega
  simp only[DK,EH,e,bind_some,map_some,Il];rw[if_pos ⟨hl,okd⟩]
 refine WP.mono hs ?_;rintro ds x ⟨rfl,rfl⟩;refine⟨Af (by simp[C9,List.length_mergeSort,BA];omega),?_⟩;refine Bc B1 (λp=>some (.im (.int p.2))) (λ_ ls=>∃x,ls=[some x]) _ (AR _) ?_ ?_
 .rintro p hp ls hls;refine⟨[some (B1 p)],by rcases hls with rfl|⟨_,x,rfl⟩<;>rfl,⟨_,rfl⟩,D4 ⟨rfl,?_⟩⟩;rw[if_pos rfl];exact⟨_,rfl,A6 (A1 rfl (AG (AI (ds:=[.im (.int p.1),.im (.int p.2)]) rfl (DM _ _ _) ⟨rfl,rfl⟩)))⟩
 .refine⟨rfl,?_⟩;simp[AX,intD]
end T40
namespace Lt
def IsMin(E:List Int)(o:Option Int):Prop:=(o=none/\E=[])∨∃m,o=some m/\m∈E/\∀e∈E,m<=e
def K9:IsMin [] none:=.inl ⟨rfl,rfl⟩
def cY(o:Option Int)(e:Int):Option Int:=match o with|none=>some e|some x=>if e<x then some e else some x
def comb(kept more:Option Int):Option Int:=match more with|none=>kept|some y=>match kept with|some x=>if x<=y then some x else some y|none=>some y
def IsMin.comb{A B:List Int}{o o':Option Int}(h:IsMin A o)(h':IsMin B o'):IsMin (A++B) (comb o o'):=by
 rcases h' with⟨rfl,rfl⟩|⟨y,rfl,hy,ly⟩
 .rw[append_nil];exact h
 .rcases h with⟨rfl,rfl⟩|⟨x,rfl,hx,lx⟩
  .exact .inr ⟨y,rfl,by simpa using hy,by simpa using ly⟩
  .unfold Lt.comb;dsimp only;split
   .exact .inr ⟨x,rfl,by simp[hx],λe he=>by rcases mem_append.mp he with q|q;exact lx e q;have:=ly e q;omega⟩
   .exact .inr ⟨y,rfl,by simp[hy],λe he=>by rcases mem_append.mp he with q|q;have:=lx e q;omega;exact ly e q⟩
def behind(l d:Int)(o:Option Int):Option Int:=match o with|none=>none|some x=>if x+l<=d then some (x+l)else none
def IsMin.behind{A:List Int}{o:Option Int}(l d:Int)(h:IsMin A o):IsMin ((A.map (·+l)).filter λe=>decide (e<=d)) (behind l d o):=by
 rcases h with⟨rfl,rfl⟩|⟨x,rfl,hx,lx⟩
 .exact K9
 .unfold Lt.behind;dsimp only;split
  .next q=>
   refine .inr ⟨x+l,rfl,mem_filter.mpr ⟨mem_map.mpr ⟨x,hx,rfl⟩,by simpa using q⟩,λe he=>?_⟩;obtain⟨z,hz,rfl⟩:=mem_map.mp (mem_filter.mp he).1;have:=lx z hz;omega
  .next q=>
   refine .inl ⟨rfl,List.filter_eq_nil_iff.mpr λe he=>?_⟩;obtain⟨z,hz,rfl⟩:=mem_map.mp he;have:=lx z hz;simp;omega
abbrev En:=Nat×Nat×Int
abbrev Wx:=Int×Int×Nat
def more(i:Nat)(w:Wx)(E:List En):List En:=(E.filter λe=>decide (e.2.2+w.1<=w.2.1)).map λe=>(i+1,e.2.1+w.2.2,e.2.2+w.1)
def AF(c:Int):List Wx->Nat->List En
 |_,0=>[(0,0,c)]
 |L,i+1=>AF c L i++(match L[i]? with|some w=>more i w (AF c L i)|none=>[])
def sel(w:Nat)(E:List En):List Int:=(E.filter λe=>decide (e.2.1=w)).map λe=>e.2.2
def N9(w:Nat)(E F:List En):sel w (E++F)=sel w E++sel w F:=by simp[sel]
def S3(i:Nat)(x:Wx)(w:Nat)(E:List En):sel w (more i x E)=if w<x.2.2 then []else((sel (w-x.2.2) E).map (·+x.1)).filter λe=>decide (e<=x.2.1):=by
 induction E with
 |nil=>simp[more,sel]
 |cons e r ih=>
  have em:more i x (e::r)=(if e.2.2+x.1<=x.2.1 then [(i+1,e.2.1+x.2.2,e.2.2+x.1)]else [])++more i x r:=by
   unfold more;rw[filter_cons];by_cases q:e.2.2+x.1<=x.2.1<;>simp[q]
  rw[em,N9,ih];by_cases hw:w<x.2.2
  .rw[if_pos hw,if_pos hw,append_nil];by_cases q:e.2.2+x.1<=x.2.1
   .have:¬ e.2.1+x.2.2=w:=by omega
    simp[q,sel,this]
   .simp[q,sel]
  .rw[if_neg hw,if_neg hw];have ec:sel (w-x.2.2) (e::r)=(if e.2.1=w-x.2.2 then [e.2.2]else [])++sel (w-x.2.2) r:=by
    unfold sel;rw[filter_cons];by_cases q:e.2.1=w-x.2.2<;>simp[q]
   rw[ec,map_append,List.filter_append]
   congr 1
   by_cases q1:e.2.2+x.1<=x.2.1
   .by_cases q2:e.2.1=w-x.2.2
    .have e3:w-x.2.2+x.2.2=w:=Nat.sub_add_cancel (Nat.le_of_not_lt hw);simp[q1,q2,sel,e3]
    .have:¬ e.2.1+x.2.2=w:=by omega
     simp[q1,q2,sel,this]
   .by_cases q2:e.2.1=w-x.2.2<;>simp[q1,q2,sel]
def AW(x:Wx)(f:Nat->Option Int)(w:Nat):Option Int:=comb (f w) (if w<x.2.2 then none else behind x.1 x.2.1 (f (w-x.2.2)))
def next_min{c:Int}{L:List Wx}{i:Nat}{x:Wx}(hx:L[i]?=some x){f:Nat->Option Int}{w:Nat}(h:IsMin (sel w (AF c L i)) (f w))(h':¬ w<x.2.2->IsMin (sel (w-x.2.2) (AF c L i)) (f (w-x.2.2))):IsMin (sel w (AF c L (i+1))) (AW x f w):=by
 have e:AF c L (i+1)=AF c L i++more i x (AF c L i):=by rw[AF,hx]
 rw[e,N9,S3];unfold AW;refine h.comb ?_;by_cases q:w<x.2.2
 .rw[if_pos q,if_pos q];exact K9
 .rw[if_neg q,if_neg q];exact(h' q).behind _ _
end Lt
namespace T40
open PySem L2 Bd
open Lt (IsMin comb behind AW sel AF Wx)
def N3{is js:List I}{hd:Hd}{QE:D->Hd->Prop}(h0:is≠[])(h1:is.length+js.length<=100)(q:QE (.im (.tup (is++js))) hd):WP (AY (.im (.tup is)) (.im (.tup js)) hd) QE:=by
 have cat:UB (is.map D.im) (js.map D.im):=⟨by simpa using h0,Af (by simp;omega)⟩
 refine WP.eq (z:=.im (.tup (is++js))) (h:=hd) ?_ q;show(match Ji (.im (.tup is)) (.im (.tup js)) hd with|some z=>some z|none=>Fz (.im (.tup is)) (.im (.tup js)) hd)=_;rw[show Ji (.im (.tup is)) (.im (.tup js)) hd=none from rfl];unfold Fz;rw[show Ae (.im (.tup is))=some (is.map D.im)from rfl,show Ae (.im (.tup js))=some (js.map D.im)from rfl,bind_some,bind_some,if_pos cat,<- map_append,Bz]
def RW{w:Nat}{F:List D->Hd->Option (D×Hd)}{m:MA}{ls:Ls}{hd pre rest:Hd}{ds:List D}{QE:D->Hd->Prop}(e:m ls hd=some (ds,pre++rest))(hw:pre.length=w)(hc:BB w ds=true)(hp:pre.all (clO w)=true)
 (hF:WF F ds pre λd x=>∃k es pre' g,d=.mu k/\w<=k/\x=pre'++g/\pre'.length=w/\pre'.all (clO w)=true/\x[k]?=some (.lst es)/\BB w es=true/\QE (.mu (w+rest.length)) (pre'++rest++[.lst es])):WE (A9 w F m) ls hd QE:=by
 subst hw;obtain⟨d,x,e2,k,es,pre',g,rfl,hk,rfl,lp,cp,e3,c3,q⟩:=hF;refine⟨_,_,?_,q⟩;have t1:(pre++rest).take pre.length=pre:=by simp
 have t2:(pre'++g).take pre.length=pre':=by rw[<- lp];simp
 have t3:¬ k<pre.length:=by omega
 simp only[A9,e,bind_some,t1,hc,hp,e2,fin,t2,cp,if_neg t3,e3,c3,if_true];simp
def DN{w:Nat}{F:List D->Hd->Option (D×Hd)}{m:MA}{ls:Ls}{hd:Hd}{QE:D->Hd->Prop}(h:WA m ls hd λds x=>∃pre rest,x=pre++rest/\pre.length=w/\BB w ds=true/\pre.all (clO w)=true/\WF F ds pre λd x=>∃k es pre' g,d=.mu k/\w<=k/\x=pre'++g/\pre'.length=w/\pre'.all (clO w)=true/\x[k]?=some (.lst es)/\BB w es=true/\QE (.mu (w+rest.length)) (pre'++rest++[.lst es])):WE (A9 w F m) ls hd QE:=by
 obtain⟨ds,x,e,pre,rest,rfl,hw,hc,hp,hF⟩:=h;exact RW e hw hc hp hF
def Dq:Option Int->I|none=>.non|some x=>.int x
abbrev Ag(o:Option Int):D:=.im (Dq o)
def Bw{neg:Bool}{ma:ME}{ls:Ls}{hd:Hd}{QE:D->Hd->Prop}(h:WE ma ls hd λd x=>∃o:Option Int,d=Ag o/\QE (.im (.bl (if o.isNone then !neg else neg))) x):WE (B0 neg ma) ls hd QE:=by
 obtain⟨d,x,e,o,rfl,q⟩:=h;refine⟨_,x,?_,q⟩;simp only[B0,e,bind_some];cases o<;>rfl
def rowI(N:Nat)(f:Nat->Option Int):I:=.tup ((List.range N).map λw=>Dq (f w))
def CO{N:Nat}{f:Nat->Option Int}{w:Nat}(hw:w<N):atI (((List.range N).map λw=>Dq (f w)).map D.im) (w:Int)=some (Ag (f w)):=Jo rfl (by simp[hw])
def wx(p:Wm):Wx:=(p.len,p.due,p.wt.toNat)
def Tw{B c:Int}{p:Wm}(ok:okM B c p){N:Nat}(f:Nat->Option Int){w:Nat}(hw:w<N):WF Ct [.im (rowI N f),wmD p,.im (.int (w:Int))] [] λd x=>d=Ag (if w<(wx p).2.2 then none else behind (wx p).1 (wx p).2.1 (f (w-(wx p).2.2))):=by
 have h0:=ok.2.2.2;unfold Ct;refine Am rfl ?_;refine AC (IK (A1 rfl ⟨[some (.im (rowI N f)),some (wmD p),some (.im (.int (w:Int))),some (.im (.int p.len)),some (.im (.int p.com)),some (.im (.str "miss")),some (.im (.int p.due)),some (.im (.int p.wt)),none],rfl,A5 ?_⟩));refine AC (Ad (C0 (AJ (A6 (A1 rfl (A1 rfl (Kj ⟨_,rfl,?_⟩)))))));by_cases q:w<(wx p).2.2
 .have q':(w:Int)<p.wt:=by unfold wx at q;dsimp only at q;omega
  rw[if_pos (by simpa using q'),if_pos q];exact⟨λ_=>AZ (AG rfl),λh=>by cases h⟩
 .have q':¬ (w:Int)<p.wt:=by unfold wx at q;dsimp only at q;omega
  rw[if_neg (by simpa using q'),if_neg q];have ek:(w:Int)-p.wt=((w-(wx p).2.2:Nat):Int):=by unfold wx at q ⊢;dsimp only at q ⊢;omega
  have hk:w-(wx p).2.2<N:=by omega
  refine AJ (Bw (A6 (A1 rfl (A6 (A1 rfl (A1 rfl (Cd ?_)))))));rw[ek];refine AI rfl (CO hk) ⟨_,rfl,_,rfl,λh=>?_,λh=>AU (A5 ?_)⟩
  .have e:f (w-(wx p).2.2)=none:=by
    cases e:f (w-(wx p).2.2)with
    |none=>rfl
    |some x=>rw[e]at h;simp at h
   refine AZ (AG ?_);rw[e];rfl
  .obtain⟨x,e⟩:∃x,f (w-(wx p).2.2)=some x:=by
    cases e:f (w-(wx p).2.2)with
    |none=>rw[e]at h;simp at h
    |some x=>exact⟨x,rfl⟩
   refine AC (AQ (A6 (A6 (A1 rfl (A6 (A1 rfl (A1 rfl (Cd ?_))))))));rw[ek];refine AI rfl (CO hk) ?_;rw[e];refine A1 rfl (B7 (A5 (AZ (LF (AJ (A6 (A1 rfl (A1 rfl (Kk ⟨_,rfl,λh=>?_,λh=>?_⟩)))))))))
   .have h:x+p.len<=p.due:=by simpa using h
    refine A1 rfl ?_;unfold behind wx;dsimp only;rw[if_pos h];rfl
   .have h:¬ x+p.len<=p.due:=by simpa using h
    refine AG ?_;unfold behind wx;dsimp only;rw[if_neg h];rfl
def nm(one other:Option Int):Bool:=match other with|none=>true|some y=>match one with|some x=>decide (x<=y)|none=>false
def Nl(a b:Option Int):comb a b=if nm a b=true then a else b:=by
 cases b with
 |none=>simp[comb,nm]
 |some y=>
  cases a with
  |none=>simp[comb,nm]
  |some x=>simp[comb,nm]
def F1(a b:Option Int):WF Cu [Ag a,Ag b] [] λd x=>d=.im (.bl (nm a b)):=by
 unfold Cu;refine Am rfl ?_;refine AZ (PM (AJ (Bw (A1 rfl ⟨b,rfl,_,rfl,?_⟩))));cases b with
 |none=>rfl
 |some y=>
  rw[if_neg (by simp)];refine HI (AJ (Bw (A1 rfl ⟨a,rfl,_,rfl,?_⟩)));cases a with
  |none=>rfl
  |some x=>
   rw[if_pos (by simp)];exact A6 (A1 rfl (A1 rfl (Kk rfl)))
inductive I_next_row_w(p:Wm)(N:Nat)(f:Nat->Option Int)(r:List D)(ls:Ls)(hd:Hd):Prop
 |mk (j:Nat) (z3 z4 z5:Option D) (h0:j<=N) (h1:r=(((List.range' j (N-j)).map λw=>Ag (f w)).zipIdx j).map enD) (h2:ls=[some (.im (rowI N f)),some (wmD p),some (.mu 0),z3,z4,z5]) (h3:hd=[.lst ((List.range j).map λw=>Ag (AW (wx p) f w))]):I_next_row_w p N f r ls hd
def Ob{B c:Int}{p:Wm}(ok:okM B c p){N:Nat}(hN:N<=100)(f:Nat->Option Int):WF Ec [.im (rowI N f),wmD p] [] λd x=>d=.im (rowI N (AW (wx p) f)):=by
 unfold Ec;refine Am rfl ?_;refine AC (AQ (BO (Cf (A7 ⟨CP,A5 ?_⟩))));refine AC (BN (C3 (Bq (A1 rfl ⟨((List.range N).map λw=>Dq (f w)).map D.im,rfl,?_⟩))));change WP (Aq _ _ _ (((((List.range N).map λw=>Dq (f w)).map D.im).zipIdx 0).map enD) [some (.im (rowI N f)),some (wmD p),some (.mu 0),none,none,none] [.lst []]) _;have e0:((List.range N).map λw=>Dq (f w)).map D.im=(List.range' 0 (N-0)).map λw=>Ag (f w):=by rw[map_map,List.range_eq_range',Nat.sub_zero];rfl
 rw[e0];refine B8 (I_next_row_w p N f) ⟨0,none,none,none,by omega,rfl,rfl,rfl⟩ ?_ ?_
 .rintro d r ls hd ⟨j,z3,z4,z5,hj,er,rfl,rfl⟩;obtain⟨m,hm⟩:∃m,N-j=m+1:=by
   cases q:N-j with
   |zero=>rw[q]at er;cases er
   |succ m=>exact⟨m,rfl⟩
  rw[hm,List.range'_succ,map_cons,zipIdx_cons,map_cons]at er;obtain⟨rfl,rfl⟩:=List.cons.inj er;refine⟨[some (.im (rowI N f)),some (wmD p),some (.mu 0),some (.im (.int (j:Int))),some (Ag (f j)),z5],rfl,?_⟩;refine AC (AQ (AK (A3 (A1 rfl (A3 (A1 rfl (A3 (A1 rfl (A7 ⟨by simp[wmI,rowI],(Tw ok f (by omega)).mono ?_⟩)))))))));rintro d x rfl;refine⟨_,rfl,A5 ?_⟩;refine C2 (HH (A1 rfl ⟨⟨_,rfl⟩,A3 (Tf (B6 (AK (A3 (A1 rfl (A3 (A1 rfl (A7 ⟨by simp,(F1 _ _).mono ?_⟩))))))))⟩));rintro d x rfl;refine⟨_,rfl,_,rfl,?_⟩;have fin:∀o:Option Int,o=AW (wx p) f j->WA A4 [some (.im (rowI N f)),some (wmD p),some (.mu 0),some (.im (.int (j:Int))),some (Ag (f j)),some (Ag (if j<(wx p).2.2 then none else behind (wx p).1 (wx p).2.1 (f (j-(wx p).2.2))))] [.lst ((List.range j).map λw=>Ag (AW (wx p) f w))] λds y=>WP (BF (.mu 0) (Ag o::ds) y) λ_ x=>GOk x []/\I_next_row_w p N f ((((List.range' (j+1) m).map λw=>Ag (f w)).zipIdx (j+1)).map enD) [some (D.im (rowI N f)),some (wmD p),some (.mu 0),some (.im (.int (j:Int))),some (Ag (f j)),some (Ag (if j<(wx p).2.2 then none else behind (wx p).1 (wx p).2.1 (f (j-(wx p).2.2))))] x:=by
   rintro o rfl;refine A7 (FP rfl (Cq (by simp;omega)) ⟨AR _,j+1,_,_,_,by omega,by rw[show N-(j+1)=m by omega],rfl,?_⟩);rw[range_succ];simp
  have ec:AW (wx p) f j=if nm (f j) (if j<(wx p).2.2 then none else behind (wx p).1 (wx p).2.1 (f (j-(wx p).2.2)))=true then f j else(if j<(wx p).2.2 then none else behind (wx p).1 (wx p).2.1 (f (j-(wx p).2.2))):=by
   unfold AW;rw[Nl]
  by_cases q:nm (f j) (if j<(wx p).2.2 then none else behind (wx p).1 (wx p).2.1 (f (j-(wx p).2.2)))=true
  .rw[if_pos q]at ec ⊢;exact A1 rfl (fin _ ec.symm)
  .rw[if_neg q]at ec ⊢;exact A1 rfl (fin _ ec.symm)
 .rintro ls hd ⟨j,z3,z4,z5,hj,er,rfl,rfl⟩;have:j=N:=by
   cases q:N-j with
   |zero=>omega
   |succ m=>rw[q]at er;cases er
  subst this;refine A5 (AZ (Bo (A3 (A1 rfl (A7 (Bv rfl rfl ?_))))));have e2:((List.range j).map λw=>Ag (AW (wx p) f w))=((List.range j).map λw=>Dq (AW (wx p) f w)).map D.im:=by rw[map_map];rfl
  rw[e2,Bz];rfl
open Lt (IsMin comb behind AW sel AF Wx)
def An(n N:Nat)(f:Nat->Nat->Option Int):I:=.tup ((List.range (n+1)).map λk=>rowI N (f k))
def wxs(ws:List Wm):List Wx:=(AX ws).map λi=>(ws[i.toNat]?.map wx).getD (0,0,0)
def CB(ws:List Wm):(AX ws).Perm ((List.range ws.length).map λk:Nat=>(k:Int)):=by
 have p2:(C9 (BA ws)).Perm (BA ws):=mergeSort_perm ..;have:=p2.map (·.2);unfold AX;refine this.trans ?_;unfold BA;rw[map_map];exact .refl _
def FV{ws:List Wm}{i:Int}(h:i∈AX ws):∃k:Nat,k<ws.length/\i=k:=by
 obtain⟨k,hk,rfl⟩:=mem_map.mp ((CB ws).mem_iff.mp h);exact⟨k,by simpa using hk,rfl⟩
def Br(ws:List Wm):(AX ws).length=ws.length:=by simpa using (CB ws).length_eq
def fT(c:Int)(L:List Wx):Nat->Nat->Option Int
 |0,w=>if w=0 then some c else none
 |k+1,w=>match L[k]? with|some x=>AW x (fT c L k) w|none=>none
def Qh(c:Int)(L:List Wx):∀k,k<=L.length->∀w,IsMin (sel w (AF c L k)) (fT c L k w)
 |0,_,w=>by
  unfold fT AF sel;by_cases h:w=0
  .subst h;exact .inr ⟨c,by simp,by simp,by simp⟩
  .have:¬ (0=w):=λz=>h z.symm;simp only[if_neg h];exact .inl ⟨rfl,by simp[this]⟩
 |k+1,hk,w=>by
  have hx:L[k]?=some L[k]:=by simp[Nat.lt_of_succ_le hk]
  have ih:=Qh c L k (by omega);have e:fT c L (k+1) w=AW L[k] (fT c L k) w:=by rw[fT,hx]
  rw[e];exact Lt.next_min hx (ih w) λ_=>ih _
def aa(c:Int)(m:Nat)(L:List Wx):[I.int c]++(List.replicate m [I.non]).flatten=(List.range (m+1)).map λw=>Dq (fT c L 0 w):=by
 have e1:(List.replicate m [I.non]).flatten=List.replicate m I.non:=by
  induction m with
  |zero=>rfl
  |succ m ih=>rw[replicate_succ,flatten_cons,ih,replicate_succ];rfl
 rw[e1];refine ext_getElem (by simp) λi h1 h2=>?_;simp only[List.getElem_map,List.getElem_range];cases i with
 |zero=>rfl
 |succ i=>
  simp[fT,Dq]
def Fa{B c:Int}{ws:List Wm}(ok:okMs B c ws):0<=AT ws/\AT ws<=72:=by
 have:∀vs:List Wm,(∀w∈vs,okM B c w)->0<=AT vs/\AT vs<=9*vs.length:=by
  intro vs
  induction vs with
  |nil=>intro _;simp[AT]
  |cons v r ih=>
   intro h;have:=ih λw hw=>h w (by simp[hw]);have:=(h v (by simp)).2.2.2;simp only[AT,map_cons,sum_cons,length_cons]at *;omega
 have:=this ws ok.2.2.2;have:=ok.2.1;omega
inductive I_table_of_w(c:Int)(ws:List Wm)(r:List D)(ls:Ls)(hd:Hd):Prop
 |mk (dn rest:List Int) (z3:Option D) (h0:AX ws=dn++rest) (h1:r=intD rest) (h2:ls=[some (.im (AO ws)),some (.im (.int c)),some (.mu 0),z3]) (h3:hd=[.lst ((List.range (dn.length+1)).map λk=>D.im (rowI ((AT ws).toNat+1) (fT c (wxs ws) k))),.lst (intD (AX ws))]):I_table_of_w c ws r ls hd
def IN{B c:Int}{ws:List Wm}(ok:okMs B c ws)(hB:B<=2000):WF Db [.im (AO ws)] [] λd x=>d=.im (An ws.length ((AT ws).toNat+1) (fT c (wxs ws))):=by
 have hl8:=ok.2.1;have hf:=Fa ok;unfold Db;refine Am rfl ?_;refine AC (AQ (AK (A3 (A1 rfl (A7 ⟨by simp,(M6 ok).mono ?_⟩)))));rintro d x rfl;refine⟨_,rfl,A5 ?_⟩;refine AC (AQ (BO (Cf (A3 (A6 (B2 (A3 (A1 rfl (A7 ⟨Fb,?_⟩)))))))));refine UK (B2 (A3 (AG (A7 ⟨Fb,AK (A3 (A1 rfl (A7 ⟨by simp,(J0 ok).mono ?_⟩)))⟩))));rintro d x rfl;refine⟨_,rfl,[.non],AT ws,rfl,rfl,by simp,by omega,by simp;omega,?_⟩;rw[NT];refine N3 (by simp) (by simp;omega) ?_;rw[aa c _ (wxs ws)];refine A7 ⟨Fb,A5 ?_⟩;change WS _ [some (.im (AO ws)),some (.im (.int c)),some (.mu 0),none] [.lst [.im (rowI ((AT ws).toNat+1) (fT c (wxs ws) 0))]] _;refine AC (BN (FF (DN (A3 (A1 rfl (A7 ⟨[],[.lst [.im (rowI ((AT ws).toNat+1) (fT c (wxs ws) 0))]],rfl,rfl,by simp,rfl,(F9 ok hB).mono ?_⟩))))));rintro d x ⟨rfl,rfl⟩;refine⟨0,_,[],_,rfl,le_refl _,rfl,rfl,rfl,rfl,Cs _ _,1,intD (AX ws),rfl,rfl,?_⟩;refine B8 (I_table_of_w c ws) ⟨[],AX ws,none,rfl,rfl,rfl,rfl⟩ ?_ ?_
 .rintro d r ls hd ⟨dn,rest,z3,e1,er,rfl,rfl⟩;cases rest with
  |nil=>cases er
  |cons i rest=>
   obtain⟨rfl,rfl⟩:=List.cons.inj er;obtain⟨k,hk,rfl⟩:=FV (ws:=ws) (i:=i) (by rw[e1];simp);have hle:dn.length<ws.length:=by have:=Br ws;rw[e1]at this;simp at this;omega
   have ex:(wxs ws)[dn.length]?=some (wx ws[k]):=by
    unfold wxs;rw[e1,List.getElem?_map,List.getElem?_append_right (le_refl _)];simp[hk]
   refine⟨[some (.im (AO ws)),some (.im (.int c)),some (.mu 0),some (.im (.int (k:Int)))],rfl,?_⟩;refine C2 (HH (A1 rfl ⟨⟨_,rfl⟩,A3 (AK (A3 (A6 (A1 rfl (IL (AG ⟨_,rfl,AI rfl (e:=.im (rowI ((AT ws).toNat+1) (fT c (wxs ws) dn.length))) ?_ (A3 (A6 (A1 rfl (A1 rfl (AI (by rw[BP,Ay]) (DC hk) (A7 ⟨by simp[wmI,rowI],(Ob (ok.2.2.2 _ (List.getElem_mem hk)) (by omega) _).mono ?_⟩))))))⟩))))))⟩))
   .rw[range_succ,map_append];exact II _ _
   rintro d x rfl;refine⟨_,rfl,A7 (FP rfl (Cq (by simp;omega)) ?_)⟩;refine⟨by intro q hq;rw[mem_singleton]at hq;subst hq;rfl,dn++[(k:Int)],rest,_,by rw[e1];simp,rfl,rfl,?_⟩;have e2:AW (wx ws[k]) (fT c (wxs ws) dn.length)=fT c (wxs ws) (dn.length+1):=by
    funext w
    rw[fT,ex]
   rw[e2];simp only[length_append,length_cons,length_nil,zero_add];rw[range_succ (n:=dn.length+1),map_append];rfl
 .rintro ls hd ⟨dn,rest,z3,e1,er,rfl,rfl⟩;have:rest=[]:=by cases rest with
   |nil=>rfl
   |cons t r=>cases er
  subst this;rw[append_nil]at e1;have hle:dn.length=ws.length:=by rw[<- e1];exact Br ws
  refine A5 (AZ (Bo (A3 (A1 rfl (A7 (Bv rfl rfl ?_))))));have e2:((List.range (dn.length+1)).map λk=>D.im (rowI ((AT ws).toNat+1) (fT c (wxs ws) k)))=((List.range (dn.length+1)).map λk=>rowI ((AT ws).toNat+1) (fT c (wxs ws) k)).map D.im:=by rw[map_map];rfl
  rw[e2,Bz,hle];rfl
end T40
namespace Lt
def Co{c:Int}{L:List Wx}:∀i,(AF c L i).length<=2^i
 |0=>by simp[AF]
 |i+1=>by
  have ih:=Co (c:=c) (L:=L) i;rw[Nat.pow_succ];cases hx:L[i]? with
  |none=>
   have e:AF c L (i+1)=AF c L i++[]:=by rw[AF,hx]
   rw[e];simp;omega
  |some w=>
   have e:AF c L (i+1)=AF c L i++more i w (AF c L i):=by rw[AF,hx]
   have:(more i w (AF c L i)).length<=(AF c L i).length:=by unfold more;rw[length_map];exact List.length_filter_le _ _
   rw[e,length_append];omega
def G0{c:Int}{L:List Wx}:∀{i:Nat} {e:Lt.En},e∈AF c L i->e.2.1<=((L.take i).map λx=>x.2.2).sum
 |0,e,h=>by simp[AF]at h;rw[h];simp
 |i+1,e,h=>by
  rw[AF]at h;have mono:((L.take i).map λx=>x.2.2).sum<=((L.take (i+1)).map λx=>x.2.2).sum:=by
   rw[List.take_succ,map_append,sum_append];omega
  rcases mem_append.mp h with q|q
  .exact le_trans (G0 q) mono
  .split at q
   .next w hw=>
    obtain⟨z,hz,rfl⟩:=mem_map.mp q;have:=G0 (mem_filter.mp hz).1;have e:((L[i]?.toList).map λx:Wx=>x.2.2).sum=w.2.2:=by rw[hw];simp
    rw[List.take_succ,map_append,sum_append,e];dsimp only;omega
   .cases q
end Lt
namespace T40
open PySem L2 Bd
open Lt (IsMin comb behind AW sel AF Wx more Co)
def LI{ma mb:ME}{ls:Ls}{hd:Hd}{QA:List D->Hd->Prop}(h:WE ma ls hd λd x=>WE mb ls x λe y=>∃p q as bs,d=.mu p/\e=.mu q/\y[p]?=some (.lst as)/\y[q]?=some (.lst bs)/\Bn (as.length+bs.length)/\QA (as++bs) y):WA (Gi ma mb) ls hd QA:=by
 obtain⟨d,x,e1,e,y,e2,p,q,as,bs,rfl,rfl,e3,e4,c,h⟩:=h;refine⟨_,_,?_,h⟩;simp only[Gi,e1,bind_some,e2];simp only[e3,e4,c,if_true]
abbrev enT(z:Lt.En×Nat):D:=Ab [.im (.int (z.1.1:Int)),.im (.int (z.1.2.1:Int)),.im (.int z.1.2.2),.mu z.2]
def Refs(x:Hd)(qs:List Nat)(b:Nat):Prop:=∀q∈qs,∃ds,x[q]?=some (.lst ds)/\ds.length<=b
def HE{x:Hd}{q:Nat}{o:MO}(e:x[q]?=some o)(g:Hd):(x++g)[q]?=some o:=by
 rw[List.getElem?_append_left (List.getElem?_eq_some_iff.mp e).1];exact e
def Refs.app{x:Hd}{qs:List Nat}{b:Nat}(h:Refs x qs b)(g:Hd):Refs (x++g) qs b:=λq hq=>by
 obtain⟨ds,e,l⟩:=h q hq;exact⟨ds,HE e g,l⟩
def Gc(x:Hd)(o:MO)(g:Hd):(x++(o::g))[x.length]?=some o:=by simp
def aF(E:List (Lt.En×Nat))(p:Lt.En×Nat->Prop)[DecidablePred p]:(E.filterMap λz=>if p z then some (enT z)else none)=(E.filter λz=>decide (p z)).map enT:=by
 induction E with
 |nil=>rfl
 |cons x r ih=>
  rw[filterMap_cons,filter_cons];by_cases h:p x
  .simp[h,ih]
  .simp[h,ih]
def L8(i:Nat)(x:Wx):∀(E:List Lt.En) (qs:List Nat),qs.length=E.length->((E.zip qs).filter λz=>decide (z.1.2.2+x.1<=x.2.1)).map (λz=>((i+1,z.1.2.1+x.2.2,z.1.2.2+x.1):Lt.En))=more i x E
 |[],_,_=>by simp[more]
 |e::r,[],h=>by simp at h
 |e::r,q::qs,h=>by
  have ih:=L8 i x r qs (by simpa using h);unfold more at ih ⊢;rw[List.zip_cons_cons,filter_cons,filter_cons];by_cases c:e.2.2+x.1<=x.2.1
  .simp[c,ih]
  .simp[c,ih]
def YC{i:Nat}(h:i<=8):2^i<=256:=le_trans (Nat.pow_le_pow_right (by decide) h) (by decide)
inductive I_sets_w(ws:List Wm)(c:Int)(H0:Hd)(r:List D)(ls:Ls)(hd:Hd):Prop
 |mk (dn rest:List Int) (L:Nat) (g:Hd) (qs:List Nat) (z2 z3 z4 z5 z6 z7:Option D) (h0:AX ws=dn++rest) (h1:r=((intD rest).zipIdx dn.length).map enD) (h2:ls=[some (.im (AO ws)),some (.mu L),z2,z3,z4,z5,z6,z7]) (h3:H0.length<=L) (h4:hd=H0++([MO.lst [],.lst [enT ((0,0,c),H0.length)],.lst (intD (AX ws))]++g)) (h5:qs.length=(AF c (wxs ws) dn.length).length) (h6:hd[L]?=some (.lst (((AF c (wxs ws) dn.length).zip qs).map enT))) (h7:Refs hd qs dn.length):I_sets_w ws c H0 r ls hd
inductive J_sets(dn:List Int)(k:Nat)(p:Wm)(X:Hd)(F:List (Lt.En×Nat))(r' es:List D)(ls:Ls)(hd:Hd):Prop
 |mk (dn' rest':List (Lt.En×Nat)) (qs':List Nat) (g':Hd) (z:Option D) (h0:F=dn'++rest') (h1:r'=rest'.map enT) (h2:qs'.length=dn'.length) (h3:es=((dn'.map λz=>((dn.length+1,z.1.2.1+(wx p).2.2,z.1.2.2+(wx p).1):Lt.En)).zip qs').map enT) (h4:ls=[z,some (.im (.int (dn.length:Int))),some (.im (.tup [.str "miss",.int p.due,.int p.wt])),some (.im (.int p.len)),some (.im (.int (k:Int)))]) (h5:hd=X++[.lst (F.map enT)]++g') (h6:Refs hd qs' (dn.length+1)):J_sets dn k p X F r' es ls hd
set_option maxHeartbeats 1000000 in
def Wg{B c:Int}{ws:List Wm}(ok:okMs B c ws)(hB:B<=2000)(H0:Hd):WF JG [.im (AO ws)] H0 λd x=>∃(L:Nat) (rest:Hd) (qs:List Nat),d=.mu L/\H0.length<=L/\x=H0++rest/\qs.length=(AF c (wxs ws) ws.length).length/\x[L]?=some (.lst (((AF c (wxs ws) ws.length).zip qs).map enT)):=by
 obtain⟨hne,hl8,hc,hws⟩:=id ok;have hl0:0<ws.length:=D0 hne;unfold JG;refine Am rfl ?_;refine AC (AQ (BO (Cf (A3 (B2 (A3 (AG (A3 (AG (A3 (A6 (A6 (A1 rfl (AG (AI (by rw[BP,Ay]) (DC (k:=0) hl0) (AG (AI (ds:=[.im (.int (ws[0]).len),.im (.int (ws[0]).com),.im (.tup [.str "miss",.int (ws[0]).due,.int (ws[0]).wt])]) rfl (DM _ _ _) (A3 (BO (Cf (A7 ⟨CP,A7 ⟨Qg,A7 ⟨Fb,A5 ?_⟩⟩⟩)))))))))))))))))))));rw[(hws _ (List.getElem_mem hl0)).2.1];refine AC (BN (C3 (FF (DN (A3 (A1 rfl (A7 ⟨[],_,rfl,rfl,by simp,rfl,(Iu ok hB).mono ?_⟩)))))));rintro d x ⟨rfl,rfl⟩;refine⟨0,_,[],_,rfl,le_refl _,rfl,rfl,rfl,rfl,Cs _ _,H0.length+2,intD (AX ws),by simp,?_,?_⟩
 .simp
 have e0:H0++[MO.lst []]++[MO.lst [enT ((0,0,c),H0.length)]]++[MO.lst (intD (AX ws))]=H0++[MO.lst [],.lst [enT ((0,0,c),H0.length)],.lst (intD (AX ws))]:=by simp
 have gO:∀g:Hd,GOk (H0++([MO.lst [],.lst [enT ((0,0,c),H0.length)],.lst (intD (AX ws))]++g)) [(H0.length+2,intD (AX ws))]:=by
  intro g q hq;rw[mem_singleton]at hq;subst hq;simp
 refine B8 (I_sets_w ws c H0) ⟨[],AX ws,H0.length+1,[],[H0.length],none,none,none,none,none,none,rfl,rfl,by simp,by omega,by simp;rfl,rfl,?_,?_⟩ ?_ ?_
 .simp[AF];rfl
 .intro q hq;rw[mem_singleton]at hq;subst hq;exact⟨[],by simp,by simp⟩
 .rintro d r ls hd ⟨dn,rest,L,g,qs,z2,z3,z4,z5,z6,z7,e1,er,rfl,hL,ehd,hq,hE,hR⟩;cases rest with
  |nil=>cases er
  |cons i rest=>
   rw[show intD (i::rest)=.im (.int i)::intD rest from rfl,zipIdx_cons,map_cons]at er;obtain⟨rfl,rfl⟩:=List.cons.inj er;obtain⟨k,hk,rfl⟩:=FV (ws:=ws) (i:=i) (by rw[e1];simp);have hle:dn.length<ws.length:=by have:=Br ws;rw[e1]at this;simp at this;omega
   have ex:(wxs ws)[dn.length]?=some (wx ws[k]):=by
    unfold wxs;rw[e1,List.getElem?_map,List.getElem?_append_right (le_refl _)];simp[hk]
   have okk:=hws _ (List.getElem_mem hk);have eF:AF c (wxs ws) (dn.length+1)=AF c (wxs ws) dn.length++more dn.length (wx ws[k]) (AF c (wxs ws) dn.length):=by rw[AF,ex]
   have lenE:=Co (c:=c) (L:=wxs ws) dn.length;have p8:=YC (i:=dn.length) (by omega);generalize hEE:AF c (wxs ws) dn.length=E at *;generalize hp:ws[k]=p at *;subst ehd;generalize hX:H0++([MO.lst [],.lst [enT ((0,0,c),H0.length)],.lst (intD (AX ws))]++g)=X at *;refine⟨[some (.im (AO ws)),some (.mu L),some (.im (.int (dn.length:Int))),some (.im (.int (k:Int))),z4,z5,z6,z7],rfl,?_⟩;refine AC (IK (A6 (A1 rfl (A1 rfl (AI (by rw[BP,Ay]) (DC hk) ?_)))));rw[hp];refine⟨[some (.im (AO ws)),some (.mu L),some (.im (.int (dn.length:Int))),some (.im (.int (k:Int))),some (.im (.int p.len)),some (.im (.int p.com)),some (.im (.tup [.str "miss",.int p.due,.int p.wt])),z7],rfl,A5 ?_⟩;have lz:(E.zip qs).length=E.length:=by rw[List.length_zip,hq,min_self]
   refine AC (AQ (BO (BC (FF (A1 rfl ⟨L,_,rfl,hE,Af (by rw[length_map,lz];omega),?_⟩)))));refine Bc enT (λz=>if z.1.2.2+p.len<=p.due then some (enT z)else none) (λ_ ls=>∃x,ls=[some x,some (.im (.int p.len)),some (.im (.tup [.str "miss",.int p.due,.int p.wt]))]) _ (by intro q hq;rw[mem_singleton]at hq;subst hq;exact hE) ?_ ?_
   .rintro z hz ls hls;refine⟨[some (enT z),some (.im (.int p.len)),some (.im (.tup [.str "miss",.int p.due,.int p.wt]))],by rcases hls with rfl|⟨_,x,rfl⟩<;>rfl,⟨_,rfl⟩,?_⟩;refine AJ (A6 (A6 (A6 (A1 rfl (AG (AI rfl (Ca _ _ _ _) (A1 rfl (B7 (A6 (A1 rfl (AG (AI (ds:=[.im (.str "miss"),.im (.int p.due),.im (.int p.wt)]) rfl (DM _ _ _) (Kk ⟨_,rfl,rfl,?_⟩)))))))))))));by_cases q:z.1.2.2+p.len<=p.due
    .rw[if_pos (by simpa using q)];exact⟨_,if_pos q,A1 rfl ⟨rfl,rfl⟩⟩
    .rw[if_neg (by simpa using q)];exact if_neg q
   rw[aF];generalize hFF:(E.zip qs).filter (λz=>decide (z.1.2.2+p.len<=p.due))=F;have hFm:∀z∈F,z.2∈qs:=λz hz=>by
    rw[<- hFF]at hz;exact(of_mem_zip (mem_filter.mp hz).1).2
   have hFl:F.length<=E.length:=by rw[<- hFF,<- lz];exact List.length_filter_le _ _
   refine A5 ?_;change WS _ [some (.im (AO ws)),some (.mu L),some (.im (.int (dn.length:Int))),some (.im (.int (k:Int))),some (.im (.int p.len)),some (.im (.int p.com)),some (.im (.tup [.str "miss",.int p.due,.int p.wt])),some (.mu X.length)] (X++[.lst (F.map enT)]) _;have hXF:∀g':Hd,(X++[MO.lst (F.map enT)]++g')[X.length]?=some (.lst (F.map enT)):=λg'=>by rw[append_assoc];exact Gc X _ g'
   refine AQ (BO (LI (A1 rfl (BO (BC (FF (A1 rfl ⟨X.length,F.map enT,rfl,by simpa using hXF [],Af (by rw[length_map];omega),?_⟩)))))));refine ZP (J_sets dn k p X F) ⟨[],F,[],[],none,rfl,rfl,rfl,rfl,rfl,by simp,λq hq=>by cases hq⟩ ?_ ?_
   .rintro d r' es ls hd ⟨dn',rest',qs',g',z,e2,e3,lq,rfl,rfl,rfl,R'⟩;cases rest' with
    |nil=>cases e3
    |cons y rest'=>
     obtain⟨rfl,rfl⟩:=List.cons.inj e3;obtain⟨ds,ed,ld⟩:=hR y.2 (hFm y (by rw[e2];simp));refine⟨[some (enT y),some (.im (.int (dn.length:Int))),some (.im (.tup [.str "miss",.int p.due,.int p.wt])),some (.im (.int p.len)),some (.im (.int (k:Int)))],rfl,D4 ?_⟩;rw[if_pos rfl];refine B2 (A3 (A6 (A1 rfl (AG (B7 (A3 (A6 (A6 (A1 rfl (AG (AI rfl (DM _ _ _) (A6 (A1 rfl (AG (AI (ds:=[.im (.str "miss"),.im (.int p.due),.im (.int p.wt)]) rfl (Ca _ _ _ _) (B7 (A3 (A6 (A6 (A1 rfl (AG (AI rfl (Ca _ _ _ _) (A1 rfl (B7 (A3 (BO (LI (A6 (A1 rfl (AG (AI rfl (e:=.mu y.2) rfl (BO (Cf (A3 (A1 rfl (A7 ⟨Fb,?_⟩))))))))))))))))))))))))))))))))))));have ed':(X++[MO.lst (F.map enT)]++g'++[MO.lst [.im (.int (k:Int))]])[y.2]?=some (.lst ds):=by
      rw[append_assoc,append_assoc];exact HE ed _
     refine⟨y.2,_,ds,[.im (.int (k:Int))],rfl,rfl,ed',Gc _ _ [],Af (by simp;omega),A7 ⟨Qg,?_⟩⟩;have c1:((dn.length:Int)+1)=((dn.length+1:Nat):Int):=by omega
     have c2:((y.1.2.1:Int)+p.wt)=((y.1.2.1+(wx p).2.2:Nat):Int):=by have:=okk.2.2.2;unfold wx;dsimp only;omega
     rw[c1,c2];refine⟨by intro q hq;rw[mem_singleton]at hq;subst hq;simpa using hXF (g'++[MO.lst [.im (.int (k:Int))],.lst (ds++[.im (.int (k:Int))])]),dn'++[y],rest',qs'++[(X++[MO.lst (F.map enT)]++g'++[MO.lst [.im (.int (k:Int))]]).length],g'++[MO.lst [.im (.int (k:Int))],.lst (ds++[.im (.int (k:Int))])],_,by rw[e2];simp,rfl,by simp[lq],?_,rfl,by simp,?_⟩
     .rw[map_append,List.zip_append (by simp[lq]),map_append];rfl
     .intro q hq;rcases mem_append.mp hq with q'|q'
      .have:=(R'.app [MO.lst [.im (.int (k:Int))],.lst (ds++[.im (.int (k:Int))])]) q q';simpa using this
      .rw[mem_singleton]at q';subst q';exact⟨ds++[.im (.int (k:Int))],Gc _ _ [],by simp;omega⟩
   rintro es ls hd ⟨dn',rest',qs',g',z,e2,e3,lq,rfl,rfl,rfl,R'⟩;have er':rest'=[]:=by cases rest' with
    |nil=>rfl
    |cons t r=>cases e3
   subst er';rw[append_nil]at e2;subst e2;have eM:(F.map λz=>((dn.length+1,z.1.2.1+(wx p).2.2,z.1.2.2+(wx p).1):Lt.En))=more dn.length (wx p) E:=by
    rw[<- hFF];exact L8 dn.length (wx p) E qs hq
   rw[eM];have lM:qs'.length=(more dn.length (wx p) E).length:=by rw[<- eM,length_map];exact lq
   generalize hY:X++[MO.lst (F.map enT)]++g'=Y at *;have eL:(Y++[MO.lst (((more dn.length (wx p) E).zip qs').map enT)])[L]?=some (.lst ((E.zip qs).map enT)):=by
    rw[<- hY,append_assoc,append_assoc];exact HE hE _
   refine⟨L,Y.length,_,_,rfl,rfl,eL,Gc Y _ [],Af (by rw[length_map,length_map,lz,List.length_zip,lM,min_self];have:=hFl;rw[<- eM];simp;omega),?_⟩;rw[<- map_append,<- List.zip_append (by rw[hq]),<- eF];have hfin:Y++[MO.lst (((more dn.length (wx p) E).zip qs').map enT)]++[MO.lst (((AF c (wxs ws) (dn.length+1)).zip (qs++qs')).map enT)]=H0++([MO.lst [],.lst [enT ((0,0,c),H0.length)],.lst (intD (AX ws))]++(g++[MO.lst (F.map enT)]++g'++[MO.lst (((more dn.length (wx p) E).zip qs').map enT)]++[MO.lst (((AF c (wxs ws) (dn.length+1)).zip (qs++qs')).map enT)])):=by
    rw[<- hY,<- hX];simp
   have hlY:H0.length<=Y.length:=by rw[<- hY,<- hX];simp
   have R1:Refs (Y++[MO.lst (((more dn.length (wx p) E).zip qs').map enT)]++[MO.lst (((AF c (wxs ws) (dn.length+1)).zip (qs++qs')).map enT)]) (qs++qs') (dn.length+1):=by
    intro q hq';rcases mem_append.mp hq' with q'|q'
    .obtain⟨ds,ed,ld⟩:=hR q q';refine⟨ds,?_,by omega⟩;rw[<- hY,append_assoc,append_assoc,append_assoc];exact HE ed _
    .obtain⟨ds,ed,ld⟩:=R' q q';exact⟨ds,by rw[append_assoc];exact HE ed _,ld⟩
   refine⟨by rw[hfin];exact gO _,dn++[(k:Int)],rest,(Y++[MO.lst (((more dn.length (wx p) E).zip qs').map enT)]).length,_,qs++qs',_,_,_,_,_,_,by rw[e1];simp,by simp,rfl,by simp;omega,hfin,?_,?_,?_⟩
   .rw[length_append,length_append,hq,lM];simp only[length_append,length_cons,length_nil,zero_add];rw[eF,length_append]
   .simp only[length_append (as:=dn),length_cons,length_nil,zero_add];exact Gc _ _ []
   .simp only[length_append (as:=dn),length_cons,length_nil,zero_add];exact R1
 .rintro ls hd ⟨dn,rest,L,g,qs,z2,z3,z4,z5,z6,z7,e1,er,rfl,hL,rfl,hq,hE,hR⟩;have:rest=[]:=by cases rest with
   |nil=>rfl
   |cons t r=>cases er
  subst this;rw[append_nil]at e1;have hle:dn.length=ws.length:=by rw[<- e1];exact Br ws
  rw[hle]at hq hE;exact A5 (AZ (A1 rfl ⟨L,_,qs,rfl,hL,rfl,hq,hE⟩))
open Lt (IsMin comb behind AW sel AF Wx Co)
def C6(ws:List Wm)(k:Nat):Int:=(ws[k]?.map Wm.len).getD 0
def Kw{ws:List Wm}{k:Nat}(hk:k<ws.length):(ws[k]).len=C6 ws k:=by simp[C6,hk]
def psum{L M:List Int}(h:L.Perm M):L.sum=M.sum:=by
 induction h with
 |nil=>rfl
 |cons x _ ih=>simp[ih]
 |swap x y l=>simp;omega
 |trans _ _ ih1 ih2=>exact ih1.trans ih2
abbrev lnI(ws:List Wm)(i:Int):Int:=C6 ws i.toNat
def GO{mi:MI}{ls:Ls}{hd:Hd}{QA:List D->Hd->Prop}(h:WI mi ls hd λp x=>∃ns:List Int,p.1=intD ns/\ns.length<64/\QA (intD (B4 ns)) x):WA (C4 mi) ls hd QA:=by
 obtain⟨p,x,e,ns,e1,hl,q⟩:=h;refine⟨_,_,?_,q⟩;simp only[C4,e,bind_some,e1,Cm,hl,if_true]
def Ga(ws:List Wm):(AX ws).Nodup:=by
 refine(CB ws).nodup_iff.mpr ?_;refine List.Pairwise.map _ (λa b h=>?_) nodup_range;exact λz=>h (by omega)
def inT(ws:List Wm):Int->List Int->Prop
 |_,[]=>True
 |e,i::r=>e+lnI ws i<=Ah ws i.toNat/\inT ws (e+lnI ws i) r
abbrev Hq(ks:List Int):D:=.im (.tup (ks.map I.int))
def Nz(ks:List Int):(ks.map I.int).map D.im=intD ks:=by simp[intD]
def MP:∀{L M:List Int},L.Nodup->M.Sublist L->L.filter (λi=>decide (i∈M))=M:=by
 intro L M nd s
 induction s with
 |slnil=>rfl
 |cons a s ih=>
  obtain⟨h1,h2⟩:=nodup_cons.mp nd;rw[filter_cons,if_neg (by simpa using λz=>h1 (s.subset z))];exact ih h2
 |cons_cons a s ih=>
  rename_i M L
  obtain⟨h1,h2⟩:=nodup_cons.mp nd;rw[filter_cons,if_pos (by simp)]
  congr 1
  refine Eq.trans (List.filter_congr λx hx=>?_) (ih h2);have:x≠a:=λz=>h1 (z ▸ hx);simp[this]
def D5{n N:Nat}{f:Nat->Nat->Option Int}{k:Nat}(hk:k<n+1):atI (((List.range (n+1)).map λk=>rowI N (f k)).map D.im) (k:Int)=some (.im (rowI N (f k))):=Jo rfl (by simp[hk])
def WR{a b:Option Int}{hd:Hd}{QE:D->Hd->Prop}(q:QE (.im (.bl (!decide (a=b)))) hd):WP (gNe (Ag a) (Ag b) hd) QE:=by
 cases a with
 |none=>cases b with
  |none=>exact⟨_,_,rfl,q⟩
  |some y=>exact⟨_,_,rfl,q⟩
 |some x=>cases b with
  |none=>exact⟨_,_,rfl,q⟩
  |some y=>
   refine DQ ?_;have:decide (some x=some y)=decide (x=y):=decide_eq_decide.mpr (by simp);rw[<- this];exact q
def D3(ws:List Wm)(k:Nat):Int:=(ws[k]?.map Wm.wt).getD 0
abbrev wtI(ws:List Wm)(i:Int):Int:=D3 ws i.toNat
def Nr{ws:List Wm}{k:Nat}(hk:k<ws.length):(ws[k]).wt=D3 ws k:=by simp[D3,hk]
def Le(c:Int)(ws:List Wm)(w:Int):Option Int:=if w<0∨AT ws<w then none else fT c (wxs ws) ws.length w.toNat
def WD{a b:Option Int}(h:comb a b≠a):comb a b=b/\∃y,b=some y:=by
 cases b with
 |none=>exact absurd (by cases a<;>rfl) h
 |some y=>
  rw[Nl]at h ⊢;by_cases q:nm a (some y)=true
  .rw[if_pos q]at h;exact absurd rfl h
  .rw[if_neg q];exact⟨rfl,y,rfl⟩
def Vo{x:Wx}{f:Nat->Option Int}{w:Nat}{e:Int}(h1:AW x f w=some e)(h2:AW x f w≠f w):x.2.2<=w/\∃y,f (w-x.2.2)=some y/\e=y+x.1/\y+x.1<=x.2.1:=by
 unfold AW at h1 h2;obtain⟨h3,y,h4⟩:=WD h2;rw[h3]at h1;by_cases q:w<x.2.2
 .rw[if_pos q]at h1;cases h1
 .rw[if_neg q]at h1;refine⟨by omega,?_⟩;cases hf:f (w-x.2.2)with
  |none=>rw[hf]at h1;cases h1
  |some z=>
   rw[hf]at h1;unfold behind at h1;dsimp only at h1;split at h1
   .next c=>exact⟨z,rfl,(Option.some.inj h1).symm,c⟩
   .cases h1
def Ry(ks:List Int):B4 ks.reverse=B4 ks:=by
 have p:(B4 ks.reverse).Perm (B4 ks):=(Bx _).trans ((List.reverse_perm ks).trans (Bx ks).symm);exact p.eq_of_pairwise (le:=λa b:Int=>a<=b) (λa b _ _ h1 h2=>by omega) (Ci _) (Ci _)
open Lt (IsMin comb behind AW sel AF Wx Co)
def WO{i:Nat}{g:Int->Int->Int}{m:ME}{ls:Ls}{hd:Hd}{x:Int}{Q:Fl->Hd->Prop}(e:ls[i]?=some (some (.im (.int x))))(h:WE m ls hd λd y=>∃k,d=.im (.int k)/\Q (.nx (ls.set i (some (.im (.int (g x k)))))) y):WS (Gj i g m) ls hd Q:=by
 obtain⟨d,y,e1,k,rfl,q⟩:=h;exact⟨_,_,by unfold Gj;rw[e];simp only[e1,bind_some],q⟩
def Jc(L:List Int):Ab (intD L)=Hq L:=by
 have:intD L=(L.map I.int).map D.im:=by simp[intD]
 rw[this,Bz]
set_option maxHeartbeats 1000000 in
def QZ{B c:Int}{ws:List Wm}(ok:okMs B c ws)(hB:B<=2000)(w:Int):WF FC [.im (AO ws),.im (.int w)] [] λd x=>(Le c ws w=none/\d=.im .non)∨∃ks:List Int,d=Hq (B4 ks)/\ks.Sublist (AX ws)/\inT ws c ks/\Le c ws w=some (c+(ks.map (lnI ws)).sum)/\(ks.map (wtI ws)).sum=w:=by
 have hl8:=ok.2.1;have hf:=Fa ok;unfold FC;refine Am rfl ?_;refine AC (AQ (AK (A3 (A1 rfl (A7 ⟨by simp,(IN ok hB).mono ?_⟩)))));rintro d x rfl;refine⟨_,rfl,A5 ?_⟩;generalize hN:(AT ws).toNat+1=N;change WS _ [some (.im (AO ws)),some (.im (.int w)),some (.im (An ws.length N (fT c (wxs ws)))),none,none,none] [] _;refine AC (Ad (C0 (AJ (A6 (A1 rfl (AG (Kj ⟨_,rfl,?_⟩)))))));by_cases h0:w<0
 .rw[if_pos (by simpa using h0)];exact⟨λ_=>AZ (AG (.inl ⟨if_pos (.inl h0),rfl⟩)),λh=>by cases h⟩
 rw[if_neg (by simpa using h0)];refine C0 (AJ (A6 (A1 rfl (AK (A3 (A1 rfl (A7 ⟨by simp,(J0 ok).mono ?_⟩)))))));rintro d x rfl;refine⟨_,rfl,HF ⟨_,rfl,?_⟩⟩;by_cases h1:AT ws<w
 .rw[if_pos (by simpa using h1)];exact⟨λ_=>AZ (AG (.inl ⟨if_pos (.inr h1),rfl⟩)),λh=>by cases h⟩
 rw[if_neg (by simpa using h1)];obtain⟨u,rfl⟩:=Int.eq_ofNat_of_zero_le (show 0<=w by omega);have er:Le c ws (u:Int)=fT c (wxs ws) ws.length u:=by unfold Le;rw[if_neg (by omega)];rfl
 have hu:u<N:=by omega
 refine AJ (Bw (A6 (A6 (A1 rfl (IL (AG ⟨_,rfl,AI rfl (e:=.im (rowI N (fT c (wxs ws) ws.length))) ?_ (A1 rfl (AI rfl (CO hu) ⟨_,rfl,_,rfl,λh=>?_,λh=>AU (A5 ?_)⟩))⟩))))))
 .rw[map_map,range_succ,map_append];exact II _ _
 .have:fT c (wxs ws) ws.length u=none:=by
   cases e:fT c (wxs ws) ws.length u with
   |none=>rfl
   |some x=>rw[e]at h;simp at h
  exact AZ (AG (.inl ⟨by rw[er,this],rfl⟩))
 obtain⟨e,he⟩:∃e,fT c (wxs ws) ws.length u=some e:=by
  cases e:fT c (wxs ws) ws.length u with
  |none=>rw[e]at h;simp at h
  |some x=>exact⟨x,rfl⟩
 clear h;refine AC (AQ (BO (Cf (A7 ⟨CP,A5 ?_⟩))));change WS _ [some (.im (AO ws)),some (.im (.int (u:Int))),some (.im (An ws.length N (fT c (wxs ws)))),some (.mu 0),none,none] [.lst []] _;refine AC (BN (WW (FF (DN (A3 (A1 rfl (A7 ⟨[],[.lst []],rfl,rfl,by simp,rfl,(F9 ok hB).mono ?_⟩)))))));rintro d x ⟨rfl,rfl⟩;refine⟨0,_,[],_,rfl,le_refl _,rfl,rfl,rfl,rfl,Cs _ _,1,intD (AX ws),rfl,rfl,?_⟩;refine B8 (λr ls hd=>∃(pre post ks:List Int) (v:Nat) (x:Int) (z4 z5:Option D),AX ws=pre++post/\r=(((intD pre).zipIdx).map enD).reverse/\ls=[some (.im (AO ws)),some (.im (.int (v:Int))),some (.im (An ws.length N (fT c (wxs ws)))),some (.mu 0),z4,z5]/\hd=[.lst (intD ks.reverse),.lst (intD (AX ws))]/\ks.Sublist post/\fT c (wxs ws) pre.length v=some x/\inT ws x ks/\x+(ks.map (lnI ws)).sum=e/\(v:Int)+(ks.map (wtI ws)).sum=u/\v<=u) ⟨AX ws,[],[],u,e,none,none,by simp,rfl,rfl,rfl,.slnil,by rw[Br];exact he,trivial,by simp,by simp,le_refl _⟩ ?_ ?_
 .rintro d r ls hd ⟨pre,post,ks,v,x,z4,z5,e1,er',rfl,rfl,sb,hx,hin,hs1,hs2,hv⟩;rcases List.eq_nil_or_concat pre with rfl|⟨p,i,epre⟩
  .cases er'
  .rw[List.concat_eq_append]at epre;subst epre;have e9:(((intD (p++[i])).zipIdx).map enD).reverse=enD (.im (.int i),p.length)::(((intD p).zipIdx).map enD).reverse:=by simp[intD,List.zipIdx_append]
   obtain⟨rfl,rfl⟩:=List.cons.inj (er'.trans e9);have e1':AX ws=p++i::post:=by rw[e1];simp
   obtain⟨k,hk,rfl⟩:=FV (ws:=ws) (i:=i) (by rw[e1'];simp);have hlen:=Br ws;rw[e1']at hlen;simp only[length_append,length_cons]at hlen;have hkl:=sb.length_le;have ex:(wxs ws)[p.length]?=some (wx ws[k]):=by
    unfold wxs;rw[e1',List.getElem?_map,List.getElem?_append_right (le_refl _)];simp[hk]
   have e2:AW (wx ws[k]) (fT c (wxs ws) p.length)=fT c (wxs ws) (p.length+1):=by
    funext w
    rw[fT,ex]
   have hx:fT c (wxs ws) (p.length+1) v=some x:=by simpa using hx
   have hvN:v<N:=by omega
   have okk:=ok.2.2.2 _ (List.getElem_mem hk);have G:∀y:MO,GOk [y,MO.lst (intD (AX ws))] [(1,intD (AX ws))]:=λy q hq=>by rw[mem_singleton]at hq;subst hq;rfl
   refine⟨[some (.im (AO ws)),some (.im (.int (v:Int))),some (.im (An ws.length N (fT c (wxs ws)))),some (.mu 0),some (.im (.int (p.length:Int))),some (.im (.int (k:Int)))],rfl,?_⟩;refine Ad (AJ (A6 (A6 (A6 (A1 rfl (A6 (A1 rfl (AG (B7 ?_)))))))));rw[show(p.length:Int)+1=((p.length+1:Nat):Int) by omega];refine AI rfl (D5 (by omega)) (A1 rfl (AI rfl (CO hvN) (A6 (A6 (A1 rfl (A1 rfl (AI rfl (D5 (by omega)) (A1 rfl (AI rfl (CO hvN) (WR ⟨_,rfl,λh=>?_,λh=>?_⟩))))))))))
   .obtain⟨hw,y,fy,exy,hd⟩:=Vo (x:=wx ws[k]) (f:=fT c (wxs ws) p.length) (w:=v) (e:=x) (by rw[e2];exact hx) (by rw[e2];intro z;rw[z]at h;simp at h);refine AC (C2 (HH (A1 rfl ⟨⟨_,rfl⟩,A3 (A1 rfl (A7 (FP rfl (Cq (by simp[intD];omega)) (A5 ?_))))⟩)));have eh:([MO.lst (intD ks.reverse),.lst (intD (AX ws))]:Hd).set 0 (.lst (intD ks.reverse++[.im (.int (k:Int))]))=[.lst (intD ((k:Int)::ks).reverse),.lst (intD (AX ws))]:=by simp[intD]
    rw[eh];refine WO rfl (AK (A3 (A6 (A1 rfl (A1 rfl (AI (by rw[BP,Ay]) (DC hk) (A7 ⟨by simp[wmI],(LD _).mono ?_⟩)))))));rintro d q rfl;have h9:=okk.2.2.2;have e5:(v:Int)-(ws[k]).wt=((v-(wx ws[k]).2.2:Nat):Int):=by unfold wx at hw ⊢;dsimp only at hw ⊢;omega
    have a1:(wx ws[k]).1=lnI ws k:=Kw hk;have a2:(wx ws[k]).2.1=Ah ws k:=Gy hk;have a3:(ws[k]).wt=wtI ws k:=Nr hk;rw[a1]at exy hd;rw[a2]at hd;refine⟨_,rfl,_,rfl,G _,p,(k:Int)::post,(k:Int)::ks,v-(wx ws[k]).2.2,y,some (.im (.int (p.length:Int))),some (.im (.int (k:Int))),e1',rfl,by rw[<- e5];rfl,rfl,sb.cons_cons _,fy,⟨hd,by rw[<- exy];exact hin⟩,by rw[map_cons,sum_cons];omega,by rw[map_cons,sum_cons,<- e5,a3];omega,by omega⟩
   .have h:fT c (wxs ws) (p.length+1) v=fT c (wxs ws) p.length v:=by simpa using h
    exact AU ⟨G _,p,(k:Int)::post,ks,v,x,_,_,e1',rfl,rfl,rfl,sb.cons _,by rw[<- h];exact hx,hin,hs1,hs2,hv⟩
 .rintro ls hd ⟨pre,post,ks,v,x,z4,z5,e1,er',rfl,rfl,sb,hx,hin,hs1,hs2,hv⟩;have:pre=[]:=by
   have:=congrArg List.length er';simp[intD]at this;exact length_eq_zero_iff.mp this.symm
  subst this;have e1:AX ws=post:=e1;have hkl:=sb.length_le;rw[<- e1,Br]at hkl;have hv0:v=0/\x=c:=by
   have hx:(if v=0 then some c else none)=some x:=hx;by_cases z:v=0
   .rw[if_pos z]at hx;exact⟨z,(Option.some.inj hx).symm⟩
   .rw[if_neg z]at hx;cases hx
  obtain⟨rfl,rfl⟩:=hv0;refine A5 (AZ (CN (GO (FF (A1 rfl ⟨0,intD ks.reverse,rfl,rfl,ks.reverse,rfl,by simp;omega,_,rfl,?_⟩)))));refine .inr ⟨ks,?_,by rw[e1];exact sb,hin,by rw[er,he,hs1],by simpa using hs2⟩;rw[Jc,Ry]
open Lt (IsMin comb behind AW sel AF Wx)
def Lq(x:Int):WF DB [.im (.int x)] [] λd _=>d=.im (.bl true):=by
 unfold DB;refine Am rfl ?_;refine AZ (HI (AJ (CM (A1 rfl ⟨true,rfl,_,rfl,?_⟩))));rw[if_pos rfl];exact N4 (AJ (CM (A1 rfl ⟨false,rfl,_,rfl,rfl⟩)))
def N6{n:Int}{is:List I}(h:(is.length:Int)=n):WF CT [.im (.int n),.im (.tup is)] [] λd _=>d=.im (.bl true):=by
 unfold CT;refine Am rfl ?_;refine AZ (HI (AJ (CM (A1 rfl ⟨true,rfl,_,rfl,?_⟩))));rw[if_pos rfl];refine A6 (Bo (A3 (A1 rfl (A7 (Bv rfl rfl (A1 rfl (E5 ?_)))))));simp[h]
inductive I_shape_w(ws:List Wm)(n N:Nat)(f:Nat->Nat->Option Int)(r:List D)(ls:Ls)(hd:Hd):Prop
 |mk (dn rest:List Nat) (z4 z5 z6 z7:Option D) (h0:List.range (n+1)=dn++rest) (h1:r=((rest.map λk=>D.im (rowI N (f k))).zipIdx dn.length).map enD) (h2:ls=[some (.im (AO ws)),some (.im (An n N f)),some (.im (.tup [])),some (.im (.int (N:Int))),z4,z5,z6,z7]) (h3:hd=[]):I_shape_w ws n N f r ls hd
def UQ{B c:Int}{ws:List Wm}(ok:okMs B c ws){n N:Nat}(hn:n=ws.length)(hN:(N:Int)=AT ws+1)(f:Nat->Nat->Option Int):WF Cc [.im (AO ws),.im (An n N f),.im (.tup [])] [] λd x=>d=.im .non:=by
 unfold Cc;refine Am rfl ?_;refine AC (Ad (Bb (B6 (AK (A3 (A6 (Bo (A3 (A1 rfl (A7 (Bv rfl rfl (AG (B7 (A3 (A1 rfl (A7 ⟨by simp,(N6 (by simp[hn])).mono ?_⟩))))))))))))))) );rintro d x rfl;refine⟨_,rfl,_,rfl,(λh=>by cases h),λ_=>AU (A5 ?_)⟩;refine AC (AQ (A6 (AK (A3 (A1 rfl (A7 ⟨by simp,(J0 ok).mono ?_⟩))))));rintro d x rfl;refine⟨_,rfl,AG (B7 (A5 ?_))⟩;rw[<- hN];refine BN (C3 (Bq (A1 rfl ⟨(List.range (n+1)).map λk=>D.im (rowI N (f k)),by simp[An],?_⟩)));change WP (Aq _ _ _ ((((List.range (n+1)).map λk=>D.im (rowI N (f k))).zipIdx 0).map enD) [some (.im (AO ws)),some (.im (An n N f)),some (.im (.tup [])),some (.im (.int (N:Int))),none,none,none,none] []) _;refine B8 (I_shape_w ws n N f) ⟨[],_,none,none,none,none,rfl,rfl,rfl,rfl⟩ ?_ ?_
 .rintro d r ls hd ⟨dn,rest,z4,z5,z6,z7,e1,er,rfl,rfl⟩;cases rest with
  |nil=>cases er
  |cons k rest=>
   rw[map_cons,zipIdx_cons,map_cons]at er;obtain⟨rfl,rfl⟩:=List.cons.inj er;refine⟨[some (.im (AO ws)),some (.im (An n N f)),some (.im (.tup [])),some (.im (.int (N:Int))),some (.im (.int (dn.length:Int))),some (.im (rowI N (f k))),z6,z7],rfl,?_⟩;refine AC (Ad (Bb (B6 (AK (A3 (A1 rfl (A3 (A1 rfl (A7 ⟨by simp[rowI],(N6 (by simp)).mono ?_⟩)))))))));rintro d x rfl;refine⟨_,rfl,_,rfl,(λh=>by cases h),λ_=>AU (A5 ?_)⟩;refine BN (C3 (Bq (A1 rfl ⟨(List.range N).map λw=>Ag (f k w),by simp[rowI],?_⟩)));change WP (Aq _ _ _ ((((List.range N).map λw=>Ag (f k w)).zipIdx 0).map enD) _ []) _;refine B8 (λr ls hd=>∃(dn' rest':List Nat) (z6 z7:Option D),r=((rest'.map λw=>Ag (f k w)).zipIdx dn'.length).map enD/\ls=[some (.im (AO ws)),some (.im (An n N f)),some (.im (.tup [])),some (.im (.int (N:Int))),some (.im (.int (dn.length:Int))),some (.im (rowI N (f k))),z6,z7]/\hd=[]) ⟨[],_,z6,z7,rfl,rfl,rfl⟩ ?_ ?_
   .rintro d r ls hd ⟨dn',rest',z6,z7,er,rfl,rfl⟩;cases rest' with
    |nil=>cases er
    |cons w rest'=>
     rw[map_cons,zipIdx_cons,map_cons]at er;obtain⟨rfl,rfl⟩:=List.cons.inj er;have fin:∀r',r'=((rest'.map λw=>Ag (f k w)).zipIdx (dn'.length+1)).map enD->∃(dn'' rest'':List Nat) (y6 y7:Option D),r'=((rest''.map λw=>Ag (f k w)).zipIdx dn''.length).map enD/\[some (D.im (AO ws)),some (.im (An n N f)),some (.im (.tup [])),some (.im (.int (N:Int))),some (.im (.int (dn.length:Int))),some (.im (rowI N (f k))),some (.im (.int (dn'.length:Int))),some (Ag (f k w))]=[some (.im (AO ws)),some (.im (An n N f)),some (.im (.tup [])),some (.im (.int (N:Int))),some (.im (.int (dn.length:Int))),some (.im (rowI N (f k))),y6,y7]/\([]:Hd)=[]:=λr' e=>⟨dn'++[w],rest',_,_,by rw[e];simp,rfl,rfl⟩
     refine⟨[some (.im (AO ws)),some (.im (An n N f)),some (.im (.tup [])),some (.im (.int (N:Int))),some (.im (.int (dn.length:Int))),some (.im (rowI N (f k))),some (.im (.int (dn'.length:Int))),some (Ag (f k w))],rfl,?_⟩;refine Ad (FO (AJ (Bw (A1 rfl ⟨f k w,rfl,_,rfl,?_⟩))));cases hx:f k w with
     |none=>
      rw[if_neg (by simp)];rw[hx]at fin;exact⟨(λh=>by cases h),λ_=>AU ⟨AR _,fin _ rfl⟩⟩
     |some x=>
      rw[if_pos (by simp)];rw[hx]at fin;refine Bb (B6 (AK (A3 (A1 rfl (A7 ⟨by simp[Dq],(Lq x).mono ?_⟩)))));rintro d x rfl;exact⟨_,rfl,_,rfl,(λh=>by cases h),λ_=>AU ⟨AR _,fin _ rfl⟩⟩
   .rintro ls hd ⟨dn',rest',z6,z7,er,rfl,rfl⟩;exact⟨AR _,dn++[k],rest,_,_,_,_,by rw[e1];simp,by simp,rfl,rfl⟩
 .rintro ls hd ⟨dn,rest,z4,z5,z6,z7,e1,er,rfl,rfl⟩;rfl
def Yl(a b:Option Int):nm (comb a b) a=true:=by
 cases a with
 |none=>cases b<;>rfl
 |some x=>cases b with
  |none=>simp[comb,nm]
  |some y=>
   by_cases h:x<=y
   .simp[comb,h,nm]
   .simp[comb,h,nm];omega
def ah(a b:Option Int):nm (comb a b) b=true:=by
 cases b with
 |none=>cases a<;>rfl
 |some y=>cases a with
  |none=>simp[comb,nm]
  |some x=>
   by_cases h:x<=y
   .simp[comb,h,nm]
   .simp[comb,h,nm]
inductive I_look_row_w(p:Wm)(N:Nat)(f:Nat->Option Int)(i:I)(r:List D)(ls:Ls)(hd:Hd):Prop
 |mk (j:Nat) (z4 z5:Option D) (h0:j<=N) (h1:r=(((List.range' j (N-j)).map λw=>Ag (AW (wx p) f w)).zipIdx j).map enD) (h2:ls=[some (wmD p),some (.im (rowI N f)),some (.im (rowI N (AW (wx p) f))),some (.im i),z4,z5]) (h3:hd=[]):I_look_row_w p N f i r ls hd
def Ol{B c:Int}{p:Wm}(ok:okM B c p){N:Nat}(hN:N<=100)(f:Nat->Option Int){i:I}:WF DG [wmD p,.im (rowI N f),.im (rowI N (AW (wx p) f)),.im i] [] λd x=>d=.im .non:=by
 unfold DG;refine Am rfl ?_;refine BN (C3 (Bq (A1 rfl ⟨(List.range' 0 (N-0)).map λw=>Ag (AW (wx p) f w),by rw[Nat.sub_zero,<- List.range_eq_range'];simp[rowI],?_⟩)));change WP (Aq _ _ _ ((((List.range' 0 (N-0)).map λw=>Ag (AW (wx p) f w)).zipIdx 0).map enD) [some (wmD p),some (.im (rowI N f)),some (.im (rowI N (AW (wx p) f))),some (.im i),none,none] []) _;refine B8 (I_look_row_w p N f i) ⟨0,none,none,by omega,rfl,rfl,rfl⟩ ?_ ?_
 .rintro d r ls hd ⟨j,z4,z5,hj,er,rfl,rfl⟩;obtain⟨m,hm⟩:∃m,N-j=m+1:=by
   cases q:N-j with
   |zero=>rw[q]at er;cases er
   |succ m=>exact⟨m,rfl⟩
  rw[hm,List.range'_succ,map_cons,zipIdx_cons,map_cons]at er;obtain⟨rfl,rfl⟩:=List.cons.inj er;refine⟨[some (wmD p),some (.im (rowI N f)),some (.im (rowI N (AW (wx p) f))),some (.im i),some (.im (.int (j:Int))),some (Ag (AW (wx p) f j))],rfl,?_⟩;refine AC (Ad (Bb (B6 (AK (A3 (A1 rfl (A3 (A6 (A1 rfl (A1 rfl (AI rfl (CO (by omega)) (A7 ⟨by simp,(F1 _ _).mono ?_⟩))))))))))));rintro d x rfl;refine⟨_,rfl,_,rfl,(λh=>?_),λ_=>AU (A5 ?_)⟩
  .rw[AW,Yl]at h;cases h
  refine Ad (Bb (B6 (AK (A3 (A1 rfl (A3 (AK (A3 (A1 rfl (A3 (A1 rfl (A3 (A1 rfl (A7 ⟨by simp[wmI,rowI],(Tw ok f (by omega)).mono ?_⟩))))))))))))));rintro d x rfl;refine⟨_,rfl,A7 ⟨by simp,(F1 _ _).mono ?_⟩⟩;rintro d x rfl;refine⟨_,rfl,_,rfl,(λh=>?_),λ_=>AU ⟨AR _,j+1,_,_,by omega,by rw[show N-(j+1)=m by omega],rfl,rfl⟩⟩;rw[AW,ah]at h;cases h
 .rintro ls hd ⟨j,z4,z5,hj,er,rfl,rfl⟩;rfl
def UI{is js:List I}{hd:Hd}{QE:D->Hd->Prop}(h1:is.length+js.length<=100)(q:QE (.im (.tup (is++js))) hd):WP (Ox (.im (.tup is)) (.im (.tup js)) hd) QE:=by
 by_cases h0:is=[]
 .subst h0;refine WP.eq (z:=.im (.tup js)) (h:=hd) ?_ q;show(match AY (.im (.tup [])) (.im (.tup js)) hd with|some z=>some z|none=>HY (.im (.tup [])) (.im (.tup js)) hd)=_;have e:AY (.im (.tup [])) (.im (.tup js)) hd=none:=by
   show(match Ji (.im (.tup [])) (.im (.tup js)) hd with|some z=>some z|none=>Fz (.im (.tup [])) (.im (.tup js)) hd)=_;rw[show Ji (.im (.tup [])) (.im (.tup js)) hd=none from rfl];unfold Fz;rw[show Ae (.im (.tup []))=some []from rfl,show Ae (.im (.tup js))=some (js.map D.im)from rfl,bind_some,bind_some,if_neg (λz=>z.1 rfl)]
  rw[e];unfold HY;rw[show Ae (.im (.tup []))=some []from rfl,show Ae (.im (.tup js))=some (js.map D.im)from rfl,bind_some,bind_some,if_pos rfl,Bz]
 .obtain⟨d,x,e,q⟩:=N3 (QE:=QE) h0 h1 q;refine⟨d,x,?_,q⟩;show(match AY (.im (.tup is)) (.im (.tup js)) hd with|some z=>some z|none=>HY (.im (.tup is)) (.im (.tup js)) hd)=_;rw[e]
inductive I_places_w(c:Int)(ws:List Wm)(N:Nat)(r:List D)(ls:Ls)(hd:Hd):Prop
 |mk (dn rest:List Int) (z3 z4:Option D) (h0:AX ws=dn++rest) (h1:r=((intD rest).zipIdx dn.length).map (λq=>Ab [.im (.int ((q.2:Int)+1)),q.1])) (h2:ls=[some (.im (AO ws)),some (.im (An ws.length N (fT c (wxs ws)))),some (.im (.tup [])),z3,z4]) (h3:hd=[.lst (intD (AX ws))]):I_places_w c ws N r ls hd
def Sl{B c:Int}{ws:List Wm}(ok:okMs B c ws)(hB:B<=2000){N:Nat}(hN:N<=100)(h0:0<N):WF CL [.im (AO ws),.im (An ws.length N (fT c (wxs ws))),.im (.tup [])] [] λd x=>d=.im .non:=by
 have hl8:=ok.2.1;unfold CL;refine Am rfl ?_;refine AC (Ad (Bb (B6 (AK (A3 (A6 (A6 (A1 rfl (AG (AI rfl (D5 (k:=0) (by omega)) (AG (AI rfl (CO (w:=0) h0) (A3 (AK (A3 (A1 rfl (A7 ⟨by simp,(M6 ok).mono ?_⟩)))))))))))))))));rintro d x rfl;refine⟨_,rfl,A7 ⟨by simp,(F1 (fT c (wxs ws) 0 0) (some c)).mono ?_⟩⟩;rintro d x rfl;refine⟨_,rfl,_,rfl,(λh=>?_),λ_=>AU (A5 ?_)⟩
 .simp[fT,nm]at h
 refine BN (RV (FF (DN (A3 (A1 rfl (A7 ⟨[],[],rfl,rfl,by simp,rfl,(F9 ok hB).mono ?_⟩))))));rintro d x ⟨rfl,rfl⟩;refine⟨0,_,[],_,rfl,le_refl _,rfl,rfl,rfl,rfl,Cs _ _,0,intD (AX ws),rfl,rfl,?_⟩;refine B8 (I_places_w c ws N) ⟨[],AX ws,none,none,rfl,rfl,rfl,rfl⟩ ?_ ?_
 .rintro d r ls hd ⟨dn,rest,z3,z4,e1,er,rfl,rfl⟩;cases rest with
  |nil=>cases er
  |cons i rest=>
   rw[show intD (i::rest)=.im (.int i)::intD rest from rfl,zipIdx_cons,map_cons]at er;obtain⟨rfl,rfl⟩:=List.cons.inj er;obtain⟨k,hk,rfl⟩:=FV (ws:=ws) (i:=i) (by rw[e1];simp);have hle:dn.length<ws.length:=by have:=Br ws;rw[e1]at this;simp at this;omega
   have ex:(wxs ws)[dn.length]?=some (wx ws[k]):=by
    unfold wxs;rw[e1,List.getElem?_map,List.getElem?_append_right (le_refl _)];simp[hk]
   have e2:AW (wx ws[k]) (fT c (wxs ws) dn.length)=fT c (wxs ws) (dn.length+1):=by
    funext w
    rw[fT,ex]
   refine⟨[some (.im (AO ws)),some (.im (An ws.length N (fT c (wxs ws)))),some (.im (.tup [])),some (.im (.int ((dn.length:Int)+1))),some (.im (.int (k:Int)))],rfl,?_⟩;refine C2 (AK (A3 (A6 (A1 rfl (A1 rfl (AI (by rw[BP,Ay]) (DC hk) (A3 (A6 (A1 rfl (A6 (A1 rfl (AG (Cd ?_)))))))))))));rw[show(dn.length:Int)+1-1=(dn.length:Int) by omega];refine AI rfl (D5 (by omega)) (A3 (A6 (A1 rfl (A1 rfl ?_))));rw[show(dn.length:Int)+1=((dn.length+1:Nat):Int) by omega];refine AI rfl (D5 (by omega)) (A3 (A6 (A1 rfl (B2 (A3 (A1 rfl (A7 ⟨Fb,?_⟩)))))));rw[NT];refine UI (by simp) (A7 ⟨by simp[wmI,rowI],?_⟩);rw[<- e2];refine(Ol (ok.2.2.2 _ (List.getElem_mem hk)) hN _).mono ?_;rintro d x rfl;exact⟨_,rfl,by intro q hq;rw[mem_singleton]at hq;subst hq;rfl,dn++[(k:Int)],rest,_,_,by rw[e1];simp,by simp,rfl,rfl⟩
 .rintro ls hd ⟨dn,rest,z3,z4,e1,er,rfl,rfl⟩;rfl
def Fw{n N m:Nat}{f:Nat->Nat->Option Int}(hN:N<=100)(hm:m<N)(h1:(f n m).isSome=true)(h2:∀w,(f n w).isSome=true->w<=m):WF BW [.im (An n N f)] [] λd x=>d=.im (.int (m:Int)):=by
 unfold BW;refine Am rfl ?_;refine AZ (CN (BC (C3 (Bq (A6 (A1 rfl (IL (AG ⟨_,rfl,AI rfl (e:=.im (rowI N (f n))) ?_ ⟨(List.range N).map λw=>Ag (f n w),by simp[rowI],?_⟩⟩))))))))
 .rw[map_map,range_succ,map_append];exact II _ _
 have ez:(((List.range N).map λw=>Ag (f n w)).zipIdx.map λq=>Ab [.im (.int (q.2:Int)),q.1])=(List.range N).map λw:Nat=>D.im (.tup [.int (w:Int),Dq (f n w)]):=by
  refine ext_getElem (by simp) λi a b=>?_;simp
 rw[ez];refine⟨Af (by simp;omega),?_⟩;refine Bc (λw:Nat=>D.im (.tup [.int (w:Int),Dq (f n w)])) (λw=>if(f n w).isSome=true then some (.im (.int (w:Int)))else none) (λ_ ls=>∃x y,ls=[some x,some y]) _ (AR _) ?_ ?_
 .rintro w hw ls hls;refine⟨[some (.im (.int (w:Int))),some (Ag (f n w))],by rcases hls with rfl|⟨_,x,y,rfl⟩<;>rfl,⟨_,_,rfl⟩,?_⟩;refine AJ (Bw (A1 rfl ⟨f n w,rfl,_,rfl,rfl,?_⟩));cases hx:f n w with
  |none=>
   rw[if_neg (by simp)];exact if_neg (by simp)
  |some x=>
   rw[if_pos (by simp)];exact⟨_,if_pos (by simp),A1 rfl ⟨rfl,rfl⟩⟩
 have ei:((List.range N).filterMap λw:Nat=>if(f n w).isSome=true then some (D.im (.int (w:Int)))else none)=intD (((List.range N).filter λw:Nat=>(f n w).isSome).map λw:Nat=>(w:Int)):=by
  generalize List.range N=L
  induction L with
  |nil=>rfl
  |cons x r ih=>
   rw[filterMap_cons,filter_cons];by_cases h:(f n x).isSome=true
   .simp[h,intD]at ih ⊢;exact ih
   .simp[h,intD]at ih ⊢;exact ih
 rw[ei];have hmm:(m:Int)∈((List.range N).filter λw:Nat=>(f n w).isSome).map λw:Nat=>(w:Int):=mem_map.mpr ⟨m,mem_filter.mpr ⟨by simpa using hm,h1⟩,rfl⟩;have hne:=List.ne_nil_of_mem hmm;refine⟨_,by unfold FJ;rw[Cm,bind_some,if_neg hne],?_⟩;have ms:=F2 hne;obtain⟨w,hw,ew⟩:=mem_map.mp ms.1;have h3:=ms.2 _ hmm;have h4:=h2 w (mem_filter.mp hw).2;have:FG (((List.range N).filter λw:Nat=>(f n w).isSome).map λw:Nat=>(w:Int))=(m:Int):=by omega
 rw[this]
def Ys{B c:Int}{ws:List Wm}(ok:okMs B c ws)(hB:B<=2000){m:Nat}(hm:m<=(AT ws).toNat)(h1:(fT c (wxs ws) ws.length m).isSome=true)(h2:∀w,(fT c (wxs ws) ws.length w).isSome=true->w<=m):WF Dd [.im (AO ws),.im (An ws.length ((AT ws).toNat+1) (fT c (wxs ws)))] [] λd x=>d=.im (.int (AT ws-m)):=by
 have hf:=Fa ok;have hcl:∀f:Nat->Nat->Option Int,BB 0 [D.im (AO ws),.im (An ws.length ((AT ws).toNat+1) f),.im (.tup [])]=true:=λf=>by simp
 unfold Dd;refine Am rfl ?_;refine AC (C2 (AK (A3 (A1 rfl (A7 ⟨by simp,(M6 ok).mono ?_⟩)))));rintro d x rfl;refine⟨_,rfl,A5 ?_⟩;refine AC (C2 (AK (A3 (A1 rfl (A3 (A1 rfl (A3 (B2 (A7 ⟨CP,A7 ⟨hcl _,(UQ ok rfl (by omega) _).mono ?_⟩⟩)))))))));rintro d x rfl;refine⟨_,rfl,A5 ?_⟩;refine AC (C2 (AK (A3 (A1 rfl (A3 (A1 rfl (A3 (B2 (A7 ⟨CP,A7 ⟨hcl _,(Sl ok hB (by omega) (by omega)).mono ?_⟩⟩)))))))));rintro d x rfl;refine⟨_,rfl,A5 ?_⟩;refine AZ (A6 (AK (A3 (A1 rfl (A7 ⟨by simp,(J0 ok).mono ?_⟩)))));rintro d x rfl;refine⟨_,rfl,AK (A3 (A1 rfl (A7 ⟨by simp,(Fw (by omega) (by omega) h1 h2).mono ?_⟩)))⟩;rintro d x rfl;exact⟨_,rfl,Cd rfl⟩
open Ru
def Z3:F_ends_of=Bd.F_ends_of:=rfl
def W3:F_worth=Bd.F_worth:=rfl
def WY{ml:MA}{mb:ME}{ls:Ls}{hd:Hd}{QA:List D->Hd->Prop}(h:WA ml ls hd λds x=>WE mb ls x λe y=>∃k,e=.im (.int k)/\(0<=k/\k<=1000)/\Bn (ds.length*k.toNat)/\QA (List.replicate k.toNat ds).flatten y):WA (Je ml mb) ls hd QA:=by
 obtain⟨ds,x,e1,d,y,e2,k,rfl,h1,h2,q⟩:=h;exact⟨_,_,by simp only[Je,e1,bind_some,e2,h1,h2,and_self,if_true],q⟩
def WV{ma mb:MI}{ls:Ls}{hd:Hd}{QI:List D×Gd->Hd->Prop}(h:WI ma ls hd λp x=>WI mb ls x λq y=>GOk y p.2/\QI (List.zipWith (λx y=>Ab [x,y]) p.1 q.1,p.2++q.2) y):WI (Fq ma mb) ls hd QI:=by
 obtain⟨p,x,e1,q,y,e2,g,k⟩:=h;exact⟨_,_,by simp only[Fq,e1,bind_some,e2,g,if_true],k⟩
abbrev eN(ws:List Wm)(c:Int)(o:List Nat)(k:Nat):Int:=CV (C6 ws) c o k
def Be(w:Wm):Wk:=⟨w.len,w.com,.miss w.due w.wt⟩
def Te(ws:List Wm):Ce (ws.map Be)=AO ws:=by
 show I.tup _=I.tup _;rw[map_map];rfl
def FX(o:List Nat):(o.map λk:Nat=>I.int k).map D.im=Ge o:=by rw[map_map];rfl
def Ir{B c:Int}{ws:List Wm}(ok:okMs B c ws)(k:Nat):0<=C6 ws k:=by
 by_cases hk:k<ws.length
 .have:=(ok.2.2.2 _ (List.getElem_mem hk)).1.1;rw[Kw hk]at this;omega
 .simp[C6,hk]
def Td{B c:Int}{ws:List Wm}(ok:okMs B c ws)(k:Nat):0<=D3 ws k:=by
 by_cases hk:k<ws.length
 .have:=(ok.2.2.2 _ (List.getElem_mem hk)).2.2.2.1;rw[Nr hk]at this;omega
 .simp[D3,hk]
def LB{B c:Int}{ws:List Wm}(ok:okMs B c ws){k:Nat}(hk:k<ws.length):(ws[k]).com=c:=(ok.2.2.2 _ (List.getElem_mem hk)).2.1
abbrev DI(ws:List Wm)(c:Int)(o:List Nat)(dn:List Nat):List Int:=(List.range ws.length).map λk=>if k∈dn then eN ws c o k else 0
def PQ{ws:List Wm}{c:Int}{o dn:List Nat}{k:Nat}(hk:k<ws.length):(DI ws c o dn).set k (eN ws c o k)=DI ws c o (dn++[k]):=by
 refine ext_getElem? λi=>?_;rw[List.getElem?_set];by_cases hi:k=i
 .subst hi;simp[DI,hk]
 .by_cases hi2:i<ws.length
  .have h5:(i∈dn∨i=k)↔i∈dn:=⟨λz=>z.resolve_right (λq=>hi q.symm),.inl⟩
   simp[hi,DI,hi2,h5]
  .simp[hi,DI,hi2]
def PR{ws:List Wm}{c:Int}{o:List Nat}(pm:o.Perm (List.range ws.length)):DI ws c o o=(List.range ws.length).map (eN ws c o):=
 map_congr_left λk hk=>if_pos (pm.mem_iff.mpr hk)
def L0{ws:List Wm}{c:Int}{o dn rest:List Nat}{k:Nat}(nd:o.Nodup)(e1:o=dn++k::rest):eN ws c o k=c+(dn.map (C6 ws)).sum+C6 ws k:=by
 subst e1;exact JR λz=>(nodup_append.mp nd).2.2 _ z _ (by simp) rfl
inductive I_run(ws:List Wm)(c:Int)(o:List Nat)(r:List D)(ls:Ls)(hd:Hd):Prop
 |mk (dn rest:List Nat) (z4:Option D) (t:Int) (h0:o=dn++rest) (h1:r=Ge rest) (h2:ls=[some (.im (AO ws)),some (.im (Cy o)),some (.mu 0),some (.im (.int t)),z4]) (h3:hd=[.lst (intD (DI ws c o dn))]) (h4:max t c=c+(dn.map (C6 ws)).sum):I_run ws c o r ls hd
def OK{B c:Int}{ws:List Wm}(ok:okMs B c ws){o:List Nat}(pm:o.Perm (List.range ws.length)):WF Eb [.im (AO ws),.im (Cy o)] [] λd x=>d=.im (DV ((List.range ws.length).map (eN ws c o))):=by
 have hn:=ok.2.1;have hc:=ok.2.2.1;have nd:o.Nodup:=pm.nodup_iff.mpr nodup_range;unfold Eb;refine Am rfl ?_;refine AC (AQ (BO (WY (Cf (A3 (AG (A7 ⟨Af (by simp),?_⟩)))))));refine Bo (A3 (A1 rfl (A7 (Bv rfl rfl ⟨_,rfl,by simp;omega,Af (by simp;omega),A5 ?_⟩))));have e0:(List.replicate (Int.toNat (((ws.map wmI).map D.im).length:Int)) [D.im (.int 0)]).flatten=intD (DI ws c o []):=by
  simp only[intD,DI,length_map,toNat_natCast,map_map,Function.comp_def,not_mem_nil,if_false];rw[show(λ_:Nat=>D.im (.int 0))=Function.const Nat (D.im (.int 0))from rfl,List.map_const,List.length_range];simp
 rw[e0];refine AC (AQ (AG (A5 ?_)));refine AC (BN (Bq (A1 rfl ⟨_,rfl,?_⟩)));rw[FX];refine B8 (I_run ws c o) ⟨[],o,none,0,rfl,rfl,rfl,rfl,by simp;omega⟩ ?_ ?_
 .rintro d r ls hd ⟨dn,rest,z4,t,e1,er,rfl,rfl,ht⟩;cases rest with
  |nil=>cases er
  |cons k rest=>
   obtain⟨rfl,rfl⟩:=List.cons.inj er;have hk:k<ws.length:=by simpa using pm.mem_iff.mp (show k∈o by rw[e1];simp)
   refine⟨_,rfl,?_⟩;dsimp only[set_cons_zero,set_cons_succ];refine AC (AQ (A6 (Bo (A3 (A1 rfl (A3 (A6 (A6 (A1 rfl (A1 rfl (AI (by rw[BP,Ay]) (DC hk) (AG (AI (ds:=[.im (.int (ws[k]).len),.im (.int (ws[k]).com),.im (.tup [.str "miss",.int (ws[k]).due,.int (ws[k]).wt])]) rfl (DM _ _ _) (A7 (UG ?_)))))))))))))));rw[LB ok hk];refine A6 (A6 (A1 rfl (A1 rfl (AI (by rw[BP,Ay]) (DC hk) (AG (AI (ds:=[.im (.int (ws[k]).len),.im (.int (ws[k]).com),.im (.tup [.str "miss",.int (ws[k]).due,.int (ws[k]).wt])]) rfl (TY _ _) (B7 (A5 ?_))))))));rw[Kw hk,ht,<- L0 nd e1];have hix:ixN (intD (DI ws c o dn)).length (k:Int)=some k:=by
    unfold ixN;simp[intD,hk]
   refine UF (A1 rfl (A1 rfl (A1 rfl ⟨0,(k:Int),k,_,rfl,rfl,rfl,hix,?_⟩)));refine⟨AR _,dn++[k],rest,_,_,by rw[e1];simp,rfl,rfl,?_,?_⟩
   .show [MO.lst _]=[MO.lst _]
    congr 2
    rw[<- PQ hk,intD,intD,List.map_set]
   .rw[L0 nd e1];have:0<=(dn.map (C6 ws)).sum:=by
     have:=JK (f:=λi:Int=>C6 ws i.toNat) (λi=>Ir ok _) (List.nil_sublist (dn.map λk:Nat=>(k:Int)));simpa [map_map,Function.comp_def]using this
    have:=Ir ok k;simp only[map_append,sum_append,map_cons,map_nil,sum_cons,sum_nil];omega
 .rintro ls hd ⟨dn,rest,z4,t,e1,er,rfl,rfl,ht⟩;have:rest=[]:=by cases rest with
   |nil=>rfl
   |cons t r=>cases er
  subst this;rw[append_nil]at e1;subst e1;refine A5 (AZ (Bo (A3 (A1 rfl (A7 (Bv rfl rfl ?_))))));rw[PR pm];exact Jc _
def MQ{B c:Int}{ws:List Wm}(ok:okMs B c ws){o:List Nat}(pm:o.Perm (List.range ws.length)):∀(rest dn:List Nat) (t:Int),o=dn++rest->max t c=c+(dn.map (C6 ws)).sum->EX (DI ws c o dn) (DJ (ws.map Be) rest t)=DI ws c o o
 |[],dn,t,e,_=>by rw[append_nil]at e;subst e;rfl
 |k::rest,dn,t,e,ht=>by
  have nd:o.Nodup:=pm.nodup_iff.mpr nodup_range;have hk:k<ws.length:=by simpa using pm.mem_iff.mp (show k∈o by rw[e];simp)
  have e1:(ws.map Be)[k]?=some (Be ws[k]):=by simp[hk]
  have e2:(if t>(Be ws[k]).com then t else(Be ws[k]).com)=c+(dn.map (C6 ws)).sum:=by
   rw[<- ht,show(Be ws[k]).com=c from LB ok hk];split<;>omega
  rw[DJ,e1];show EX _ ((k,(if t>(Be ws[k]).com then t else(Be ws[k]).com),(if t>(Be ws[k]).com then t else(Be ws[k]).com)+(Be ws[k]).len)::DJ _ rest ((if t>(Be ws[k]).com then t else(Be ws[k]).com)+(Be ws[k]).len))=_;rw[e2,show(Be ws[k]).len=C6 ws k from Kw hk,<- L0 nd e,EX];dsimp only;rw[PQ hk];refine MQ ok pm rest (dn++[k]) _ (by rw[e];simp) ?_;rw[L0 nd e];have:0<=(dn.map (C6 ws)).sum:=by
   have:=JK (f:=λi:Int=>C6 ws i.toNat) (λi=>Ir ok _) (List.nil_sublist (dn.map λk:Nat=>(k:Int)));simpa [map_map,Function.comp_def]using this
  have:=Ir ok k;simp only[map_append,sum_append,map_cons,map_nil,sum_cons,sum_nil];omega
def NC{ws:List Wk}:∀{ks:List Nat} {e:Int},∀p∈DJ ws ks e,p.1<ws.length
 |[],e,p,h=>by simp[DJ]at h
 |k::ks,e,p,h=>by
  rw[DJ]at h;cases q:ws[k]? with
  |none=>rw[q]at h;cases h
  |some w=>
   rw[q]at h;rcases mem_cons.mp h with rfl|h
   .exact(List.getElem?_eq_some_iff.mp q).1
   .exact NC p h
def UM{B c:Int}{ws:List Wm}(ok:okMs B c ws){o:List Nat}(pm:o.Perm (List.range ws.length)):∃p,(∃g,cm [.im (AO ws),.im (Cy o)] []=some (.im p,g))/\(∃g,F_ends_of [.im (AO ws),.im p] []=some (.im (DV ((List.range ws.length).map (eN ws c o))),g)):=by
 have hn:=ok.2.1;have hl:o.length=ws.length:=by simpa using pm.length_eq
 obtain⟨g,e1⟩:=Wp (ws.map Be) o (λk hk=>by simpa using pm.mem_iff.mp hk) (by omega);obtain⟨g2,e2⟩:=Oy (ws.map Be) (DJ (ws.map Be) o 0) (λp hp=>NC p hp) (by simp;omega);rw[Te]at e1 e2;refine⟨_,⟨g,e1⟩,g2,?_⟩;rw[Z3,e2];have h0:List.replicate (ws.map Be).length (0:Int)=DI ws c o []:=by
  refine ext_getElem? λi=>?_;by_cases hi:i<ws.length
  .simp[DI,hi]
  .simp[DI,hi]
 rw[h0,MQ ok pm o [] 0 rfl (by have:=ok.2.2.1;simp;omega),PR pm]
def Iv(ws:List Wm)(e:Nat->Int):Int:=((List.range ws.length).map λk=>if e k<=Ah ws k then 0 else D3 ws k).sum
def UJ{B c:Int}{ws:List Wm}(ok:okMs B c ws)(e:Nat->Int):F_worth [.im (AO ws),.im (DV ((List.range ws.length).map e)),.im (.str "sum")] []=some (.im (.int (Iv ws e)),[]):=by
 have hw:∀w∈ws.map Be,w.cost.wok:=λw hw=>by
  obtain⟨v,hv,rfl⟩:=mem_map.mp hw;have:=(ok.2.2.2 v hv).2.2.2;exact⟨this.1,by have:=this.2;show v.wt<=1000000;omega⟩
 have q:=PL (ws.map Be) ((List.range ws.length).map e) hw (by have:=ok.2.1;simp;omega);rw[Te]at q;rw[W3,q]
 congr 5
 unfold EF;refine ext_getElem (by simp) λi a b=>?_;simp only[length_map,List.length_range]at b;simp only[List.getElem_zipWith,List.getElem_map,List.getElem_range,Be,Cost.at];rw[Gy b,Nr b];by_cases h:e i<=Ah ws i
 .rw[if_pos (by omega),if_pos h]
 .rw[if_neg (by omega),if_neg h]
open Lt (IsMin comb behind AW sel AF Wx)
def HN(L:List Nat):Ge L=intD (L.map λk:Nat=>(k:Int)):=by simp[Ge,intD]
def Hj:∀ns:List Int,PyData.eqvAll (ns.map PyData.int) (ns.map PyData.int)=true
 |[]=>by simp[PyData.eqvAll]
 |n::r=>by simp[PyData.eqvAll,PyData.eqv,Hj r]
def JA:∀ns:List Int,PyData.depthAll (ns.map PyData.int)=0
 |[]=>by simp[PyData.depthAll]
 |n::r=>by simp[PyData.depthAll,PyData.depth,JA r]
def TU(ns:List Int)(hd:Hd)(neg:Bool):G5 neg (.list (ns.map PyData.int)) (.list (ns.map PyData.int)) hd=some (.im (.bl (!neg)),hd):=by
 unfold G5;rw[if_pos]
 .simp[PyData.eqv,Hj]
 .refine⟨IC ns,IC ns,?_⟩;simp[PyData.depth,JA]
def Jq{neg:Bool}{ma ml:MA}{ls:Ls}{hd:Hd}{QE:D->Hd->Prop}{ns:List Int}(h:WA ma ls hd λes x=>es=intD ns/\WA ml ls x λds y=>ds=intD ns/\QE (.im (.bl (!neg))) y):WE (ET neg ma ml) ls hd QE:=by
 obtain⟨es,x,e1,rfl,ds,y,e2,rfl,q⟩:=h;refine⟨_,y,?_,q⟩;unfold ET;rw[e1];simp only[bind_some,e2];simp only[intD,DZ,bind_some,Do,TU]
def IT{o:List Nat}{n:Nat}(pm:o.Perm (List.range n)):B4 (o.map λk:Nat=>(k:Int))=(List.range n).map λk:Nat=>(k:Int):=by
 refine((Bx _).trans (pm.map _)).eq_of_pairwise (le:=(·<=·)) (λa b _ _ h1 h2=>le_antisymm h1 h2) (Ci _) ?_;rw[pairwise_map];exact List.pairwise_lt_range.imp λh=>by omega
abbrev wA(ws:List Wm)(k:Nat):Wm:=(ws[k]?).getD ⟨0,0,0,0⟩
def WZ(ws:List Wm)(k:Nat):(wA ws k).due=Ah ws k:=by unfold wA Ah;cases ws[k]?<;>rfl
def ZQ(ws:List Wm)(k:Nat):(wA ws k).wt=D3 ws k:=by unfold wA D3;cases ws[k]?<;>rfl
def aV(ws:List Wm)(e:Nat->Int):List.zipWith (λx y=>Ab [x,y]) (ws.map wmD) (intD ((List.range ws.length).map e))=(List.range ws.length).map λk=>D.im (.tup [wmI (wA ws k),.int (e k)]):=by
 refine ext_getElem (by simp[intD]) λi a b=>?_;simp only[length_map,List.length_range]at b;simp[intD,wA,b]
def M7(ws:List Wm)(e:Nat->Int):∀L:List Nat,∃ns:List Int,(L.filterMap λk=>if Ah ws k<e k then some (D.im (.int (D3 ws k)))else none)=intD ns/\ns.sum=(L.map λk=>if e k<=Ah ws k then 0 else D3 ws k).sum
 |[]=>⟨[],rfl,rfl⟩
 |k::r=>by
  obtain⟨ns,h1,h2⟩:=M7 ws e r;rw[filterMap_cons,map_cons,sum_cons];by_cases h:Ah ws k<e k
  .refine⟨D3 ws k::ns,?_,?_⟩
   .rw[if_pos h,h1];simp[intD]
   .rw[if_neg (by omega),sum_cons,h2]
  .refine⟨ns,by rw[if_neg h,h1],?_⟩;rw[if_pos (by omega),h2];omega
def Kf{B c:Int}{ws:List Wm}(ok:okMs B c ws)(e:Nat->Int):WF DH [.im (AO ws),.im (DV ((List.range ws.length).map e))] [] λd x=>d=.im (.int (Iv ws e)):=by
 have hn:=ok.2.1;unfold DH;refine Am rfl ?_;refine AZ (CN (BC (WV (Bq (A1 rfl ⟨ws.map wmD,by rw[<- Ay];rfl,Bq (A1 rfl ⟨intD ((List.range ws.length).map e),by rw[<- Nz];rfl,AR _,?_⟩)⟩)))));rw[aV];refine⟨Af (by simp;omega),?_⟩;refine Bc (λk:Nat=>D.im (.tup [wmI (wA ws k),.int (e k)])) (λk=>if Ah ws k<e k then some (D.im (.int (D3 ws k)))else none) (λ_ ls=>∃x y,ls=[some x,some y]) _ (AR _) ?_ ?_
 .rintro k hk ls hls;refine⟨[some (wmD (wA ws k)),some (.im (.int (e k)))],by rcases hls with rfl|⟨_,x,y,rfl⟩<;>rfl,⟨_,_,rfl⟩,?_⟩;refine AJ (A6 (A1 rfl (A6 (A6 (A1 rfl (AG (AI (ds:=[.im (.int (wA ws k).len),.im (.int (wA ws k).com),.im (.tup [.str "miss",.int (wA ws k).due,.int (wA ws k).wt])]) rfl (Ca _ _ _ _) (AG (AI (ds:=[.im (.str "miss"),.im (.int (wA ws k).due),.im (.int (wA ws k).wt)]) rfl (DM _ _ _) (HF ⟨_,rfl,rfl,?_⟩))))))))));rw[WZ];by_cases h:Ah ws k<e k
  .rw[if_pos (by simpa using h)];refine⟨_,if_pos h,A6 (A6 (A1 rfl (AG (AI (ds:=[.im (.int (wA ws k).len),.im (.int (wA ws k).com),.im (.tup [.str "miss",.int (wA ws k).due,.int (wA ws k).wt])]) rfl (Ca _ _ _ _) (AG (AI (ds:=[.im (.str "miss"),.im (.int (wA ws k).due),.im (.int (wA ws k).wt)]) rfl (Ca _ _ _ _) ⟨rfl,?_⟩))))))⟩;rw[ZQ]
  .rw[if_neg (by simpa using h)];exact if_neg h
 obtain⟨ns,h1,h2⟩:=M7 ws e (List.range ws.length);rw[h1];refine⟨_,by unfold DU;rw[Cm];rfl,?_⟩;show D.im (.int ns.sum)=_;rw[h2];rfl
def QV{n:Nat}(n8:n<=8){o:List Nat}(pm:o.Perm (List.range n)):WF FB [.im (.int (n:Int)),.im (Cy o)] [] λd x=>d=.im (.bl true):=by
 have ol:o.length=n:=by simpa using pm.length_eq
 unfold FB;refine Am rfl ?_;refine AC (Ad (C0 (Bb (B6 (CM (A1 rfl ⟨true,rfl,_,rfl,?_⟩))))));rw[if_neg (by simp)];refine AJ (A6 (Bo (A3 (A1 rfl (A7 (Bv rfl rfl (A1 rfl (DQ ⟨_,rfl,(λh=>by simp[ol]at h),λ_=>AU (A5 ?_)⟩))))))));refine AC (BN (Bq (A1 rfl ⟨_,rfl,?_⟩)));rw[FX];refine B8 (λr ls hd=>∃(rest:List Nat) (z2:Option D),r=Ge rest/\ls=[some (.im (.int (n:Int))),some (.im (Cy o)),z2]/\hd=[]) ⟨o,none,rfl,rfl,rfl⟩ ?_ ?_
 .rintro d r ls hd ⟨rest,z2,er,rfl,rfl⟩;cases rest with
  |nil=>cases er
  |cons k rest=>
   obtain⟨rfl,rfl⟩:=List.cons.inj er;refine⟨[some (.im (.int (n:Int))),some (.im (Cy o)),some (.im (.int (k:Int)))],rfl,?_⟩;refine Ad (C0 (Bb (B6 (CM (A1 rfl ⟨true,rfl,_,rfl,?_⟩)))));rw[if_neg (by simp)];exact B6 (CM (A1 rfl ⟨false,rfl,_,rfl,(λh=>by cases h),λ_=>AU ⟨AR _,rest,_,rfl,rfl,rfl⟩⟩))
 .rintro ls hd ⟨rest,z2,er,rfl,rfl⟩;refine A5 (AZ (Jq (ns:=(List.range n).map λk:Nat=>(k:Int)) (GO (Bq (A1 rfl ⟨_,rfl,o.map λk:Nat=>(k:Int),?_,by simp;omega,?_⟩)))))
  .show(o.map λk:Nat=>I.int (k:Int)).map D.im=_;rw[FX,HN]
  refine⟨by rw[IT pm],N5 (k:=(n:Int)) (by simp) (Lb (by omega) (by omega)) ⟨?_,rfl⟩⟩;rw[toNat_natCast,EQ,HN]
def On{ws:List Wm}(n8:ws.length<=8){o:List Nat}(pm:o.Perm (List.range ws.length)):WF Ed [.im (AO ws),.im (.tup []),.im (Cy o)] [] λd x=>d=.im (.bl true):=by
 have ol:o.length=ws.length:=by simpa using pm.length_eq
 unfold Ed;refine Am rfl ?_;refine AC (Ad (C0 (Bb (B6 (CM (A1 rfl ⟨_,rfl,_,rfl,?_⟩))))));rw[if_neg (by decide)];refine Bb (B6 (CN (BC (Bq (A1 rfl ⟨_,rfl,Af (by simp;omega),?_⟩)))));rw[FX];refine Bc (λk:Nat=>D.im (.int (k:Int))) (λ_=>some (.im (.bl true))) (λ_ ls=>∃x,ls=[some x]) _ (AR _) ?_ ?_
 .rintro k hk ls hls;refine⟨[some (.im (.int (k:Int)))],by rcases hls with rfl|⟨_,x,rfl⟩<;>rfl,⟨_,rfl⟩,D4 ⟨rfl,?_⟩⟩;rw[if_pos rfl];refine⟨_,rfl,AK (A3 (A1 rfl (A7 ⟨by simp,(Lq (k:Int)).mono ?_⟩)))⟩;rintro d x rfl;exact⟨_,rfl,rfl,rfl⟩
 have e:(o.filterMap λ_=>some (D.im (.bl true)))=blD (o.map λ_=>true):=by simp[blD]
 rw[e];refine⟨_,by rw[Go,show CK (blD _)=some _ from IH _];rfl,_,rfl,(λh=>by simp at h),λ_=>AU (A5 ?_)⟩;refine AC (Ad (AJ (Jq (ns:=(List.range ws.length).map λk:Nat=>(k:Int)) (GO (Bq (A1 rfl ⟨_,rfl,o.map λk:Nat=>(k:Int),?_,by simp;omega,?_⟩))))))
 .show(o.map λk:Nat=>I.int (k:Int)).map D.im=_;rw[FX,HN]
 refine⟨by rw[IT pm],N5 (k:=(ws.length:Int)) (by simp[BR]) (Lb (by omega) (by omega)) ⟨?_,_,rfl,(λh=>by cases h),λ_=>AU (A5 ?_)⟩⟩
 .rw[toNat_natCast,EQ,HN]
 refine AZ (CN (BC (Bq (A1 rfl ⟨[],rfl,Af (by simp),?_⟩))));refine Bc (λk:Nat=>D.im (.int (k:Int))) (λ_=>some (.im (.bl true))) (λ_ ls=>True) (xs:=[]) _ (AR _) (λk hk=>by cases hk) ?_;exact⟨_,rfl,rfl⟩
def Yt{n N m:Nat}{f:Nat->Nat->Option Int}(hN:N<=100)(hm:m<N)(h1:(f n m).isSome=true)(h2:∀w,(f n w).isSome=true->w<=m):WF Mk [.im (An n N f)] [] λd x=>d=.im (.int (m:Int)):=Fw hN hm h1 h2
def WB(a:Option Int):WF Ee [Ag a] [] λd x=>d=.im (.bl true):=by
 unfold Ee;refine Am rfl ?_;refine AZ (PM (AJ (Bw (A1 rfl ⟨a,rfl,_,rfl,?_⟩))));cases a with
 |none=>rw[if_pos (by simp)]
 |some x=>
  rw[if_neg (by simp)];refine HI (AJ (CM (A1 rfl ⟨true,rfl,_,rfl,?_⟩)));rw[if_pos rfl];exact N4 (AJ (CM (A1 rfl ⟨false,rfl,_,rfl,rfl⟩)))
open Lt (IsMin comb behind AW sel AF Wx)
abbrev csD(p:Wm):D:=.im (.tup [.str "miss",.int p.due,.int p.wt])
def T3{B c:Int}{ws:List Wm}(ok:okMs B c ws){n N:Nat}(hn:n=ws.length)(hN:(N:Int)=AT ws+1)(f:Nat->Nat->Option Int):WF He [.im (AO ws),.im (An n N f),.im (.tup [])] [] λd x=>d=.im .non:=by
 have hl8:=ok.2.1;unfold He;refine Am rfl ?_;refine AC (AQ (CN (BC (Bq (A1 rfl ⟨_,rfl,?_⟩)))));rw[Ay];refine⟨Af (by simp;omega),?_⟩;refine Bc wmD (λw=>some (.im (.int w.wt))) (λ_ ls=>∃x,ls=[some x]) _ (AR _) ?_ ?_
 .rintro p hp ls hls;refine⟨[some (wmD p)],by rcases hls with rfl|⟨_,x,rfl⟩<;>rfl,⟨_,rfl⟩,D4 ⟨rfl,?_⟩⟩;rw[if_pos rfl];exact⟨_,rfl,A6 (A6 (A1 rfl (AG (AI (ds:=[.im (.int p.len),.im (.int p.com),csD p]) rfl (Ca _ _ _ _) (AG (AI (ds:=[.im (.str "miss"),.im (.int p.due),.im (.int p.wt)]) rfl (Ca _ _ _ _) ⟨rfl,rfl⟩))))))⟩
 have e:(ws.filterMap λw=>some (D.im (.int w.wt)))=intD (ws.map Wm.wt):=by simp[intD]
 rw[e];refine⟨_,by unfold DU;rw[Cm];rfl,A5 ?_⟩;change WS _ [some (.im (AO ws)),some (.im (An n N f)),some (.im (.tup [])),some (.im (.int (AT ws))),none,none,none,none] [] _;refine AC (Ad (C0 (Bb (B6 (CM (A1 rfl ⟨true,rfl,_,rfl,?_⟩))))));rw[if_neg (by simp)];refine AJ (A6 (Bo (A3 (A1 rfl (A7 (Bv rfl rfl (A6 (Bo (A3 (A1 rfl (A7 (Bv rfl rfl (AG (B7 (DQ ⟨_,rfl,(λh=>by simp[hn]at h),λ_=>AU (A5 ?_)⟩)))))))))))))));refine AC (BN (C3 (Bq (A1 rfl ⟨(List.range (n+1)).map λk=>D.im (rowI N (f k)),by simp[An],?_⟩))));change WP (Aq _ _ _ ((((List.range (n+1)).map λk=>D.im (rowI N (f k))).zipIdx 0).map enD) [some (.im (AO ws)),some (.im (An n N f)),some (.im (.tup [])),some (.im (.int (AT ws))),none,none,none,none] []) _;refine B8 (λr ls hd=>∃(dn rest:List Nat) (z4 z5 z6 z7:Option D),r=((rest.map λk=>D.im (rowI N (f k))).zipIdx dn.length).map enD/\ls=[some (.im (AO ws)),some (.im (An n N f)),some (.im (.tup [])),some (.im (.int (AT ws))),z4,z5,z6,z7]/\hd=[]) ⟨[],_,none,none,none,none,rfl,rfl,rfl⟩ ?_ ?_
 .rintro d r ls hd ⟨dn,rest,z4,z5,z6,z7,er,rfl,rfl⟩;cases rest with
  |nil=>cases er
  |cons k rest=>
   rw[map_cons,zipIdx_cons,map_cons]at er;obtain⟨rfl,rfl⟩:=List.cons.inj er;refine⟨[some (.im (AO ws)),some (.im (An n N f)),some (.im (.tup [])),some (.im (.int (AT ws))),some (.im (.int (dn.length:Int))),some (.im (rowI N (f k))),z6,z7],rfl,?_⟩;refine AC (Ad (C0 (Bb (B6 (CM (A1 rfl ⟨true,rfl,_,rfl,?_⟩))))));rw[if_neg (by simp)];refine AJ (A6 (Bo (A3 (A1 rfl (A7 (Bv (ds:=(List.range N).map λw=>Ag (f k w)) (by simp[rowI]) rfl (A6 (A1 rfl (AG (B7 (DQ ⟨_,rfl,(λh=>by simp at h;omega),λ_=>AU (A5 ?_)⟩)))))))))));refine BN (C3 (Bq (A1 rfl ⟨(List.range N).map λw=>Ag (f k w),by simp[rowI],?_⟩)));change WP (Aq _ _ _ ((((List.range N).map λw=>Ag (f k w)).zipIdx 0).map enD) _ []) _;refine B8 (λr ls hd=>∃(dn' rest':List Nat) (z6 z7:Option D),r=((rest'.map λw=>Ag (f k w)).zipIdx dn'.length).map enD/\ls=[some (.im (AO ws)),some (.im (An n N f)),some (.im (.tup [])),some (.im (.int (AT ws))),some (.im (.int (dn.length:Int))),some (.im (rowI N (f k))),z6,z7]/\hd=[]) ⟨[],_,z6,z7,rfl,rfl,rfl⟩ ?_ ?_
   .rintro d r ls hd ⟨dn',rest',z6,z7,er,rfl,rfl⟩;cases rest' with
    |nil=>cases er
    |cons w rest'=>
     rw[map_cons,zipIdx_cons,map_cons]at er;obtain⟨rfl,rfl⟩:=List.cons.inj er;refine⟨[some (.im (AO ws)),some (.im (An n N f)),some (.im (.tup [])),some (.im (.int (AT ws))),some (.im (.int (dn.length:Int))),some (.im (rowI N (f k))),some (.im (.int (dn'.length:Int))),some (Ag (f k w))],rfl,?_⟩;refine Ad (Bb (B6 (AK (A3 (A1 rfl (A7 ⟨by cases f k w<;>simp[Dq],(WB (f k w)).mono ?_⟩))))));rintro d x rfl;exact⟨_,rfl,_,rfl,(λh=>by cases h),λ_=>AU ⟨AR _,dn'++[w],rest',_,_,by simp,rfl,rfl⟩⟩
   .rintro ls hd ⟨dn',rest',z6,z7,er,rfl,rfl⟩;exact⟨AR _,dn++[k],rest,_,_,_,_,by simp,rfl,rfl⟩
 .rintro ls hd ⟨dn,rest,z4,z5,z6,z7,er,rfl,rfl⟩;exact A5 (AZ (AG rfl))
def Qb{B c:Int}{p:Wm}(ok:okM B c p){N:Nat}(f:Nat->Option Int){w:Nat}(hw:w<N):WF FE [.im (rowI N f),.im (.int (w:Int)),wmD p] [] λd x=>d=Ag (AW (wx p) f w):=by
 have h0:=ok.2.2.2;unfold FE;refine Am rfl ?_;refine AC (IK (A1 rfl ⟨[some (.im (rowI N f)),some (.im (.int (w:Int))),some (wmD p),some (.im (.int p.len)),some (.im (.int p.com)),some (csD p),none],rfl,A5 ?_⟩));refine AC (AQ (A6 (A1 rfl (A1 rfl (AI rfl (CO hw) (A5 ?_))))));refine AC (Ad (FO (AJ (A6 (A1 rfl (A6 (A1 rfl (AG (AI (ds:=[.im (.str "miss"),.im (.int p.due),.im (.int p.wt)]) rfl (Ca _ _ _ _) (ZO ⟨_,rfl,?_⟩))))))))));by_cases q:w<(wx p).2.2
 .have q':¬ (w:Int)>=p.wt:=by unfold wx at q;dsimp only at q;omega
  rw[if_neg (by simpa using q')];refine⟨(λh=>by cases h),λ_=>AU (A5 (AZ (A1 rfl ?_)))⟩;unfold AW;rw[if_pos q];rfl
 .have q':(w:Int)>=p.wt:=by unfold wx at q;dsimp only at q;omega
  rw[if_pos (by simpa using q')];have ek:(w:Int)-p.wt=((w-(wx p).2.2:Nat):Int):=by unfold wx at q ⊢;dsimp only at q ⊢;omega
  have hk:w-(wx p).2.2<N:=by omega
  have look:∀{ls:Ls} {hd:Hd} {QE:D->Hd->Prop},ls[0]?=some (some (.im (rowI N f)))->ls[1]?=some (some (.im (.int (w:Int))))->ls[5]?=some (some (csD p))->QE (Ag (f (w-(wx p).2.2))) hd->WE (mOp gIx (A0 0) (mOp BM (A0 1) (mOp gIx (A0 5) (mC (.int 2))))) ls hd QE:=by
   intro ls hd QE e0 e1 e5 k;refine A6 (A1 e0 (A6 (A1 e1 (A6 (A1 e5 (AG (AI (ds:=[.im (.str "miss"),.im (.int p.due),.im (.int p.wt)]) rfl (Ca _ _ _ _) (Cd ?_))))))));rw[ek];exact AI rfl (CO hk) k
  refine FO (AJ (Bw (look rfl rfl rfl ⟨_,rfl,_,rfl,?_⟩)));cases hx:f (w-(wx p).2.2)with
  |none=>
   rw[if_neg (by simp)];refine⟨(λh=>by cases h),λ_=>AU (A5 (AZ (A1 rfl ?_)))⟩;unfold AW;rw[if_neg q,hx];rfl
  |some x=>
   rw[if_pos (by simp)];have look':∀{ls:Ls} {hd:Hd} {QE:D->Hd->Prop},ls[0]?=some (some (.im (rowI N f)))->ls[1]?=some (some (.im (.int (w:Int))))->ls[5]?=some (some (csD p))->ls[3]?=some (some (.im (.int p.len)))->QE (.im (.int (x+p.len))) hd->WE (mOp AY (mOp gIx (A0 0) (mOp BM (A0 1) (mOp gIx (A0 5) (mC (.int 2))))) (A0 3)) ls hd QE:=by
    intro ls hd QE e0 e1 e5 e3 k;refine A6 (look e0 e1 e5 ?_);rw[hx];exact A1 e3 (B7 k)
   refine AJ (A6 (look' rfl rfl rfl rfl (A6 (A1 rfl (AG (AI (ds:=[.im (.str "miss"),.im (.int p.due),.im (.int p.wt)]) rfl (DM _ _ _) (Kk ⟨_,rfl,λh=>?_,λh=>?_⟩)))))))
   .have h:x+p.len<=p.due:=by simpa using h
    have eb:behind (wx p).1 (wx p).2.1 (some x)=some (x+p.len):=if_pos h;refine WP.mono (Q:=λfl y=>(fl=Fl.rt (Ag (AW (wx p) f w))∨((∃z,fl=Fl.nx [some (.im (rowI N f)),some (.im (.int (w:Int))),some (wmD p),some (.im (.int p.len)),some (.im (.int p.com)),some (csD p),some (Ag z)]/\z=AW (wx p) f w))) ) (Ad (C0 (AJ (Bw (A1 rfl ⟨f w,rfl,_,rfl,?_⟩))))) ?_
    .cases hf:f w with
     |none=>
      rw[if_pos (by simp)];refine⟨(λ_=>AZ (look' rfl rfl rfl rfl (.inl ?_))),λh=>by cases h⟩;unfold AW;rw[if_neg q,hx,eb,hf];rfl
     |some y=>
      rw[if_neg (by simp)];refine AJ (A6 (look' rfl rfl rfl rfl (A1 rfl (Kj ⟨_,rfl,λh2=>?_,λh2=>?_⟩))))
      .have h2:x+p.len<y:=by simpa using h2
       refine AZ (look' rfl rfl rfl rfl (.inl ?_));unfold AW;rw[if_neg q,hx,eb,hf];show _=Fl.rt (Ag (if y<=x+p.len then some y else some (x+p.len)));rw[if_neg (by omega)];rfl
      .have h2:¬ x+p.len<y:=by simpa using h2
       refine AU (.inr ⟨_,rfl,?_⟩);unfold AW;rw[if_neg q,hx,eb,hf];show some y=if y<=x+p.len then some y else some (x+p.len)
       rw[if_pos (by omega)]
    .rintro fl y (rfl|⟨z,rfl,rfl⟩)
     .exact Rc rfl
     .exact A5 (AZ (A1 rfl rfl))
   .have h:¬ x+p.len<=p.due:=by simpa using h
    refine AU (A5 (AZ (A1 rfl ?_)));unfold AW;rw[if_neg q,hx];show _=Ag (comb (f w) (if x+p.len<=p.due then some (x+p.len)else none));rw[if_neg h];rfl
def Qv{ls:Ls}{hd:Hd}{a b:Option Int}(h6:ls[6]?=some (some (Ag a)))(h7:ls[7]?=some (some (Ag b)))(h:nm a b=true){Q:Bool->Hd->Prop}(q:Q false hd):WT (DT (AD (B0 true (A0 7))) (mOr (AD (B0 false (A0 6))) (AD (mOp gGt (A0 6) (A0 7))))) ls hd Q:=by
 refine FO (AJ (Bw (A1 h7 ⟨b,rfl,_,rfl,?_⟩)));cases b with
 |none=>
  rw[if_neg (by simp)];exact q
 |some y=>
  rw[if_pos (by simp)];cases a with
  |none=>simp[nm]at h
  |some x=>
   refine C0 (AJ (Bw (A1 h6 ⟨some x,rfl,_,rfl,?_⟩)));rw[if_neg (by simp)];refine AJ (A6 (A1 h6 (A1 h7 (HF ⟨_,rfl,?_⟩))));have:x<=y:=by simpa [nm]using h
   rw[show decide (x>y)=false by simp;omega];exact q
inductive I_lplaces(c:Int)(ws:List Wm)(N:Nat)(r:List D)(ls:Ls)(hd:Hd):Prop
 |mk (dn rest:List Int) (z3 z4 z5 z6 z7:Option D) (h0:AX ws=dn++rest) (h1:r=((intD rest).zipIdx dn.length).map enD) (h2:ls=[some (.im (AO ws)),some (.im (An ws.length N (fT c (wxs ws)))),some (.im (.tup [])),z3,z4,z5,z6,z7]) (h3:hd=[.lst (intD (AX ws))]):I_lplaces c ws N r ls hd
def QM{B c:Int}{ws:List Wm}(ok:okMs B c ws)(hB:B<=2000){N:Nat}(hN:N<=100)(h0:0<N):WF GE [.im (AO ws),.im (An ws.length N (fT c (wxs ws))),.im (.tup [])] [] λd x=>d=.im .non:=by
 have hl8:=ok.2.1;have hl0:0<ws.length:=D0 ok.1;unfold GE;refine Am rfl ?_;refine AC (Ad (C0 (AJ (Bw (A6 (A6 (A1 rfl (AG (AI rfl (D5 (k:=0) (by omega)) (AG (AI rfl (CO (w:=0) h0) ⟨fT c (wxs ws) 0 0,rfl,_,rfl,?_⟩)))))))))));rw[if_neg (by simp[fT])];refine AJ (A6 (A6 (A6 (A1 rfl (AG (AI rfl (D5 (k:=0) (by omega)) (AG (AI rfl (CO (w:=0) h0) (A6 (A6 (A1 rfl (AG (AI (by rw[BP,Ay]) (DC (k:=0) hl0) (AG (AI (ds:=[.im (.int (ws[0]).len),.im (.int (ws[0]).com),csD ws[0]]) rfl (DM _ _ _) ?_)))))))))))))));rw[LB ok hl0];refine HF (i:=c) (j:=c) ⟨_,rfl,(λh=>by simp at h),λ_=>AU (A5 ?_)⟩;refine AC (BN (C3 (FF (DN (A3 (A1 rfl (A7 ⟨[],[],rfl,rfl,by simp,rfl,(Iu ok hB).mono ?_⟩)))))));rintro d x ⟨rfl,rfl⟩;refine⟨0,_,[],_,rfl,le_refl _,rfl,rfl,rfl,rfl,Cs _ _,0,intD (AX ws),rfl,rfl,?_⟩;refine B8 (I_lplaces c ws N) ⟨[],AX ws,none,none,none,none,none,rfl,rfl,rfl,rfl⟩ ?_ ?_
 .rintro d r ls hd ⟨dn,rest,z3,z4,z5,z6,z7,e1,er,rfl,rfl⟩;cases rest with
  |nil=>cases er
  |cons i rest=>
   rw[show intD (i::rest)=.im (.int i)::intD rest from rfl,zipIdx_cons,map_cons]at er;obtain⟨rfl,rfl⟩:=List.cons.inj er;obtain⟨k,hk,rfl⟩:=FV (ws:=ws) (i:=i) (by rw[e1];simp);have hle:dn.length<ws.length:=by have:=Br ws;rw[e1]at this;simp at this;omega
   have ex:(wxs ws)[dn.length]?=some (wx ws[k]):=by
    unfold wxs;rw[e1,List.getElem?_map,List.getElem?_append_right (le_refl _)];simp[hk]
   have e2:∀w,fT c (wxs ws) (dn.length+1) w=AW (wx ws[k]) (fT c (wxs ws) dn.length) w:=λw=>by rw[fT,ex]
   have okp:=ok.2.2.2 _ (List.getElem_mem hk);generalize hf:fT c (wxs ws) dn.length=f at e2;generalize hg:fT c (wxs ws) (dn.length+1)=g at e2;refine⟨[some (.im (AO ws)),some (.im (An ws.length N (fT c (wxs ws)))),some (.im (.tup [])),some (.im (.int (dn.length:Int))),some (.im (.int (k:Int))),z5,z6,z7],rfl,?_⟩;refine BN (C3 (Bq (A6 (A1 rfl (A6 (A1 rfl (AG (B7 ?_))))))));rw[show(dn.length:Int)+1=((dn.length+1:Nat):Int) by omega];refine AI rfl (D5 (by omega)) ⟨(List.range N).map λw=>Ag (g w),by rw[hg];simp[rowI],?_⟩;change WP (Aq _ _ _ ((((List.range N).map λw=>Ag (g w)).zipIdx 0).map enD) _ [.lst (intD (AX ws))]) _;refine B8 (λr ls hd=>∃(m:Nat) (z5 z6 z7:Option D),m<=N/\r=((((List.range N).drop m).map λw=>Ag (g w)).zipIdx m).map enD/\ls=[some (.im (AO ws)),some (.im (An ws.length N (fT c (wxs ws)))),some (.im (.tup [])),some (.im (.int (dn.length:Int))),some (.im (.int (k:Int))),z5,z6,z7]/\hd=[.lst (intD (AX ws))]) ⟨0,z5,z6,z7,by omega,rfl,rfl,rfl⟩ ?_ ?_
   .rintro d r ls hd ⟨m,z5,z6,z7,hm,er,rfl,rfl⟩;by_cases hmN:m<N
    .rw[List.drop_eq_getElem_cons (by simpa using hmN),map_cons,zipIdx_cons,map_cons]at er;obtain⟨rfl,rfl⟩:=List.cons.inj er;rw[List.getElem_range];refine⟨[some (.im (AO ws)),some (.im (An ws.length N (fT c (wxs ws)))),some (.im (.tup [])),some (.im (.int (dn.length:Int))),some (.im (.int (k:Int))),some (.im (.int (m:Int))),some (Ag (g m)),z7],rfl,?_⟩;refine AC (AQ (A6 (A6 (A1 rfl (A1 rfl (AI rfl (D5 (by omega)) (A1 rfl (AI rfl (CO hmN) (A5 ?_)))))))));rw[hf];refine AC (Ad (Qv (a:=g m) (b:=f m) rfl rfl (by rw[e2];exact Yl _ _) ⟨(λh=>by cases h),λ_=>AU (A5 ?_)⟩));refine AC (AQ (AK (A3 (A6 (A1 rfl (A1 rfl (AI rfl (D5 (by omega)) (A3 (A1 rfl (A3 (A6 (A1 rfl (A1 rfl (AI (by rw[BP,Ay]) (DC hk) (A7 ⟨by simp[wmI,rowI],?_⟩)))))))))))))));rw[hf];refine(Qb okp f hmN).mono ?_;rintro d x rfl;refine⟨_,rfl,A5 ?_⟩;refine Ad (Qv (a:=g m) (b:=AW (wx ws[k]) f m) rfl rfl (by rw[e2];cases AW (wx ws[k]) f m<;>simp[nm]) ⟨(λh=>by cases h),λ_=>AU ⟨?_,m+1,_,_,_,by omega,rfl,rfl,rfl⟩⟩);exact AR _
    .rw[List.drop_of_length_le (by simp;omega)]at er;cases er
   .rintro ls hd ⟨m,z5,z6,z7,hm,er,rfl,rfl⟩;exact⟨by intro q hq;rw[mem_singleton]at hq;subst hq;rfl,dn++[(k:Int)],rest,_,_,_,_,_,by rw[e1];simp,by simp,rfl,rfl⟩
 .rintro ls hd ⟨dn,rest,z3,z4,z5,z6,z7,e1,er,rfl,rfl⟩;exact A5 (AZ (AG rfl))
end T40
namespace Lt
def FK(t:Int):List Wx->Prop
 |[]=>True
 |x::r=>t+x.1<=x.2.1/\FK (t+x.1) r
def Es(S:List Wx):Int:=(S.map (·.1)).sum
def wtX(S:List Wx):Nat:=(S.map (·.2.2)).sum
def KA(x:Wx):∀(S:List Wx) (t:Int),FK t (S++[x])↔FK t S/\t+Es S+x.1<=x.2.1
 |[],t=>by simp[FK,Es]
 |y::r,t=>by
  have e:Es (y::r)=y.1+Es r:=by simp[Es]
  rw[cons_append,FK,FK,KA x r,e,show t+(y.1+Es r)=t+y.1+Es r by omega,and_assoc]
def Rv{α:Type}{S A:List α}{x:α}(h:S.Sublist (A++[x])):S.Sublist A∨∃T,S=T++[x]/\T.Sublist A:=by
 obtain⟨t,u,e,h1,h2⟩:=List.sublist_append_iff.mp h;rcases List.sublist_cons_iff.mp h2 with q|⟨r,q1,q2⟩
 .have:u=[]:=by simpa using q
  subst this;rw[e,append_nil];exact .inl h1
 .have:r=[]:=by simpa using q2
  subst this;exact .inr ⟨t,by rw[e,q1],h1⟩
def Et{c:Int}{L:List Wx}:∀{i:Nat} {S:List Wx},S.Sublist (L.take i)->FK c S->∃e∈AF c L i,e.2.1=wtX S/\e.2.2=c+Es S
 |0,S,h,_=>by
  have:S=[]:=by simpa using h
  subst this;exact⟨(0,0,c),by simp[AF],by simp[wtX],by simp[Es]⟩
 |i+1,S,h,hS=>by
  rw[AF];cases hx:L[i]? with
  |none=>
   have hl:L.length<=i:=by simpa using hx
   rw[take_of_length_le (by omega)]at h;obtain⟨e,h1,h2⟩:=Et (i:=i) (S:=S) (by rw[take_of_length_le hl];exact h) hS;exact⟨e,mem_append_left _ h1,h2⟩
  |some x=>
   have hi:i<L.length:=(List.getElem?_eq_some_iff.mp hx).1;rw[List.take_succ_eq_append_getElem hi,(List.getElem?_eq_some_iff.mp hx).2]at h;rcases Rv h with q|⟨T,rfl,q⟩
   .obtain⟨e,h1,h2⟩:=Et q hS;exact⟨e,mem_append_left _ h1,h2⟩
   .obtain⟨g1,g2⟩:=(KA x T c).mp hS;obtain⟨e,h1,h2,h3⟩:=Et q g1;refine⟨(i+1,e.2.1+x.2.2,e.2.2+x.1),mem_append_right _ (mem_map.mpr ⟨e,mem_filter.mpr ⟨h1,?_⟩,rfl⟩),?_,?_⟩
    .simp only[decide_eq_true_eq];omega
    .simp[wtX,h2]
    .simp[Es]at h3 ⊢;omega
end Lt
namespace T40
open PySem L2 Bd Ru
open Lt (IsMin comb behind AW sel AF Wx FK Es wtX Et)
abbrev Dp(ws:List Wm)(ns:List Int):List Int:=((List.range ws.length).filter λk:Nat=>decide (¬ (k:Int)∈ns)).map λk:Nat=>(k:Int)
def Sw{ws:List Wm}{ns:List Int}(hs:ns.Sublist (AX ws)):(B4 ns++Dp ws ns).Perm ((List.range ws.length).map λk:Nat=>(k:Int)):=by
 have e1:Dp ws ns=((List.range ws.length).map λk:Nat=>(k:Int)).filter λi=>!decide (i∈ns):=by
  rw[List.filter_map];unfold Dp
  congr 1
  refine List.filter_congr λk _=>?_;simp
 have e2:(Dp ws ns).Perm ((AX ws).filter λi=>!decide (i∈ns)):=by
  rw[e1];exact((CB ws).filter _).symm
 have e3:=MP (Ga ws) hs;refine((Bx ns).append e2).trans ?_;have:=List.filter_append_perm (λi=>decide (i∈ns)) (AX ws);rw[e3]at this;exact this.trans (CB ws)
def TL(ws:List Wm){B c:Int}(ok:okMs B c ws)(hB:B<=2000):(AX ws).Pairwise λa b=>Ah ws a.toNat<=Ah ws b.toNat:=by
 have w2:(C9 (BA ws)).Pairwise λa b=>Ac a<=Ac b:=by
  have:=pairwise_mergeSort (le:=λa b:Int×Int=>decide (Ac a<=Ac b)) (by intro a b c h1 h2;simp at *;omega) (by intro a b;simp;omega) (BA ws);exact this.imp (by simp)
 have p2:(C9 (BA ws)).Perm (BA ws):=mergeSort_perm ..;unfold AX;rw[pairwise_map];refine w2.imp_of_mem λ{a b} ha hb hab=>?_
 have fa:∀a∈C9 (BA ws),Ah ws a.2.toNat=a.1/\pok a:=λa ha=>by
  obtain⟨k,hk,rfl⟩:=mem_map.mp (p2.mem_iff.mp ha);exact⟨rfl,Ff ok hB (by simpa using hk)⟩
 obtain⟨e1,o1⟩:=fa a ha;obtain⟨e2,o2⟩:=fa b hb;rw[e1,e2];unfold Ac at hab;unfold pok at o1 o2;omega
def Qa{ws:List Wm}{c:Int}(h0:∀i,0<=lnI ws i){L S:List Int}(nd:S.Nodup)(hs:∀i∈S,i∈L)(pw:S.Pairwise λa b=>Ah ws a.toNat<=Ah ws b.toNat)(he:∀i∈S,CV (lnI ws) c L i<=Ah ws i.toNat):∀(rest dn:List Int),S=dn++rest->inT ws (c+(dn.map (lnI ws)).sum) rest
 |[],_,_=>trivial
 |x::r,dn,e=>by
  refine⟨?_,?_⟩
  .have sb:(dn++[x]).Sublist S:=by rw[e];exact List.Sublist.append_left (by simp) _
   have:=edd h0 (L:=L) (t:=c) (P:=dn++[x]) (d:=Ah ws x.toNat) (nd.sublist sb) (λi hi=>hs i (sb.subset hi)) (by simp) (λi hi=>by
    have h1:=he i (sb.subset hi);rcases mem_append.mp hi with q|q
    .rw[e]at pw;have:=(List.pairwise_append.mp pw).2.2 i q x (by simp);omega
    .rw[mem_singleton]at q;subst q;exact h1)
   simp only[map_append,sum_append,map_cons,map_nil,sum_cons,sum_nil]at this;omega
  .have:=Qa h0 nd hs pw he r (dn++[x]) (by rw[e];simp);simp only[map_append,sum_append,map_cons,map_nil,sum_cons,sum_nil,Int.add_zero]at this;rw[<- Int.add_assoc]at this;exact this
def Nd{ws:List Wm}{c:Int}{ks rest:List Int}(nd:ks.Nodup):∀(r dn:List Int),ks=dn++r->inT ws (c+(dn.map (lnI ws)).sum) r->∀i∈r,CV (lnI ws) c (ks++rest) i<=Ah ws i.toNat
 |[],_,_,_,i,h=>by cases h
 |x::r,dn,e,hin,i,hi=>by
  rcases mem_cons.mp hi with rfl|hi
  .have hx:i∉dn:=λz=>by
    rw[e]at nd;exact(nodup_append.mp nd).2.2 _ z _ (by simp) rfl
   rw[e,append_assoc,cons_append,JR hx];exact hin.1
  .refine Nd nd r (dn++[x]) (by rw[e];simp) ?_ i hi;simp only[map_append,sum_append,map_cons,map_nil,sum_cons,sum_nil,Int.add_zero];rw[<- Int.add_assoc];exact hin.2
abbrev gx(ws:List Wm)(i:Int):Wx:=(ws[i.toNat]?.map wx).getD (0,0,0)
def U5(ws:List Wm)(i:Int):gx ws i=(lnI ws i,Ah ws i.toNat,(wtI ws i).toNat):=by
 unfold gx lnI wtI C6 Ah D3;cases ws[i.toNat]?<;>rfl
def Nc{ws:List Wm}:∀(S:List Int) (t:Int),inT ws t S->FK t (S.map (gx ws))
 |[],_,_=>trivial
 |i::r,t,h=>by
  rw[map_cons,FK,U5];exact⟨h.1,Nc r _ h.2⟩
def WN{B c:Int}{ws:List Wm}(ok:okMs B c ws)(S:List Int):((wtX (S.map (gx ws)):Nat):Int)=(S.map (wtI ws)).sum:=by
 unfold wtX
 induction S with
 |nil=>rfl
 |cons i r ih=>
  have:=Td ok i.toNat
  rw[map_cons,map_cons,sum_cons,map_cons,sum_cons,Int.natCast_add,ih,U5];have e:(((wtI ws i).toNat:Nat):Int)=wtI ws i:=Int.toNat_of_nonneg this;dsimp only;rw[e]
def L9(ws:List Wm):(wxs ws).length=ws.length:=by simp[wxs,Br]
def W2{B c:Int}{ws:List Wm}(ok:okMs B c ws){S:List Int}(sub:S.Sublist (AX ws))(hin:inT ws c S):∃e∈AF c (wxs ws) ws.length,((e.2.1:Nat):Int)=(S.map (wtI ws)).sum:=by
 obtain⟨e,h1,h2,_⟩:=Et (c:=c) (L:=wxs ws) (i:=ws.length) (S:=S.map (gx ws)) (by
  rw[take_of_length_le (by rw[L9];exact le_refl _)];exact sub.map _) (Nc S c hin)
 exact⟨e,h1,by rw[h2];exact WN ok S⟩
def W1(ws:List Wm):((List.range ws.length).map (D3 ws)).sum=AT ws:=by
 unfold AT
 congr 1
 refine ext_getElem (by simp) λi a b=>?_;simp at a b;simp[D3,a]
def OZ{B c:Int}{ws:List Wm}(ok:okMs B c ws)(hB:B<=2000){ks rest:List Int}(sub:ks.Sublist (AX ws))(hin:inT ws c ks){m:Nat}(hw:(ks.map (wtI ws)).sum=m)(hmax:∀e∈AF c (wxs ws) ws.length,e.2.1<=m){o:List Nat}(pm:o.Perm (List.range ws.length))(ho:(o.map λk:Nat=>(k:Int))=ks++rest):Iv ws (eN ws c o)=AT ws-m:=by
 have ndo:=Ga ws;have pmI:(o.map λk:Nat=>(k:Int)).Perm (AX ws):=(pm.map _).trans (CB ws).symm
 let p:Int->Prop:=λi=>CV (lnI ws) c (o.map λk:Nat=>(k:Int)) i<=Ah ws i.toNat
 have dp:DecidablePred p:=λi=>inferInstanceAs (Decidable (_<=_));have e1:Iv ws (eN ws c o)=((AX ws).map λi=>if p i then 0 else wtI ws i).sum:=by
  rw[psum ((CB ws).map λi=>if p i then 0 else wtI ws i),map_map];unfold Iv
  congr 1
  refine map_congr_left λk _=>?_;have:=K1 (ln:=lnI ws) (lN:=C6 ws) (λk=>rfl) k o c;show(if CV (C6 ws) c o k<=Ah ws k then 0 else D3 ws k)=if p (k:Int)then 0 else wtI ws (k:Int)
  by_cases h:CV (C6 ws) c o k<=Ah ws k
  .rw[if_pos h,if_pos (show p (k:Int)from Int.le_trans (Int.le_of_eq this) h)]
  .rw[if_neg h,if_neg (show ¬ p (k:Int)from λz=>h (Int.le_trans (Int.le_of_eq this.symm) z))];rfl
 have e2:((AX ws).map (wtI ws)).sum=AT ws:=by
  rw[psum ((CB ws).map (wtI ws)),map_map];exact W1 ws
 rw[e1,Js (f:=wtI ws) (p:=p),e2];have hO:inT ws c ((AX ws).filter λi=>decide (p i)):=by
  have:=Qa (ws:=ws) (c:=c) (λi=>Ir ok _) (L:=o.map λk:Nat=>(k:Int)) (S:=(AX ws).filter λi=>decide (p i)) (ndo.sublist List.filter_sublist) (λi hi=>pmI.mem_iff.mpr (mem_filter.mp hi).1) ((TL ws ok hB).sublist List.filter_sublist) (λi hi=>by simpa using (mem_filter.mp hi).2) _ [] rfl;simpa using this
 obtain⟨e,he,e3⟩:=W2 ok List.filter_sublist hO;have h1:=hmax e he;have hk:ks.Sublist ((AX ws).filter λi=>decide (p i)):=by
  have e4:ks.filter (λi=>decide (p i))=ks:=List.filter_eq_self.mpr λi hi=>by
   have:=Nd (ws:=ws) (c:=c) (rest:=rest) (ndo.sublist sub) ks [] rfl (by simpa using hin) i hi;rw[<- ho]at this;simpa using this
  have:=sub.filter λi=>decide (p i);rw[e4]at this;exact this
 have h2:=JK (f:=wtI ws) (λi=>Td ok _) hk;omega
def J1(c:Int)(L:List Wx):∀i,((0,0,c):Lt.En)∈AF c L i
 |0=>by simp[AF]
 |i+1=>by
  rw[AF];cases L[i]? with
  |none=>exact mem_append_left _ (J1 c L i)
  |some x=>exact mem_append_left _ (J1 c L i)
def WJ(c:Int)(ws:List Wm):∃m:Nat,(∃e∈AF c (wxs ws) ws.length,e.2.1=m)/\(∀e∈AF c (wxs ws) ws.length,e.2.1<=m)/\FG ((AF c (wxs ws) ws.length).map λe=>(e.2.1:Int))=m:=by
 have hne:((AF c (wxs ws) ws.length).map λe=>(e.2.1:Int))≠[]:=λz=>by
  have:=J1 c (wxs ws) ws.length;rw[List.map_eq_nil_iff]at z;rw[z]at this;cases this
 obtain⟨h1,h2⟩:=F2 hne;obtain⟨e,he,ee⟩:=mem_map.mp h1;refine⟨e.2.1,⟨e,he,rfl⟩,λe' he'=>?_,ee.symm⟩;have:=h2 _ (mem_map.mpr ⟨e',he',rfl⟩);omega
def some_iff{c:Int}{ws:List Wm}{w:Nat}:(fT c (wxs ws) ws.length w).isSome=true↔∃e∈AF c (wxs ws) ws.length,e.2.1=w:=by
 have h:=Qh c (wxs ws) ws.length (by rw[L9];exact le_refl _) w;rcases h with⟨h1,h2⟩|⟨x,h1,h2,_⟩
 .rw[h1];refine⟨(λz=>by cases z),λ⟨e,he,ee⟩=>?_⟩;have:e.2.2∈sel w (AF c (wxs ws) ws.length):=mem_map.mpr ⟨e,mem_filter.mpr ⟨he,by simpa using ee⟩,rfl⟩;rw[h2]at this;cases this
 .rw[h1];refine⟨λ_=>?_,λ_=>rfl⟩;obtain⟨e,he,_⟩:=mem_map.mp h2;exact⟨e,(mem_filter.mp he).1,by simpa using (mem_filter.mp he).2⟩
open Lt (IsMin comb behind AW sel AF Wx Co G0)
def We{B c:Int}{ws:List Wm}(ok:okMs B c ws):((wxs ws).map λx=>x.2.2).sum=(AT ws).toNat:=by
 have h1:(wxs ws).Perm (ws.map wx):=by
  have p:=(CB ws).map λi:Int=>(ws[i.toNat]?.map wx).getD (0,0,0);rw[map_map]at p;refine p.trans ?_;refine(List.Perm.of_eq ?_);refine ext_getElem (by simp) λi a b=>?_;simp at a b;simp[a]
 have h2:=(h1.map λx:Wx=>x.2.2).sum_nat
 rw[h2,map_map];have:∀vs:List Wm,(∀w∈vs,okM B c w)->(vs.map ((λx:Wx=>x.2.2) ∘ wx)).sum=(AT vs).toNat/\0<=AT vs:=by
  intro vs
  induction vs with
  |nil=>intro _;simp[AT]
  |cons v r ih=>
   intro h;have ih:=ih λw hw=>h w (by simp[hw]);have:=(h v (by simp)).2.2.2;simp only[AT,map_cons,sum_cons,Function.comp]at *;have e:(wx v).2.2=v.wt.toNat:=rfl;rw[ih.1,e];omega
 exact(this ws ok.2.2.2).1
def okMs.more{B B' c:Int}{ws:List Wm}(h:okMs B c ws)(hb:B<=B'):okMs B' c ws:=by
 obtain⟨h1,h2,h3,h4⟩:=h;refine⟨h1,h2,h3,λw hw=>?_⟩;obtain⟨g1,g2,g3,g4⟩:=h4 w hw;exact⟨g1,g2,by omega,g4⟩
def b8{E:List Lt.En}{qs:List Nat}(hq:qs.length=E.length):((E.zip qs).filterMap λz=>some (D.im (.int (z.1.2.1:Int))))=intD (E.map λe=>(e.2.1:Int)):=by
 induction E generalizing qs with
 |nil=>rfl
 |cons e r ih=>
  cases qs with
  |nil=>simp at hq
  |cons q qs=>
   have ih:=ih (qs:=qs) (by simpa using hq);rw[List.zip_cons_cons,filterMap_cons,ih];rfl
def Yo{B c:Int}{ws:List Wm}(ok:okMs B c ws){e:Lt.En}(he:e∈AF c (wxs ws) ws.length):e.2.1<=(AT ws).toNat:=by
 have:=G0 he;rw[take_of_length_le (by rw[L9];exact le_refl _),We ok]at this;exact this
def M8{B c:Int}{ws:List Wm}(ok:okMs B c ws)(hB:B<=2000){m:Nat}(he:∃e∈AF c (wxs ws) ws.length,e.2.1=m)(hmax:∀e∈AF c (wxs ws) ws.length,e.2.1<=m):WF Dh [.im (AO ws)] [] λd x=>∃ks:List Int,ks.Sublist (AX ws)/\inT ws c ks/\(ks.map (wtI ws)).sum=m/\d=.im (.tup [.tup ((ks++Dp ws ks).map I.int),An ws.length ((AT ws).toNat+1) (fT c (wxs ws))]):=by
 have hf:=Fa ok;have hl8:=ok.2.1;have hm:m<=(AT ws).toNat:=by obtain⟨e,h,rfl⟩:=he;exact Yo ok h
 have h1:(fT c (wxs ws) ws.length m).isSome=true:=some_iff.mpr he;have h2:∀w,(fT c (wxs ws) ws.length w).isSome=true->w<=m:=λw hw=>by obtain⟨e,h,rfl⟩:=some_iff.mp hw;exact hmax e h
 unfold Dh;refine Am rfl ?_;refine AC (AQ (AK (A3 (A1 rfl (A7 ⟨by simp,(IN ok hB).mono ?_⟩)))));rintro d x rfl;refine⟨_,rfl,A5 ?_⟩;refine AC (AQ (AK (A3 (A1 rfl (A3 (AK (A3 (A1 rfl (A7 ⟨by simp,(Fw (by omega) (by omega) h1 h2).mono ?_⟩)))))))));rintro d x rfl;refine⟨_,rfl,A7 ⟨by simp,(QZ ok hB (m:Int)).mono ?_⟩⟩;rintro d x (⟨hr,_⟩|⟨ks,rfl,sub,hin,_,hw⟩)
 .exfalso;unfold Le at hr;rw[if_neg (by omega),toNat_natCast]at hr;rw[hr]at h1;cases h1
 refine⟨_,rfl,A5 ?_⟩;have hkl:ks.length<=8:=by have:=sub.length_le;rw[Br]at this;omega
 have hol:(Dp ws ks).length<=8:=by unfold Dp;rw[length_map];exact le_trans (List.length_filter_le _ _) (by simpa using hl8)
 have mem:∀i,i∈B4 ks↔i∈ks:=λi=>(Bx ks).mem_iff;refine AC (AQ (BO (BC (FF (DN (A3 (A1 rfl (A7 ⟨[],[],rfl,rfl,by simp,rfl,(F9 ok hB).mono ?_⟩))))))));rintro d x ⟨rfl,rfl⟩;refine⟨0,_,[],_,rfl,le_refl _,rfl,rfl,rfl,rfl,Cs _ _,0,intD (AX ws),rfl,rfl,Af (by simp[intD,Br];omega),?_⟩;refine Bc (λi:Int=>D.im (.int i)) (λi=>if i∈ks then some (.im (.int i))else none) (λ_ ls=>∃x,ls=[some x,some (Hq (B4 ks))]) _ (by intro q hq;rw[mem_singleton]at hq;subst hq;rfl) ?_ ?_
 .rintro i hi ls hls;refine⟨[some (.im (.int i)),some (Hq (B4 ks))],by rcases hls with rfl|⟨_,x,rfl⟩<;>rfl,⟨_,rfl⟩,?_⟩;refine AJ (A6 (A1 rfl (A1 rfl (PK (xs:=B4 ks) (by rw[BP,Nz]) ⟨_,rfl,rfl,?_⟩))));by_cases q:i∈ks
  .rw[if_pos (by simp[mem,q])];exact⟨_,if_pos q,A1 rfl ⟨rfl,rfl⟩⟩
  .rw[if_neg (by simp[mem,q])];exact if_neg q
 have ei:∀L:List Int,(L.filterMap λi:Int=>if i∈ks then some (D.im (.int i))else none)=intD (L.filter λi=>decide (i∈ks)):=λL=>by
  induction L with
  |nil=>rfl
  |cons x r ih=>
   rw[filterMap_cons,filter_cons];by_cases h:x∈ks
   .simp[h,intD]at ih ⊢;exact ih
   .simp[h]at ih ⊢;exact ih
 rw[ei,MP (Ga ws) sub];refine A5 ?_;change WS _ [some (.im (AO ws)),some (.im (An ws.length ((AT ws).toNat+1) (fT c (wxs ws)))),some (Hq (B4 ks)),some (.mu 1)] [.lst (intD (AX ws)),.lst (intD ks)] _;refine AZ (B2 (A3 (CN (LI (A1 rfl (BO (BC (Nt (A3 (Bo (A3 (A1 rfl (A7 (Bv rfl rfl (A7 ⟨(ws.length:Int),by simp,HK (by omega) (by omega),?_⟩)))))))))))))));rw[toNat_natCast,EQ];refine⟨Af (by simp[Ge];omega),?_⟩;refine Bc (λk:Nat=>D.im (.int (k:Int))) (λk=>if ¬ (k:Int)∈ks then some (.im (.int (k:Int)))else none) (λ_ ls=>∃x,ls=[some x,some (Hq (B4 ks))]) _ (AR _) ?_ ?_
 .rintro k hk' ls hls;refine⟨[some (.im (.int (k:Int))),some (Hq (B4 ks))],by rcases hls with rfl|⟨_,x,rfl⟩<;>rfl,⟨_,rfl⟩,?_⟩;refine AJ (A6 (A1 rfl (A1 rfl (PK (xs:=B4 ks) (by rw[BP,Nz]) ⟨_,rfl,rfl,?_⟩))));by_cases q:(k:Int)∈ks
  .rw[if_neg (by simp[mem,q])];exact if_neg (λz=>z q)
  .rw[if_pos (by simp[mem,q])];exact⟨_,if_pos q,A1 rfl ⟨rfl,rfl⟩⟩
 have eo:((List.range ws.length).filterMap λk:Nat=>if ¬ (k:Int)∈ks then some (D.im (.int (k:Int)))else none)=intD (Dp ws ks):=by
  unfold Dp;generalize List.range ws.length=L
  induction L with
  |nil=>rfl
  |cons x r ih=>
   rw[filterMap_cons,filter_cons];by_cases h:(x:Int)∈ks
   .simp[h]at ih ⊢;exact ih
   .simp[h,intD]at ih ⊢;exact ih
 rw[eo];refine⟨1,2,intD ks,intD (Dp ws ks),rfl,rfl,rfl,rfl,Af (by rw[intD,intD,length_map,length_map];omega),?_⟩;rw[show intD ks++intD (Dp ws ks)=intD (ks++Dp ws ks) by simp[intD]];refine⟨_,rfl,A3 (A1 rfl (A7 ⟨MN,?_⟩))⟩;rw[Jc,NS];exact⟨ks,sub,hin,hw,rfl⟩
def Vp{n:Nat}{L:List Int}(pm:L.Perm ((List.range n).map λk:Nat=>(k:Int))):∃o:List Nat,o.Perm (List.range n)/\L=o.map λk:Nat=>(k:Int):=by
 refine⟨L.map Int.toNat,?_,?_⟩
 .have:=pm.map Int.toNat
  rw[map_map]at this;simpa [Function.comp_def]using this
 .rw[map_map];refine(map_id L).symm.trans (map_congr_left λi hi=>?_);obtain⟨k,_,rfl⟩:=mem_map.mp (pm.mem_iff.mp hi);simp
inductive I_law_w(ns:List Int)(r:List D)(ls:Ls)(hd:Hd):Prop
 |mk (j:Nat) (i2:I) (a b:MO) (z3 z4 z5 z6 z7 z8:Option D) (h0:j<=3) (h1:r=Ar (j:Int) (3-j)) (h2:ls=[some (.ro ns),some (.mu 1),some (.im i2),z3,z4,z5,z6,z7,z8]) (h3:(j=1∨j=2->∃ws c,i2=AO ws/\okMs 500 c ws)) (h4:hd=[a,b]) (h5:T (200*(3-j)) a b):I_law_w ns r ls hd
inductive J_law(j:Nat)(d:D)(x:Hd):Prop
 |mk (ws:List Wm) (c:Int) (a b:MO) (h0:d=.im (AO ws)) (h1:okMs 2000 c ws) (h2:(j<2->okMs 500 c ws)) (h4:x=[a,b]) (h5:T (200*(3-(j+1))) a b):J_law j d x
def aD(ns:List Int):WF cq [.ro ns] [] λd x=>d=.im (.bl true):=by
 unfold cq;refine Am rfl ?_;refine AC (AQ (LG (A3 (A1 rfl (A7 ((Rx ns).mono ?_))))));rintro d x ⟨rfl,a,b,hT,rfl⟩;refine A5 (AC (AQ (B2 (A7 ⟨CP,A5 ?_⟩))));rw[QC];refine AC (BN (Nt (A3 (AG (A7 ⟨_,rfl,HK (by decide) (by decide),?_⟩)))));change WP (Aq _ _ _ (Ar 0 3) [some (.ro ns),some (.mu 1),some (.im (.tup [])),none,none,none,none,none,none] [a,b]) _;refine B8 (I_law_w ns) ⟨0,.tup [],a,b,none,none,none,none,none,none,by omega,rfl,rfl,by omega,rfl,tap.le hT (by omega)⟩ ?_ ?_
 .rintro d r ls hd ⟨j,i2,a,b,z3,z4,z5,z6,z7,z8,hj,er,rfl,hw,rfl,hT⟩;obtain⟨m,hm⟩:∃m,3-j=m+1:=by
   cases q:3-j with
   |zero=>rw[q]at er;cases er
   |succ m=>exact⟨m,rfl⟩
  rw[hm,Ar]at er;obtain⟨rfl,rfl⟩:=List.cons.inj er;have ej:((j:Int)+1)=((j+1:Nat):Int):=by omega
  have emj:m=3-(j+1):=by omega
  have hT:T (200*(3-(j+1))+100) a b:=tap.le hT (by omega);refine⟨[some (.ro ns),some (.mu 1),some (.im i2),some (.im (.int (j:Int))),z4,z5,z6,z7,z8],rfl,RU ?_⟩;refine AC (AQ (WP.mono (Q:=J_law j) (LF (AJ (A6 (A1 rfl (AG (Kj ⟨_,rfl,λh=>?_,λh=>?_⟩)))))) ?_))
  .refine tap.call hT (as:=[.im (.int 8)]) (rest:=[]) rfl rfl (M5 _) ?_;rintro i a b hT ⟨ws,c,rfl,ok⟩;exact⟨ws,c,a,b,rfl,ok.more (by decide),λ_=>ok,rfl,hT⟩
  .have hj2:j=2:=by
    have:¬ (j:Int)<2:=by simpa using h
    omega
   obtain⟨ws,c,rfl,ok⟩:=hw (.inr hj2);have hT:T (200*(3-(j+1))+20) a b:=tap.le hT (by omega);refine tap.call hT (as:=[.im (AO ws)]) (rest:=[]) rfl (by simp) (aG _ ok) ?_;rintro i a b hT ⟨ws,c,rfl,ok⟩;exact⟨ws,c,a,b,rfl,ok,λz=>by omega,rfl,hT⟩
  rintro d x ⟨ws,c,a,b,rfl,ok,ok5,rfl,hT⟩;obtain⟨hne,hl8,hc,hws⟩:=id ok;have hf:=Fa ok;have ca:=tap.cl hT;obtain⟨mm,he,hmax,emx⟩:=WJ c ws;have hmm:mm<=(AT ws).toNat:=by obtain⟨e,h,rfl⟩:=he;exact Yo ok h
  have g1:(fT c (wxs ws) ws.length mm).isSome=true:=some_iff.mpr he;have g2:∀w,(fT c (wxs ws) ws.length w).isSome=true->w<=mm:=λw hw=>by obtain⟨e,h,rfl⟩:=some_iff.mp hw;exact hmax e h
  refine A5 ?_;change WS _ [some (.ro ns),some (.mu 1),some (.im (AO ws)),some (.im (.int (j:Int))),z4,z5,z6,z7,z8] [a,b] _;refine AC (AQ (CN (BC (Bq (A1 rfl ⟨_,rfl,?_⟩)))));rw[Ay];refine⟨Af (by simp;omega),?_⟩;refine Bc wmD (λw=>some (.im (.int w.wt))) (λ_ ls=>∃x,ls=[some x]) _ (AR _) ?_ ?_
  .rintro p hp ls hls;refine⟨[some (wmD p)],by rcases hls with rfl|⟨_,x,rfl⟩<;>rfl,⟨_,rfl⟩,D4 ⟨rfl,?_⟩⟩;rw[if_pos rfl];exact⟨_,rfl,A6 (A6 (A1 rfl (AG (AI (ds:=[.im (.int p.len),.im (.int p.com),csD p]) rfl (Ca _ _ _ _) (AG (AI (ds:=[.im (.str "miss"),.im (.int p.due),.im (.int p.wt)]) rfl (Ca _ _ _ _) ⟨rfl,rfl⟩))))))⟩
  have e:(ws.filterMap λw=>some (D.im (.int w.wt)))=intD (ws.map Wm.wt):=by simp[intD]
  rw[e];refine⟨_,by unfold DU;rw[Cm];rfl,A5 ?_⟩;refine AC (AQ (A6 (A1 rfl (CN (BC (FF (LG (A3 (A1 rfl (A7 ((Wg ok (by decide) [a,b]).mono ?_)))))))))));rintro d x ⟨L,rest,qs,rfl,hL,rfl,hq,hE⟩;have hlE:(AF c (wxs ws) ws.length).length<=256:=le_trans (Co _) (YC hl8);refine⟨L,_,rfl,hE,Af (by rw[length_map,List.length_zip,hq,min_self];omega),?_⟩;refine Bc enT (λz=>some (D.im (.int (z.1.2.1:Int)))) (λ_ ls=>∃x,ls=[some x]) _ (by intro q hq;rw[mem_singleton]at hq;subst hq;exact hE) ?_ ?_
  .rintro z hz ls hls;refine⟨[some (enT z)],by rcases hls with rfl|⟨_,x,rfl⟩<;>rfl,⟨_,rfl⟩,D4 ⟨rfl,?_⟩⟩;rw[if_pos rfl];exact⟨_,rfl,A6 (A1 rfl (AG (AI rfl (DM _ _ _) ⟨rfl,rfl⟩)))⟩
  rw[b8 hq];have hne2:((AF c (wxs ws) ws.length).map λe=>(e.2.1:Int))≠[]:=λz=>by
   have:=J1 c (wxs ws) ws.length;rw[List.map_eq_nil_iff]at z;rw[z]at this;cases this
  refine⟨_,by unfold FJ;rw[Cm,bind_some,if_neg hne2],Cd (A5 ?_)⟩;rw[emx];change WS _ [some (.ro ns),some (.mu 1),some (.im (AO ws)),some (.im (.int (j:Int))),some (.im (.int (AT ws))),some (.im (.int (AT ws-mm))),z6,z7,z8] ([a,b]++rest) _;refine AC (AQ (AK (A3 (A1 rfl (A7 ⟨by simp,(M8 ok (by decide) he hmax).mono ?_⟩)))));rintro d x ⟨ks,sub,hin,hwt,rfl⟩;have pmI:(ks++Dp ws ks).Perm ((List.range ws.length).map λk:Nat=>(k:Int)):=(((Bx ks).symm).append_right _).trans (Sw sub);obtain⟨o,pm,eo⟩:=Vp pmI;have lt:=OZ ok (by decide) sub hin hwt hmax pm eo.symm;refine⟨_,rfl,A5 ?_⟩;rw[eo,map_map];change WS _ [some (.ro ns),some (.mu 1),some (.im (AO ws)),some (.im (.int (j:Int))),some (.im (.int (AT ws))),some (.im (.int (AT ws-mm))),some (.im (.tup [Cy o,An ws.length ((AT ws).toNat+1) (fT c (wxs ws))])),z7,z8] ([a,b]++rest) _;generalize hR:[a,b]++rest=R;refine AC (Ad (C0 (Bb (B6 (CM (A1 rfl ⟨true,rfl,_,rfl,?_⟩))))));rw[if_neg (by simp)];refine C0 (AJ (A6 (Bo (A3 (A1 rfl (A7 (Bv rfl rfl (AG (DQ ⟨_,rfl,?_⟩)))))))));rw[if_neg (by simp)];refine Bb (B6 (AK (A3 (Bo (A3 (A1 rfl (A7 (Bv (ds:=ws.map wmD) (by rw[if_pos rfl,BP,Ay]) rfl (A3 (A6 (A1 rfl (AG (AI (ds:=[.im (Cy o),.im (An ws.length ((AT ws).toNat+1) (fT c (wxs ws)))]) rfl (TY _ _) (A7 ⟨by simp,?_⟩))))))))))))));rw[length_map];refine(QV hl8 pm).mono ?_;rintro d x rfl;refine⟨_,rfl,_,rfl,(λh=>by cases h),λ_=>AU (A5 ?_)⟩;refine AC (IK (A1 rfl ⟨[some (.ro ns),some (.mu 1),some (.im (AO ws)),some (.im (.int (j:Int))),some (.im (.int (AT ws))),some (.im (.int (AT ws-mm))),some (.im (.tup [Cy o,An ws.length ((AT ws).toNat+1) (fT c (wxs ws))])),some (.im (Cy o)),some (.im (An ws.length ((AT ws).toNat+1) (fT c (wxs ws))))],rfl,A5 ?_⟩));refine AC (Ad (AJ (A6 (AK (A3 (A1 rfl (A3 (AK (A3 (A1 rfl (A3 (A1 rfl (A7 ⟨by simp,(OK ok pm).mono ?_⟩)))))))))))));rintro d x rfl;refine⟨_,rfl,A7 ⟨by simp,(Kf ok (eN ws c o)).mono ?_⟩⟩;rintro d x rfl;refine⟨_,rfl,A1 rfl (DQ ⟨_,rfl,(λh=>by rw[lt]at h;simp at h),λ_=>AU (A5 ?_)⟩)⟩;have hcl:∀f:Nat->Nat->Option Int,BB 0 [D.im (AO ws),.im (An ws.length ((AT ws).toNat+1) f),.im (.tup [])]=true:=λf=>by simp
  refine AC (Ad (C0 (AJ (Bw (AK (A3 (A1 rfl (A3 (A1 rfl (A3 (B2 (A7 ⟨CP,A7 ⟨hcl _,(T3 ok rfl (by omega) _).mono ?_⟩⟩))))))))))));rintro d x rfl;refine⟨_,rfl,none,rfl,_,rfl,?_⟩;rw[if_neg (by simp)];refine AJ (Bw (AK (A3 (A1 rfl (A3 (A1 rfl (A3 (B2 (A7 ⟨CP,A7 ⟨hcl _,(QM ok (by decide) (by omega) (by omega)).mono ?_⟩⟩)))))))));rintro d x rfl;refine⟨_,rfl,none,rfl,_,rfl,(λh=>by simp at h),λ_=>AU (A5 ?_)⟩;refine AC (Ad (C0 (AJ (A6 (A6 (A1 rfl (AK (A3 (A1 rfl (A7 ⟨by simp,(Yt (by omega) (by omega) g1 g2).mono ?_⟩))))))))));rintro d x rfl;refine⟨_,rfl,Cd (A1 rfl (DQ ⟨_,rfl,?_⟩))⟩;rw[if_neg (by simp)];refine AJ (A6 (AK (A3 (A1 rfl (A3 (A1 rfl (A7 ⟨by simp,(Ys ok (by decide) hmm g1 g2).mono ?_⟩)))))));rintro d x rfl;refine⟨_,rfl,A1 rfl (DQ ⟨_,rfl,(λh=>by simp at h),λ_=>AU (A5 ?_)⟩)⟩;refine AC (Ad (AJ (WX (AK (A3 (A1 rfl (A3 (B2 (A7 ⟨CP,A3 (A1 rfl (A7 ⟨by simp,(On hl8 pm).mono ?_⟩))⟩)))))))));rintro d x rfl;refine⟨_,rfl,true,rfl,_,rfl,(λh=>by simp at h),λ_=>AU (A5 ?_)⟩;obtain⟨p,⟨gg,r1⟩,gg2,r2⟩:=UM ok pm;refine Ad (AJ (A6 (AK (A3 (A1 rfl (A3 (AK (A3 (A1 rfl (A3 (AK (A3 (A1 rfl (A3 (A1 rfl (A7 ⟨by simp,WP.eq r1 ?_⟩))))))))))))))));refine⟨_,rfl,A7 ⟨by simp,WP.eq r2 ?_⟩⟩;refine⟨_,rfl,A3 (AG (A7 ⟨by simp,WP.eq (UJ ok (eN ws c o)) ?_⟩))⟩;refine⟨_,rfl,A1 rfl (DQ ⟨_,rfl,(λh=>by rw[lt]at h;simp at h),λ_=>AU ?_⟩)⟩;subst hR;exact⟨by simp[ca.1,ca.2],_,rfl,AR _,j+1,AO ws,a,b,_,_,_,_,_,_,by omega,by rw[ej,emj],rfl,λz=>⟨ws,c,rfl,ok5 (by omega)⟩,rfl,hT⟩
 .rintro ls hd ⟨j,i2,a,b,z3,z4,z5,z6,z7,z8,hj,er,rfl,hw,rfl,hT⟩;exact A5 (AZ (AG rfl))
def law_eq(ns:List Int):∃hd,cq [.ro ns] []=some (.im (.bl true),hd):=by
 obtain⟨d,x,e,rfl⟩:=aD ns;exact⟨x,e⟩
open PySem L2 PySem.W PyProof.Rows
abbrev xS:Xs:=[("by_dues",((("by_dues":Str)++".<locals>.")++"<lambda>"),62,41)]
def all_mk{l:PySem.W.OpenLaw}{w:World}{K:PySem.W.Frag}{h:Heap}{mg:Str->Option Value}{fa:Addr}{c P:Str->Addr}(X:K.In h)(G:h.Ns mainGlobals mg)(hfa:mg "law"=some (.ref fa))(hx:HX xS mg h c P)(F:PD K):HG l w K xS mg c P fa P1:=by
 obtain⟨Z,h0,h1,h2,h3,h4,h5,h6,h7,h8,h9,h10,h12,h13,h14,h15,h16,h17,h18,h19,h20,h21,h22,h23,h24,h25,h26,h27,h28,h29,h30,h31,h32,h33,h34,h35,h36,h37,h38,h39,h40,h41,p11,h11,tn⟩:=F;have B:=(zsE Z).blt X G;have nd:((Ch (BK K (tbs xS P))).map (·.1)).Nodup:=Zx (ps:=[p11]) (by show [P "by_dues"]=_;rw[((flE (e:=Cr) h11).code X G hx (.head _)).1]) tn;refine TD X G hfa hx (feE h0) bd1 rfl λbase hd bl=>?_;obtain⟨o_is_number,o_is_tuple_of,o_steps_at,o_cost_at,o_same_coming,o_one_coming,o_refuse_other_costs,o_weight_of,o_late_coming,o_by_dues,o_full_weight,o_no_more,o_put_behind,o_greatest_weight,o_look_at_shape,o_look_at_row,o_look_at_places,o_lets_table,o_next_row,o_table_of,o_in_time,o_late_order,o_is_order,o_run,o_ends_of,o_costs_of,o_worth,o_source,o_pick,o_late_works,o_far,o_lby_dues,o_sets,o_highest,o_is_entry,o_shape,o_places,o_last,o_late_weight,o_run_ends,o_is_line,o_law⟩:=oks (E:=enM l w K xS P mg base) B;have g1:=o_same_coming ((feE h1).dn X G hx bd1 l w base);have g2:=o_one_coming ((feE h2).dn X G hx bd1 l w base) g1;have g3:=o_refuse_other_costs ((feE h3).dn X G hx bd2 l w base);have g4:=o_late_coming ((feE h4).dn X G hx bd1 l w base) g2 g3;have g5:=o_weight_of ((feE h5).dn X G hx bd1 l w base);have g6:=o_full_weight ((feE h6).dn X G hx bd1 l w base) g5;have g7:=o_greatest_weight ((feE h7).dn X G hx bd1 l w base);have g8:=o_is_number ((feE h8).dn X G hx bd1 l w base);have g9:=o_is_tuple_of ((feE h9).dn X G hx bd2 l w base);have g10:=o_look_at_shape ((feE h10).dn X G hx bd3 l w base) g8 g9 g6;have g11:=o_by_dues ((flE h11).dl X G hx bd1 (.head _) l w hd bl nd rfl);have g12:=o_no_more ((feE h12).dn X G hx bd2 l w base);have g13:=o_put_behind ((feE h13).dn X G hx bd3 l w base);have g14:=o_look_at_row ((feE h14).dn X G hx bd4 l w base) g12 g13;have g15:=o_look_at_places ((feE h15).dn X G hx bd3 l w base) g4 g11 g12 g14;have g16:=o_lets_table ((feE h16).dn X G hx bd2 l w base) g4 g6 g7 g10 g15;have g17:=o_next_row ((feE h17).dn X G hx bd2 l w base) g12 g13;have g18:=o_table_of ((feE h18).dn X G hx bd1 l w base) g4 g11 g6 g17;have g19:=o_in_time ((feE h19).dn X G hx bd2 l w base) g5 g11 g6 g18;have g20:=o_late_order ((feE h20).dn X G hx bd1 l w base) g11 g7 g18 g19;have g21:=o_is_order ((feE h21).dn X G hx bd3 l w base) g8;have g22:=o_run ((feE h22).dn X G hx bd2 l w base);have g23:=o_ends_of ((feE h23).dn X G hx bd2 l w base);have g24:=o_steps_at ((feE h24).dn X G hx bd2 l w base)
 have g25:=o_cost_at ((feE h25).dn X G hx bd2 l w base) g24;have g26:=o_costs_of ((feE h26).dn X G hx bd2 l w base) g25;have g27:=o_worth ((feE h27).dn X G hx bd3 l w base) g26;have g28:=o_source ((feE h28).dn X G hx bd1 l w base);have g29:=o_pick ((feE h29).dn X G hx bd2 l w base);have g30:=o_late_works ((feE h30).dn X G hx bd2 l w base) g29;have g31:=o_far ((feE h31).dn X G hx bd2 l w base) g29;have g32:=o_lby_dues ((feE h32).dn X G hx bd1 l w base);have g33:=o_sets ((feE h33).dn X G hx bd1 l w base) g32;have g34:=o_is_entry ((feE h34).dn X G hx bd1 l w base);have g35:=o_shape ((feE h35).dn X G hx bd3 l w base) g34;have g36:=o_highest ((feE h36).dn X G hx bd3 l w base);have g37:=o_places ((feE h37).dn X G hx bd3 l w base) g32 g36;have g38:=o_last ((feE h38).dn X G hx bd1 l w base);have g39:=o_late_weight ((feE h39).dn X G hx bd2 l w base);have g40:=o_run_ends ((feE h40).dn X G hx bd2 l w base);have g41:=o_is_line ((feE h41).dn X G hx bd2 l w base);exact o_law ((feE h0).dn X G hx bd1 l w base) g16 g20 g21 g22 g23 g27 g28 g30 g31 g33 g35 g37 g38 g39 g40 g41
end T40
theorem PySem.Challenge.cw_benchdays_k40_late_orders_holds : PySem.Challenge.rw_benchdays_k40_late_orders.Holds := by
 refine T40.early λK F d hd hdf=>L2.walkL T40.xS (l:=PySem.Challenge.rw_benchdays_k40_late_orders) (n:=63) (k:=8) (F:=T40.cq) rfl (by decide) hdf ⟨rfl,by decide,by decide,rfl⟩ (by intro x hx;simp only[T40.xS,mem_cons,not_mem_nil,or_false]at hx;subst hx;exact⟨_,rfl⟩) T40.law_eq (λw h Y=>Y) λw mg fa h c P X G hmg hx=>?_;rw[hd]at hmg;exact T40.all_mk X G hmg hx (F w)
